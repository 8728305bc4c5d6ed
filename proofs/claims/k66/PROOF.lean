import PyProof.Rows.All
import Wide.All
import OpenK.AllK
import Wide.FinOn
import HandS.ForMost
import HandS.IsInst
import HandS.Style
import HandS.Wide
import HandS.NoneIn
import HandS.Codes
import HandS.TupAny
import HandS.TupLe
import HandS.Conv
import HandS.Deep
import HandS.AnyAll
import HandS.Strs
import HandS.Iter
import HandS.SortKw
import KE.GoesEnumKw
import KE.GoesNew
import KE.GoesMore
import HandS.RevRange
import HandS.SortInts
import HandS.Zip
import KE.GoesEnum
import HandS.More
import KE.DataMinMax
import KE.KTupSum
import HandS.TupMul
import HandS.SetFor
import HandS.Defaults
import PyProof.ReprRoads
import PyProof.ReprLen
import HandS.GenList
import HandS.EndTab
import KE.KSortTupG
import HandS.Exc
import HandS.ExcOwn
import HandS.ExcIs
import HandS.WordsExc
import HandS.TryOnly
import HandS.Text
import HandS.StrMore
import HandS.FStr
import HandS.DictComp
import HandS.DictTup
import HandS.SortOrd
import KE.SortKeyHeap
import PySem.Challenge.RW_evenwires_k66_whole_tables_of_any_hand
set_option Elab.async false
set_option linter.all false
set_option maxRecDepth 100000
namespace Ew
open PySem PySem.Spec PyProof.Rows L2
/-- what may have happened between two heaps: only what stands in S is changed; tuples and locked things stay -/
structure Evo (S : List Addr) (H H' : Hp) : Prop where
  old : ∀ a o, H a = some o → a ∉ S → H' a = some o
  tup : ∀ a xs, H a = some (.tup xs) → H' a = some (.tup xs)
  frz : ∀ a o u, H a = some (.frz o u) → H' a = some (.frz o u)
section
variable {K : PySem.W.Frag} {S S' : List Addr} {H H1 H2 H' : Hp} {a p q : Addr} {o x y : HO} {xs ys : List V}
theorem get_new (hp : H p = none) (h : H a = some x) : upd H p o a = some x := by rw [upd_ne (ne_of_none h hp)]; exact h
theorem get_ne (hn : a ≠ p) (h : H a = some x) : upd H p o a = some x := by rw [upd_ne hn]; exact h
theorem Evo.refl (S : List Addr) (H : Hp) : Evo S H H := ⟨fun _ _ h _ => h, fun _ _ h => h, fun _ _ _ h => h⟩
theorem Evo.trans (e : Evo S H H1) (f : Evo S H1 H2) : Evo S H H2 := ⟨fun a o h n => f.old a o (e.old a o h n) n, fun a xs h => f.tup a xs (e.tup a xs h), fun a o u h => f.frz a o u (e.frz a o u h)⟩
/-- a new thing -/
theorem Evo.new (e : Evo S H H1) (hp : H1 p = none) : Evo S H (upd H1 p o) :=
  ⟨fun a u h n => get_new hp (e.old a u h n), fun a ys h => get_new hp (e.tup a ys h), fun a u v h => get_new hp (e.frz a u v h)⟩
/-- a thing that was not there at the beginning is changed -/
theorem Evo.mut (e : Evo S H H1) (hp : H p = none) : Evo S H (upd H1 p o) :=
  ⟨fun a u h n => get_ne (ne_of_none h hp) (e.old a u h n), fun a ys h => get_ne (ne_of_none h hp) (e.tup a ys h), fun a u v h => get_ne (ne_of_none h hp) (e.frz a u v h)⟩
/-- a thing of S is changed -/
theorem Evo.set (e : Evo S H H1) (hp : p ∈ S) (hm : ∀ ys, H p ≠ some (.tup ys)) (hf : ∀ u v, H p ≠ some (.frz u v)) : Evo S H (upd H1 p o) :=
  ⟨fun a u h n => get_ne (fun z => n (z ▸ hp)) (e.old a u h n), fun a ys h => get_ne (fun z => hm ys (z ▸ h)) (e.tup a ys h), fun a u v h => get_ne (fun z => hf u v (z ▸ h)) (e.frz a u v h)⟩
/-- a callee's changes -/
theorem Evo.call (e : Evo S H H1) (f : Evo S' H1 H2) (h : ∀ s ∈ S', s ∈ S ∨ H s = none) : Evo S H H2 :=
  ⟨fun a o ha n => f.old a o (e.old a o ha n) fun m => (h a m).elim n (fun z => nomatch (ha.symm.trans z)), fun a xs h => f.tup a xs (e.tup a xs h), fun a o u h => f.frz a o u (e.frz a o u h)⟩
theorem Evo.get (e : Evo S H H') (hn : a ∉ S) (h : H a = some x) : H' a = some x := e.old a x h hn
theorem Evo.fresh (e : Evo [] H H') (h : H' p = none) : H p = none := by
  cases q : H p with
  | none => rfl
  | some o =>
    rw [e.old p o q (by intro z; cases z)] at h
    cases h
end
theorem sz {n : Nat} (h : n ≤ 100000) : n ≤ sizeLine := Nat.le_trans h (by decide)
/-- a test by its answer -/
theorem iteD {c : Prop} [Decidable c] {A B : Prop} (h1 : c → A) (h2 : ¬ c → B) : if decide c = true then A else B := by
  by_cases h : c
  · rw [if_pos (decide_eq_true h)]; exact h1 h
  · rw [if_neg (by rw [decide_eq_false h]; exact Bool.false_ne_true)]; exact h2 h
theorem iteN {c : Prop} [Decidable c] {A B : Prop} (h1 : ¬ c → A) (h2 : c → B) : if (!decide c) = true then A else B := by
  by_cases h : c
  · rw [if_neg (by rw [decide_eq_true h]; exact Bool.false_ne_true)]; exact h2 h
  · rw [if_pos (by rw [decide_eq_false h]; rfl)]; exact h1 h
end Ew
namespace Ew
open PySem PySem.Spec PyProof.Rows L2
/-! readings by lemmas: what is asked, in the form that it has when it is asked -/
section
variable {K : PySem.W.Frag} {H : Hp} {a b p : Addr} {xs ys : List V} {i : Int} {v x y : V} {R : V → Prop} {kvs kvs' : List (Key × V)} {s : Str}
theorem lt2 {b : Bool} {r : V} : ∀ {i : Int}, 0 ≤ i → i < 2 → i = 0 ∨ i = 1 := by intro i h1 h2; omega
end
end Ew
namespace Ew
open PySem PySem.Spec PyProof.Rows L2
theorem tup_mut {H : Hp} {a p : Addr} {o : HO} {xs ys : List V} (hm : H p = some (.lst ys)) (h : H a = some (.tup xs)) : upd H p o a = some (.tup xs) := get_ne (ne_of h hm (by intro z; cases z)) h
/-- a written power -/
theorem op_powC {X : Cx} (b e r : Int) (hc : CPow b e := by exact ⟨by decide, by decide, by decide⟩) (hr : b ^ e.toNat = r := by rfl) : OpR X (binaryOp .Pow) (fun x y H Q => x = .int b ∧ y = .int e ∧ Q (.int r) H) :=
  fun pins s σ H x y v u Q I rx ry h => op_pow pins s σ H x y v u Q I rx ry ⟨b, e, h.1, h.2.1, hc, by show Q (.int (b ^ e.toNat)) H; rw [hr]; exact h.2.2⟩
end Ew
namespace Ew
open PySem PySem.Spec PyProof.Rows L2
/-! data that are rows of whole numbers -/
def intsOf : List V → Option (List Int)
  | [] => some []
  | .int i :: r => match intsOf r with
    | some z => some (i :: z)
    | none => none
  | _ => none
theorem intsOf_map : ∀ {vs : List V} {xs : List Int}, intsOf vs = some xs → vs = xs.map V.int
  | [], _, h => by cases h; rfl
  | .int i :: r, xs, h => by
    unfold intsOf at h
    cases e : intsOf r with
    | none => rw [e] at h; cases h
    | some z =>
      rw [e] at h
      cases h
      rw [intsOf_map e]
      rfl
  | .non :: _, _, h => by cases h
  | .bl _ :: _, _, h => by cases h
  | .str _ :: _, _, h => by cases h
  | .byt _ :: _, _, h => by cases h
  | .flt _ :: _, _, h => by cases h
  | .ref _ :: _, _, h => by cases h
  | .ty _ :: _, _, h => by cases h
theorem intsOf_of : ∀ xs : List Int, intsOf (xs.map V.int) = some xs
  | [] => rfl
  | x :: r => by
    show (match intsOf (r.map V.int) with | some z => some (x :: z) | none => none) = _
    rw [intsOf_of r]
theorem dpInts {K : PySem.W.Frag} {H : Hp} : ∀ xs : List Int, DpAll K H (xs.map V.int) (xs.map PyData.int)
  | [] => .nil
  | x :: r => .cons (.int x) (dpInts r)
theorem canInts : ∀ xs : List Int, PyData.canLayAll0 (xs.map PyData.int) = true
  | [] => by simp [PyData.canLayAll0]
  | x :: r => by
    show PyData.canLayAll0 (PyData.int x :: r.map PyData.int) = true
    simp [PyData.canLayAll0, PyData.canLay0, canInts r]
theorem depInts : ∀ xs : List Int, PyData.depthAll (xs.map PyData.int) ≤ 1
  | [] => by simp [PyData.depthAll]
  | x :: r => by
    show PyData.depthAll (PyData.int x :: r.map PyData.int) ≤ 1
    have h := depInts r
    simp [PyData.depthAll, PyData.depth]
    omega
theorem shIntsL (xs : List Int) : SeqAt.shaped (.list (xs.map PyData.int)) = true := by
  have h := depInts xs
  simp [SeqAt.shaped, PyData.canLay0, canInts xs, PyData.depth]
  omega
theorem eqvAllInts : ∀ xs ys : List Int, PyData.eqvAll (xs.map PyData.int) (ys.map PyData.int) = decide (xs = ys)
  | [], [] => by simp [PyData.eqvAll]
  | [], y :: _ => by simp [PyData.eqvAll]
  | x :: _, [] => by simp [PyData.eqvAll]
  | x :: r, y :: q => by
    show PyData.eqvAll (PyData.int x :: r.map PyData.int) (PyData.int y :: q.map PyData.int) = _
    have e : PyData.eqvAll (PyData.int x :: r.map PyData.int) (PyData.int y :: q.map PyData.int) = ((x == y) && PyData.eqvAll (r.map PyData.int) (q.map PyData.int)) := by simp [PyData.eqvAll, PyData.eqv]
    rw [e, eqvAllInts r q]
    by_cases h : x = y
    · by_cases h2 : r = q
      · simp [h, h2]
      · simp [h, h2]
    · simp [h]
theorem eqvL (xs ys : List Int) : PyData.eqv (.list (xs.map PyData.int)) (.list (ys.map PyData.int)) = decide (xs = ys) := by
  rw [← eqvAllInts]; simp [PyData.eqv]
section
variable {K : PySem.W.Frag} {H : Hp} {a b p : Addr} {vs us : List V} {xs ys : List Int} {R : V → Prop}
/-- == of data: its answer -/
def EqR (K : PySem.W.Frag) (H : Hp) (x y : V) (c : Bool) : Prop := ∃ d e, Dp K H x d ∧ Dp K H y e ∧ SeqAt.shaped d = true ∧ SeqAt.shaped e = true ∧ PyData.eqv d e = c
def rNeX (K : PySem.W.Frag) : R2 := fun x y H Q => ∃ c, EqR K H x y c ∧ Q (.bl (!c)) H
theorem op_neX {X : Cx} (hu : X.A.units + 64 < cLine) : OpR X (compareOp .NotEq) (rNeX X.K) := fun pins s σ H x y v u Q I rx ry ⟨c, ⟨d, e, h1, h2, h3, h4, h5⟩, q⟩ =>
  op_neD hu pins s σ H x y v u Q I rx ry ⟨d, e, h1, h2, h3, h4, h5 ▸ q⟩
theorem eqL (h1 : H a = some (.lst vs)) (h2 : H b = some (.lst us)) (e1 : intsOf vs = some xs) (e2 : intsOf us = some ys) : EqR K H (.ref a) (.ref b) (decide (xs = ys)) := by
  have q1 := intsOf_map e1; have q2 := intsOf_map e2; subst q1 q2
  exact ⟨_, _, .lst (SqL.of h1) (dpInts xs), .lst (SqL.of h2) (dpInts ys), shIntsL _, shIntsL _, eqvL _ _⟩
end
theorem cut63 {xs : List V} (h : xs.length ≤ 63) : cutV xs none (some 63) = xs := by
  unfold cutV
  rw [show HT.sIx xs.length xs.length (some 63) = min 63 xs.length from HT.sIx_nat xs.length xs.length 63, HT.sIx_none, List.drop_zero, Nat.sub_zero]
  exact List.take_of_length_le (by omega)
end Ew
namespace Ew
abbrev ab (x : Int) : Int := if x < 0 then -x else x
end Ew
namespace Ew
open PySem PySem.Spec PyProof.Rows L2
/-! lists of rows of whole numbers -/
inductive RowsAt (H : Hp) : List V → List (List Int) → Prop
  | nil : RowsAt H [] []
  | cons {a : Addr} {vs : List V} {r : List Int} {rs : List (List Int)} : H a = some (.tup (r.map V.int)) → RowsAt H vs rs → RowsAt H (.ref a :: vs) (r :: rs)
theorem RowsAt.mono {H H' : Hp} (f : ∀ a xs, H a = some (.tup xs) → H' a = some (.tup xs)) : ∀ {vs : List V} {rs : List (List Int)}, RowsAt H vs rs → RowsAt H' vs rs
  | _, _, .nil => .nil
  | _, _, .cons h t => .cons (f _ _ h) (RowsAt.mono f t)
theorem RowsAt.evo {S : List Addr} {H H' : Hp} {vs : List V} {rs : List (List Int)} (e : Evo S H H') (h : RowsAt H vs rs) : RowsAt H' vs rs := h.mono e.tup
theorem RowsAt.new {H : Hp} {p : Addr} {o : HO} {vs : List V} {rs : List (List Int)} (h : RowsAt H vs rs) (hp : H p = none) : RowsAt (upd H p o) vs rs := h.mono fun _ _ q => get_new hp q
theorem RowsAt.mut {H : Hp} {p : Addr} {o : HO} {ys vs : List V} {rs : List (List Int)} (h : RowsAt H vs rs) (hp : H p = some (.lst ys)) : RowsAt (upd H p o) vs rs := h.mono fun _ _ q => tup_mut hp q
theorem RowsAt.length {H : Hp} : ∀ {vs : List V} {rs : List (List Int)}, RowsAt H vs rs → vs.length = rs.length
  | _, _, .nil => rfl
  | _, _, .cons _ t => congrArg Nat.succ (RowsAt.length t)
theorem RowsAt.snoc {H : Hp} {a : Addr} {r : List Int} (h : H a = some (.tup (r.map V.int))) : ∀ {vs : List V} {rs : List (List Int)}, RowsAt H vs rs → RowsAt H (vs ++ [.ref a]) (rs ++ [r])
  | _, _, .nil => .cons h .nil
  | _, _, .cons q t => .cons q (RowsAt.snoc h t)
theorem RowsAt.get {H : Hp} : ∀ {vs : List V} {rs : List (List Int)} {i : Nat} {r : List Int}, RowsAt H vs rs → rs[i]? = some r → ∃ a, vs[i]? = some (.ref a) ∧ H a = some (.tup (r.map V.int))
  | _, _, _, _, .nil, e => by cases e
  | _, _, 0, _, .cons q _, e => by cases e; exact ⟨_, rfl, q⟩
  | _, _, i + 1, _, .cons _ t, e => RowsAt.get (i := i) t e
theorem RowsAt.dp {K : PySem.W.Frag} {H : Hp} : ∀ {vs : List V} {rs : List (List Int)}, RowsAt H vs rs → DpAll K H vs (rs.map fun r => .tuple (r.map PyData.int))
  | _, _, .nil => .nil
  | _, _, .cons h t => .cons (.tup (SqT.of h) (dpInts _)) (RowsAt.dp t)
end Ew
namespace Ew
open PySem PySem.Spec PyProof.Rows L2
/-! slices, by what they come to -/
def rSlE (K : PySem.W.Frag) : V → Option Int → Option Int → Hp → VK → Prop := fun x lo hi H Q => ∃ a xs ys, x = .ref a ∧ SqL K H a xs ∧ cutV xs lo hi = ys ∧ ∀ p, H p = none → Q (.ref p) (upd H p (.lst ys))
theorem sl_listE {X : Cx} : SlR X (rSlE X.K) := fun pins s σ H x v vl vu lo hi sl Q I rx hs pl pu ⟨a, xs, ys, h1, h2, h3, h4⟩ =>
  sl_list pins s σ H x v vl vu lo hi sl Q I rx hs pl pu ⟨a, xs, h1, h2, fun p hp => h3 ▸ h4 p hp⟩
end Ew
/-- the tables of codes of the defs that hold generator expressions -/
class Tbs where
  tb : List PySem.Addr
  wd : PySem.World
namespace Pu
open PySem PySem.Spec PyProof.Rows L2
variable [Tbs]
/-! Data without places: what a value shows. -/
inductive D where
  | non | bl (b : Bool) | int (i : Int) | str (s : Str) | ty (n : String)
  | tup (xs : List D) | lst (xs : List D) | dic (kvs : List (Key × D))
  | deck (n : Nat)
  | dpr (kvs : List (List Int × Int))
  | dfz (kvs : List (Int × Int))
  | st (ns : List Int)
  | bor (xs : List D)
  | opq (a : Addr)
  | dpd (kvs : List (List Int × D))
/-- the members of a set -/
def memB (ns : List Int) : Int → Bool := fun j => decide (j ∈ ns)
/-- a dict by pairs of whole numbers, its values whole numbers -/
def dtV (ds : List (List Int × Int)) : List (List Key × V) := ds.map fun q => (q.1.map Sum.inl, V.int q.2)
/-- a dict by whole numbers, its values whole numbers, that is changed no more -/
def dzV (ds : List (Int × Int)) : List (Key × V) := ds.map fun p => (Sum.inl p.1, V.int p.2)
/-! the decks of the laws: what a deck at dk with its cells at c is, by its kind -/
def dkA (c : Addr) (l s n : Int) : List (Key × V) := [(.inr "cells", .ref c), (.inr "left", .int l), (.inr "seed", .int s), (.inr "count", .int n)]
def dkB (c : Addr) (a r s : Int) : List (Key × V) := [(.inr "cells", .ref c), (.inr "at", .int a), (.inr "rest", .int r), (.inr "seed", .int s)]
def dkC (c : Addr) (g s t : Int) : List (Key × V) := [(.inr "cells", .ref c), (.inr "great", .int g), (.inr "seed", .int s), (.inr "turn", .int t)]
def dkE (c : Addr) (s : Int) : List (Key × V) := [(.inr "cells", .ref c), (.inr "seed", .int s)]
def DkF : Nat → Hp → Addr → Addr → Prop
  | 1, H, dk, c => ∃ (l s n : Int) (cs : List Int), H dk = some (.dK (dkA c l s n)) ∧ H c = some (.lst (cs.map V.int)) ∧ 0 ≤ s ∧ s < 4294967296
  | 2, H, dk, c => ∃ (a r s : Int) (cs : List Int), H dk = some (.dK (dkB c a r s)) ∧ H c = some (.lst (cs.map V.int)) ∧ 0 ≤ a ∧ 0 ≤ s ∧ s < 4294967296
  | 3, H, dk, c => ∃ (s n g : Int) (cs : List Int), H dk = some (.lst [.ref c, .int s, .int n, .int g]) ∧ H c = some (.lst (cs.map V.int)) ∧ True
  | 4, H, dk, c => ∃ (g s t : Int) (cs : List Int), H dk = some (.dK (dkC c g s t)) ∧ H c = some (.lst (cs.map V.int)) ∧ True
  | 5, H, dk, c => ∃ (s n _g : Int) (cs : List Int), H dk = some (.lst [.ref c, .int s, .int n]) ∧ H c = some (.lst (cs.map V.int)) ∧ 0 ≤ s ∧ s < 4294967296
  | 6, H, dk, c => ∃ (s n g : Int) (cs : List Int), H dk = some (.lst [.ref c, .int s, .int n, .int g]) ∧ H c = some (.lst (cs.map V.int)) ∧ True
  | 8, H, dk, c => ∃ (s n g : Int) (cs : List Int), H dk = some (.lst [.int g, .int s, .int n]) ∧ H c = some (.lst (cs.map V.int)) ∧ True
  | 7, H, dk, c => ∃ (s _n _g : Int) (cs : List Int), H dk = some (.dK (dkE c s)) ∧ H c = some (.lst (cs.map V.int)) ∧ 0 ≤ s ∧ s < 4294967296
  | _, _, _, _ => False
theorem DkF.keep {n : Nat} {H H' : Hp} {dk c : Addr} (h : DkF n H dk c) (h1 : ∀ o, H dk = some o → H' dk = some o) (h2 : ∀ o, H c = some o → H' c = some o) : DkF n H' dk c := by
  unfold DkF at h ⊢
  split at h
  · obtain ⟨l, s, n, cs, e1, e2, r⟩ := h; exact ⟨l, s, n, cs, h1 _ e1, h2 _ e2, r⟩
  · obtain ⟨l, s, n, cs, e1, e2, r⟩ := h; exact ⟨l, s, n, cs, h1 _ e1, h2 _ e2, r⟩
  · obtain ⟨l, s, n, cs, e1, e2, r⟩ := h; exact ⟨l, s, n, cs, h1 _ e1, h2 _ e2, r⟩
  · obtain ⟨l, s, n, cs, e1, e2, r⟩ := h; exact ⟨l, s, n, cs, h1 _ e1, h2 _ e2, r⟩
  · obtain ⟨l, s, n, cs, e1, e2, r⟩ := h; exact ⟨l, s, n, cs, h1 _ e1, h2 _ e2, r⟩
  · obtain ⟨l, s, n, cs, e1, e2, r⟩ := h; exact ⟨l, s, n, cs, h1 _ e1, h2 _ e2, r⟩
  · obtain ⟨l, s, n, cs, e1, e2, r⟩ := h; exact ⟨l, s, n, cs, h1 _ e1, h2 _ e2, r⟩
  · obtain ⟨l, s, n, cs, e1, e2, r⟩ := h; exact ⟨l, s, n, cs, h1 _ e1, h2 _ e2, r⟩
  · exact h.elim
theorem DkF.al {n : Nat} {H : Hp} {dk c : Addr} (h : DkF n H dk c) : H dk ≠ none ∧ H c ≠ none := by
  have nt : ∀ {u : HO}, some u ≠ none := fun q => by cases q
  unfold DkF at h
  split at h
  · obtain ⟨l, s, n, cs, e1, e2, r⟩ := h; rw [e1, e2]; exact ⟨nt, nt⟩
  · obtain ⟨l, s, n, cs, e1, e2, r⟩ := h; rw [e1, e2]; exact ⟨nt, nt⟩
  · obtain ⟨l, s, n, cs, e1, e2, r⟩ := h; rw [e1, e2]; exact ⟨nt, nt⟩
  · obtain ⟨l, s, n, cs, e1, e2, r⟩ := h; rw [e1, e2]; exact ⟨nt, nt⟩
  · obtain ⟨l, s, n, cs, e1, e2, r⟩ := h; rw [e1, e2]; exact ⟨nt, nt⟩
  · obtain ⟨l, s, n, cs, e1, e2, r⟩ := h; rw [e1, e2]; exact ⟨nt, nt⟩
  · obtain ⟨l, s, n, cs, e1, e2, r⟩ := h; rw [e1, e2]; exact ⟨nt, nt⟩
  · obtain ⟨l, s, n, cs, e1, e2, r⟩ := h; rw [e1, e2]; exact ⟨nt, nt⟩
  · exact h.elim
/-- the count of a deck that counts (kinds 6, 8) -/
def CtF : Nat → Hp → Addr → Addr → Nat → Prop
  | 6, H, dk, c, n => ∃ s g : Int, H dk = some (.lst [.ref c, .int s, .int (n : Int), .int g])
  | 8, H, dk, _, n => ∃ g s : Int, H dk = some (.lst [.int g, .int s, .int (n : Int)])
  | _, _, _, _, _ => True
theorem CtF.keep {k : Nat} {H H' : Hp} {dk c : Addr} {n : Nat} (h : CtF k H dk c n) (h1 : ∀ o, H dk = some o → H' dk = some o) : CtF k H' dk c n := by
  unfold CtF at h ⊢
  split at h
  · obtain ⟨s, g, q⟩ := h; exact ⟨s, g, h1 _ q⟩
  · obtain ⟨s, g, q⟩ := h; exact ⟨s, g, h1 _ q⟩
  · trivial
/-- the zone of places that calls may change: the law's deck (nt: its kind, 0: none) -/
structure Zn where
  dk : Addr
  c : Addr
  nt : Nat
  /-- a list that is borrowed -/
  bo : Option Addr := Option.none
  /-- how many draws there were, of a deck that counts (kind 6) -/
  ct : Nat := 0
def Zn.Z (z : Zn) : Addr → Prop := fun a => (z.nt ≠ 0 ∧ (a = z.dk ∨ a = z.c)) ∨ a ∈ Tbs.tb
/-- the tables stand -/
def Tabs (H : Hp) : Prop := ∀ P ∈ Tbs.tb, GxR.TabG H P
def Zn.ok (z : Zn) (H : Hp) (a : Addr) : Prop := a = z.dk ∧ z.nt ≠ 0 ∧ DkF z.nt H z.dk z.c ∧ CtF z.nt H z.dk z.c z.ct
theorem Zn.keep (z : Zn) : ∀ (H H' : Hp) (a : Addr), z.ok H a → (∀ b o, z.Z b → H b = some o → H' b = some o) → z.ok H' a := fun H H' a ⟨h1, h2, h3, h4⟩ k => ⟨h1, h2, h3.keep (fun o q => k _ o (.inl ⟨h2, .inl rfl⟩) q) (fun o q => k _ o (.inl ⟨h2, .inr rfl⟩) q), h4.keep fun o q => k _ o (.inl ⟨h2, .inl rfl⟩) q⟩
/-- no deck yet -/
def Zn.none : Zn := ⟨0, 0, 0, Option.none, 0⟩
mutual
/-- the value v shows d; no list or dict of it stands in M -/
inductive Is (z : Zn) (M : Addr → Prop) (H : Hp) : V → D → Prop
  | non : Is z M H .non .non
  | bl (b : Bool) : Is z M H (.bl b) (.bl b)
  | int (i : Int) : Is z M H (.int i) (.int i)
  | str (s : Str) : Is z M H (.str s) (.str s)
  | ty (n : String) : Is z M H (.ty n) (.ty n)
  | tup {a : Addr} {vs : List V} {ds : List D} : H a = some (.tup vs) → ¬ M a → IsA z M H vs ds → Is z M H (.ref a) (.tup ds)
  | lst {a : Addr} {vs : List V} {ds : List D} : H a = some (.lst vs) → ¬ M a → IsA z M H vs ds → Is z M H (.ref a) (.lst ds)
  | dic {a : Addr} {vs : List (Key × V)} {ds : List (Key × D)} : H a = some (.dK vs) → ¬ M a → IsK z M H vs ds → Is z M H (.ref a) (.dic ds)
  | deck {a : Addr} : z.ok H a → Is z M H (.ref a) (.deck z.nt)
  | dpr {a : Addr} {ds : List (List Int × Int)} : H a = some (.dT (dtV ds)) → ¬ M a → Is z M H (.ref a) (.dpr ds)
  | dfz {a : Addr} {o : Obj} {ds : List (Int × Int)} : H a = some (.frz o (.dK (dzV ds))) → ¬ M a → Is z M H (.ref a) (.dfz ds)
  | st {a : Addr} {ns : List Int} {n : Nat} : H a = some (SetO Tbs.wd a (memB ns) n) → n ≤ ns.length → ¬ M a → Is z M H (.ref a) (.st ns)
  | bor {a : Addr} {vs : List V} {ds : List D} : H a = some (.lst vs) → ¬ M a → IsA z M H vs ds → Is z M H (.ref a) (.bor ds)
  | opq (a : Addr) : Is z M H (.ref a) (.opq a)
  | dpd {a : Addr} {vs : List (List Key × V)} {ds : List (List Int × D)} : H a = some (.dT vs) → ¬ M a → vs.map (·.1) = ds.map (fun p => p.1.map Sum.inl) → IsA z M H (vs.map (·.2)) (ds.map (·.2)) → Is z M H (.ref a) (.dpd ds)
inductive IsA (z : Zn) (M : Addr → Prop) (H : Hp) : List V → List D → Prop
  | nil : IsA z M H [] []
  | cons {v : V} {d : D} {vs : List V} {ds : List D} : Is z M H v d → IsA z M H vs ds → IsA z M H (v :: vs) (d :: ds)
inductive IsK (z : Zn) (M : Addr → Prop) (H : Hp) : List (Key × V) → List (Key × D) → Prop
  | nil : IsK z M H [] []
  | cons {k : Key} {v : V} {d : D} {vs : List (Key × V)} {ds : List (Key × D)} : Is z M H v d → IsK z M H vs ds → IsK z M H ((k, v) :: vs) ((k, d) :: ds)
end
section
variable {z : Zn} {M M' : Addr → Prop} {H H' : Hp}
mutual
theorem Is.gen (h1 : ∀ a o, H a = some o → ¬ M a → H' a = some o ∧ ¬ M' a) (h2 : ∀ a, z.ok H a → z.ok H' a) : ∀ {v : V} {d : D}, Is z M H v d → Is z M' H' v d
  | _, _, .non => .non
  | _, _, .bl b => .bl b
  | _, _, .int i => .int i
  | _, _, .str s => .str s
  | _, _, .ty n => .ty n
  | _, _, .tup e n r => .tup (h1 _ _ e n).1 (h1 _ _ e n).2 (IsA.gen h1 h2 r)
  | _, _, .lst e n r => .lst (h1 _ _ e n).1 (h1 _ _ e n).2 (IsA.gen h1 h2 r)
  | _, _, .dic e n r => .dic (h1 _ _ e n).1 (h1 _ _ e n).2 (IsK.gen h1 h2 r)
  | _, _, .deck e => .deck (h2 _ e)
  | _, _, .dpr e n => .dpr (h1 _ _ e n).1 (h1 _ _ e n).2
  | _, _, .dfz e n => .dfz (h1 _ _ e n).1 (h1 _ _ e n).2
  | _, _, .st e l n => .st (h1 _ _ e n).1 l (h1 _ _ e n).2
  | _, _, .bor e n r => .bor (h1 _ _ e n).1 (h1 _ _ e n).2 (IsA.gen h1 h2 r)
  | _, _, .opq v => .opq v
  | _, _, .dpd e n q r => .dpd (h1 _ _ e n).1 (h1 _ _ e n).2 q (IsA.gen h1 h2 r)
theorem IsA.gen (h1 : ∀ a o, H a = some o → ¬ M a → H' a = some o ∧ ¬ M' a) (h2 : ∀ a, z.ok H a → z.ok H' a) : ∀ {v : List V} {d : List D}, IsA z M H v d → IsA z M' H' v d
  | _, _, .nil => .nil
  | _, _, .cons h t => .cons (Is.gen h1 h2 h) (IsA.gen h1 h2 t)
theorem IsK.gen (h1 : ∀ a o, H a = some o → ¬ M a → H' a = some o ∧ ¬ M' a) (h2 : ∀ a, z.ok H a → z.ok H' a) : ∀ {v : List (Key × V)} {d : List (Key × D)}, IsK z M H v d → IsK z M' H' v d
  | _, _, .nil => .nil
  | _, _, .cons h t => .cons (Is.gen h1 h2 h) (IsK.gen h1 h2 t)
end
theorem IsA.length : ∀ {vs : List V} {ds : List D}, IsA z M H vs ds → vs.length = ds.length
  | _, _, .nil => rfl
  | _, _, .cons _ t => congrArg Nat.succ (IsA.length t)
theorem IsA.append : ∀ {vs us : List V} {ds es : List D}, IsA z M H vs ds → IsA z M H us es → IsA z M H (vs ++ us) (ds ++ es)
  | _, _, _, _, .nil, h => h
  | _, _, _, _, .cons q t, h => .cons q (IsA.append t h)
theorem IsA.get : ∀ {vs : List V} {ds : List D} {i : Nat} {d : D}, IsA z M H vs ds → ds[i]? = some d → ∃ v, vs[i]? = some v ∧ Is z M H v d
  | _, _, _, _, .nil, e => by cases e
  | _, _, 0, _, .cons q _, e => by cases e; exact ⟨_, rfl, q⟩
  | _, _, i + 1, _, .cons _ t, e => IsA.get (i := i) t e
theorem IsA.take : ∀ {vs : List V} {ds : List D} (n : Nat), IsA z M H vs ds → IsA z M H (vs.take n) (ds.take n)
  | _, _, 0, _ => .nil
  | _, _, _ + 1, .nil => .nil
  | _, _, n + 1, .cons q t => .cons q (IsA.take n t)
theorem IsA.drop : ∀ {vs : List V} {ds : List D} (n : Nat), IsA z M H vs ds → IsA z M H (vs.drop n) (ds.drop n)
  | _, _, 0, h => h
  | _, _, _ + 1, .nil => .nil
  | _, _, n + 1, .cons _ t => IsA.drop n t
theorem IsA.set {v : V} {d : D} (h : Is z M H v d) : ∀ {vs : List V} {ds : List D} (n : Nat), IsA z M H vs ds → IsA z M H (vs.set n v) (ds.set n d)
  | _, _, _, .nil => .nil
  | _, _, 0, .cons _ t => .cons h t
  | _, _, n + 1, .cons q t => .cons q (IsA.set h n t)
theorem IsA.eraseIdx : ∀ {vs : List V} {ds : List D} (n : Nat), IsA z M H vs ds → IsA z M H (vs.eraseIdx n) (ds.eraseIdx n)
  | _, _, _, .nil => .nil
  | _, _, 0, .cons _ t => t
  | _, _, n + 1, .cons q t => .cons q (IsA.eraseIdx n t)
theorem IsA.reverse {vs : List V} {ds : List D} (h : IsA z M H vs ds) : IsA z M H vs.reverse ds.reverse := by
  induction h using IsA.rec (motive_1 := fun _ _ _ => True) (motive_3 := fun _ _ _ => True) with
  | nil => exact .nil
  | cons q t _ ih =>
    rw [List.reverse_cons, List.reverse_cons]
    exact ih.append (.cons q .nil)
  | _ => trivial
theorem IsA.dropLast : ∀ {vs : List V} {ds : List D}, IsA z M H vs ds → IsA z M H vs.dropLast ds.dropLast
  | _, _, .nil => .nil
  | _, _, .cons _ .nil => .nil
  | _, _, .cons q (.cons r t) => .cons q (IsA.dropLast (.cons r t))
theorem IsA.ints : ∀ {vs : List V} {ns : List Int}, IsA z M H vs (ns.map D.int) → vs = ns.map V.int
  | _, [], .nil => rfl
  | _, n :: ns, .cons q t => by cases q; rw [IsA.ints t]; rfl
theorem IsA.ofInts : ∀ (ns : List Int), IsA z M H (ns.map V.int) (ns.map D.int)
  | [] => .nil
  | n :: ns => .cons (.int n) (IsA.ofInts ns)
end
/-! what may happen to the heap -/
structure Evo (z : Zn) (H H' : Hp) : Prop where
  old : ∀ a o, H a = some o → ¬ z.Z a → H' a = some o
  al : ∀ a, H a ≠ none → H' a ≠ none
  dk : ∀ a, z.ok H a → z.ok H' a
  tab : Tabs H → Tabs H'
section
variable {z : Zn} {M M' : Addr → Prop} {H H1 H2 H' : Hp} {p : Addr} {o : HO} {v : V} {d : D}
theorem Tabs.at (h : Tabs H) {P : Addr} (hP : P ∈ Tbs.tb) : H P ≠ none := by
  obtain ⟨ps, e, _⟩ := h P hP
  rw [e]; intro q; cases q
theorem Tabs.new (h : Tabs H) (hp : H p = none) : Tabs (upd H p o) := fun P hP => by
  obtain ⟨ps, e, t⟩ := h P hP
  exact ⟨ps, by rw [upd_ne (ne_of_none e hp)]; exact e, t⟩
theorem Tabs.mut (h : Tabs H) (hp : ¬ z.Z p) : Tabs (upd H p o) := fun P hP => by
  obtain ⟨ps, e, t⟩ := h P hP
  exact ⟨ps, by rw [upd_ne (fun w => hp (.inr (by rw [← w]; exact hP)))]; exact e, t⟩
theorem Evo.refl (z : Zn) (H : Hp) : Evo z H H := ⟨fun _ _ h _ => h, fun _ h => h, fun _ h => h, fun h => h⟩
theorem Evo.trans (a : Evo z H H1) (b : Evo z H1 H2) : Evo z H H2 := ⟨fun x o h n => b.old x o (a.old x o h n) n, fun x h => b.al x (a.al x h), fun x h => b.dk x (a.dk x h), fun h => b.tab (a.tab h)⟩
theorem Evo.fresh (a : Evo z H H1) (h : H1 p = none) : H p = none := by
  cases q : H p with
  | none => rfl
  | some o => exact absurd h (a.al p (by rw [q]; intro z; cases z))
theorem ok_new (hp : H p = none) {a : Addr} (h : z.ok H a) : z.ok (upd H p o) a :=
  z.keep _ _ _ h fun b u _ e => by rw [upd_ne (ne_of_none e hp)]; exact e
theorem ok_mut (hp : ¬ z.Z p) {a : Addr} (h : z.ok H a) : z.ok (upd H p o) a :=
  z.keep _ _ _ h fun b u zb e => by rw [upd_ne (fun q => hp (by rw [← q]; exact zb))]; exact e
theorem Evo.new (a : Evo z H H1) (hp : H1 p = none) : Evo z H (upd H1 p o) :=
  ⟨fun x u h n => by rw [upd_ne (ne_of_none (a.old x u h n) hp)]; exact a.old x u h n, fun x h => by
    by_cases e : x = p
    · rw [e, upd_same]; intro z; cases z
    · rw [upd_ne e]; exact a.al x h, fun x h => ok_new hp (a.dk x h), fun h => (a.tab h).new hp⟩
/-- a thing that was not there at first is changed -/
theorem Evo.mut (a : Evo z H H1) (hp : H p = none) (hz : ¬ z.Z p) : Evo z H (upd H1 p o) :=
  ⟨fun x u h n => by rw [upd_ne (ne_of_none h hp)]; exact a.old x u h n, fun x h => by
    by_cases e : x = p
    · rw [e, upd_same]; intro z; cases z
    · rw [upd_ne e]; exact a.al x h, fun x h => ok_mut hz (a.dk x h), fun h => (a.tab h).mut hz⟩
theorem Is.evo (hM : ∀ a, z.Z a → M a) (e : Evo z H H') (h : Is z M H v d) : Is z M H' v d := h.gen (fun a o q n => ⟨e.old a o q (fun x => n (hM a x)), n⟩) e.dk
theorem IsA.evo {vs : List V} {ds : List D} (hM : ∀ a, z.Z a → M a) (e : Evo z H H') (h : IsA z M H vs ds) : IsA z M H' vs ds := h.gen (fun a o q n => ⟨e.old a o q (fun x => n (hM a x)), n⟩) e.dk
theorem Is.weak (hM : ∀ a, M' a → M a) (h : Is z M H v d) : Is z M' H v d := h.gen (fun a o q n => ⟨q, fun x => n (hM a x)⟩) fun _ h => h
theorem IsA.weak {vs : List V} {ds : List D} (hM : ∀ a, M' a → M a) (h : IsA z M H vs ds) : IsA z M' H vs ds := h.gen (fun a o q n => ⟨q, fun x => n (hM a x)⟩) fun _ h => h
theorem Is.new (hp : H p = none) (h : Is z M H v d) : Is z M (upd H p o) v d := h.gen (fun a u q n => ⟨by rw [upd_ne (ne_of_none q hp)]; exact q, n⟩) fun _ h => ok_new hp h
theorem IsA.new {vs : List V} {ds : List D} (hp : H p = none) (h : IsA z M H vs ds) : IsA z M (upd H p o) vs ds := h.gen (fun a u q n => ⟨by rw [upd_ne (ne_of_none q hp)]; exact q, n⟩) fun _ h => ok_new hp h
end
theorem DkF.notbl {n : Nat} {H : Hp} {dk c P : Addr} {ps : Array Value} (h : DkF n H dk c) (e : H P = some (.tbl ps)) : dk ≠ P ∧ c ≠ P := by
  unfold DkF at h
  split at h
  all_goals first
    | exact h.elim
    | (obtain ⟨l, s, n, cs, e1, e2, r⟩ := h
       refine ⟨fun w => ?_, fun w => ?_⟩
       · rw [w, e] at e1; cases e1
       · rw [w, e] at e2; cases e2)
/-- a draw leaves the tables -/
theorem tab_deck {n : Nat} {H H' : Hp} {dk c : Addr} (d : DkF n H dk c) (ev : ∀ b o, H b = some o → b ∉ [dk, c] → H' b = some o) (h : Tabs H) : Tabs H' := fun P hP => by
  obtain ⟨ps, e, t⟩ := h P hP
  obtain ⟨n1, n2⟩ := d.notbl e
  exact ⟨ps, ev P _ e (by simp only [List.mem_cons, List.not_mem_nil, or_false, not_or]; exact ⟨fun w => n1 w.symm, fun w => n2 w.symm⟩), t⟩
/-- what the thing at a holds -/
def Con (z : Zn) (M : Addr → Prop) (H : Hp) (a : Addr) : D → Prop
  | .tup ds => ∃ vs, H a = some (.tup vs) ∧ IsA z M H vs ds
  | .lst ds => ∃ vs, H a = some (.lst vs) ∧ IsA z M H vs ds
  | .dic ds => ∃ vs, H a = some (.dK vs) ∧ IsK z M H vs ds
  | .dpr ds => H a = some (.dT (dtV ds))
  | .dpd ds => ∃ vs, H a = some (.dT vs) ∧ vs.map (·.1) = ds.map (fun p => p.1.map Sum.inl) ∧ IsA z M H (vs.map (·.2)) (ds.map (·.2))
  | .st ns => ∃ n, H a = some (SetO Tbs.wd a (memB ns) n) ∧ n ≤ ns.length
  | .bor ds => z.bo = some a ∧ ∃ vs, H a = some (.lst vs) ∧ IsA z M H vs ds
  | _ => False
section
variable {z : Zn} {M M' : Addr → Prop} {H H' : Hp} {a : Addr} {d : D}
theorem Con.gen (ha : ∀ o, H a = some o → H' a = some o) (h1 : ∀ a o, H a = some o → ¬ M a → H' a = some o ∧ ¬ M' a) (h2 : ∀ a, z.ok H a → z.ok H' a) (h : Con z M H a d) : Con z M' H' a d := by
  cases d with
  | tup ds => obtain ⟨vs, e, r⟩ := h; exact ⟨vs, ha _ e, r.gen h1 h2⟩
  | lst ds => obtain ⟨vs, e, r⟩ := h; exact ⟨vs, ha _ e, r.gen h1 h2⟩
  | dic ds => obtain ⟨vs, e, r⟩ := h; exact ⟨vs, ha _ e, r.gen h1 h2⟩
  | dpr ds => exact ha _ h
  | dpd ds => obtain ⟨vs, e, q, r⟩ := h; exact ⟨vs, ha _ e, q, r.gen h1 h2⟩
  | st ns => obtain ⟨n, e, l⟩ := h; exact ⟨n, ha _ e, l⟩
  | bor ds => obtain ⟨w, vs, e, r⟩ := h; exact ⟨w, vs, ha _ e, r.gen h1 h2⟩
  | _ => exact h.elim
theorem Con.is (n : ¬ M a) (h : Con z M H a d) : Is z M H (.ref a) d := by
  cases d with
  | tup ds => obtain ⟨vs, e, r⟩ := h; exact .tup e n r
  | lst ds => obtain ⟨vs, e, r⟩ := h; exact .lst e n r
  | dic ds => obtain ⟨vs, e, r⟩ := h; exact .dic e n r
  | dpr ds => exact .dpr h n
  | dpd ds => obtain ⟨vs, e, q, r⟩ := h; exact .dpd e n q r
  | st ns => obtain ⟨m, e, l⟩ := h; exact .st e l n
  | bor ds => obtain ⟨w, vs, e, r⟩ := h; exact .bor e n r
  | _ => exact h.elim
theorem Con.some (h : Con z M H a d) : ∃ o, H a = some o := by
  cases d with
  | tup ds => obtain ⟨vs, e, r⟩ := h; exact ⟨_, e⟩
  | lst ds => obtain ⟨vs, e, r⟩ := h; exact ⟨_, e⟩
  | dic ds => obtain ⟨vs, e, r⟩ := h; exact ⟨_, e⟩
  | dpr ds => exact ⟨_, h⟩
  | dpd ds => obtain ⟨vs, e, q, r⟩ := h; exact ⟨_, e⟩
  | st ns => obtain ⟨m, e, l⟩ := h; exact ⟨_, e⟩
  | bor ds => obtain ⟨w, vs, e, r⟩ := h; exact ⟨_, e⟩
  | _ => exact h.elim
end
/-! slots -/
abbrev Sl := List (Option V)
abbrev AP := Addr → Prop
inductive SV where
  | no | val (d : D) | own (d : D)
/-- the places that no plain value of the slots has: the zone, what X names, what slots own -/
def Ms (z : Zn) (X : AP) (σ : Sl) (env : List SV) : AP := fun a => z.Z a ∨ X a ∨ ∃ (i : Nat) (d : D), env[i]? = some (.own d) ∧ σ[i]? = some (some (V.ref a))
structure Ok (z : Zn) (X : AP) (H0 H : Hp) (σ : Sl) (env : List SV) : Prop where
  len : σ.length = env.length
  evo : Evo z H0 H
  zal : ∀ a, z.Z a → H a ≠ none
  xal : ∀ a, X a → H a ≠ none ∧ ¬ z.Z a
  val : ∀ (i : Nat) (d : D), env[i]? = some (.val d) → ∃ v, σ[i]? = some (some v) ∧ Is z (Ms z X σ env) H v d
  own : ∀ (i : Nat) (d : D), env[i]? = some (.own d) → ∃ a, σ[i]? = some (some (V.ref a)) ∧ Con z (Ms z X σ env) H a d ∧ ¬ z.Z a ∧ ¬ X a ∧ H0 a = none
  inj : ∀ (i j : Nat) (a : Addr) (d e : D), env[i]? = some (.own d) → env[j]? = some (.own e) → σ[i]? = some (some (V.ref a)) → σ[j]? = some (some (V.ref a)) → i = j
  tab : Tabs H
/-- what stood outside M stands, outside M' -/
structure Fr (z : Zn) (X : AP) (M : AP) (H : Hp) (M' : AP) (H' : Hp) : Prop where
  old : ∀ a o, H a = some o → ¬ M a → H' a = some o ∧ ¬ M' a
  dk : ∀ a, z.ok H a → z.ok H' a
  al : ∀ a, H a ≠ none → H' a ≠ none
section
variable {z : Zn} {X : AP} {H0 H H' H1 H2 : Hp} {σ σ' : Sl} {env env' : List SV} {M M1 M2 : AP}
theorem Fr.refl : Fr z X M H M H := ⟨fun _ _ h n => ⟨h, n⟩, fun _ h => h, fun _ h => h⟩
theorem Fr.trans (a : Fr z X M H M1 H1) (b : Fr z X M1 H1 M2 H2) : Fr z X M H M2 H2 := ⟨fun x o h n => b.old x o (a.old x o h n).1 (a.old x o h n).2, fun x h => b.dk x (a.dk x h), fun x h => b.al x (a.al x h)⟩
theorem Fr.is {v : V} {d : D} (f : Fr z X M H M1 H1) (h : Is z M H v d) : Is z M1 H1 v d := h.gen f.old f.dk
theorem Fr.isA {v : List V} {d : List D} (f : Fr z X M H M1 H1) (h : IsA z M H v d) : IsA z M1 H1 v d := h.gen f.old f.dk
theorem Ok.fr (k : Ok z X H0 H σ env) (e : Evo z H H') : Fr z X (Ms z X σ env) H (Ms z X σ env) H' := ⟨fun a o h n => ⟨e.old a o h fun x => n (.inl x), n⟩, e.dk, e.al⟩
theorem Ok.go (k : Ok z X H0 H σ env) (e : Evo z H H') : Ok z X H0 H' σ env :=
  ⟨k.len, k.evo.trans e, fun a h => e.al a (k.zal a h), fun a h => ⟨e.al a (k.xal a h).1, (k.xal a h).2⟩, fun i d h => let ⟨v, h1, h2⟩ := k.val i d h; ⟨v, h1, h2.evo (fun _ h => .inl h) e⟩,
   fun i d h => let ⟨a, h1, h2, h3, h4⟩ := k.own i d h; ⟨a, h1, h2.gen (fun o q => e.old a o q h3) (fun b o q n => ⟨e.old b o q fun x => n (.inl x), n⟩) e.dk, h3, h4⟩, k.inj, e.tab k.tab⟩
theorem set_own {i j : Nat} {d e : D} (h : (env.set i (.val d))[j]? = some (.own e)) : j ≠ i ∧ env[j]? = some (.own e) := by
  by_cases hj : i = j
  · subst hj
    rw [List.getElem?_set] at h
    split at h
    · split at h <;> cases h
    · exact absurd rfl (by assumption)
  · rw [List.getElem?_set_ne hj] at h
    exact ⟨fun q => hj q.symm, h⟩
/-- a plain store: the slot i shows d -/
theorem Ok.set (k : Ok z X H0 H σ env) {i : Nat} {v : V} {d : D} (hv : Is z (Ms z X σ env) H v d) : Ok z X H0 H (σ.set i (some v)) (env.set i (.val d)) ∧ Fr z X (Ms z X σ env) H (Ms z X (σ.set i (some v)) (env.set i (.val d))) H := by
  have sub : ∀ a, Ms z X (σ.set i (some v)) (env.set i (.val d)) a → Ms z X σ env a := by
    rintro a (h | h | ⟨j, e, h1, h2⟩)
    · exact .inl h
    · exact .inr (.inl h)
    · obtain ⟨hj, h1⟩ := set_own h1
      rw [List.getElem?_set_ne (Ne.symm hj)] at h2
      exact .inr (.inr ⟨j, e, h1, h2⟩)
  refine ⟨⟨by simp [k.len], k.evo, k.zal, k.xal, fun j e h => ?_, fun j e h => ?_, fun j l a e f h1 h2 h3 h4 => ?_, k.tab⟩, ⟨fun a o q n => ⟨q, fun x => n (sub a x)⟩, fun _ h => h, fun _ h => h⟩⟩
  · by_cases hj : i = j
    · subst hj
      rw [List.getElem?_set] at h
      split at h
      · split at h
        · rename_i hl
          cases h
          refine ⟨v, ?_, hv.weak sub⟩
          rw [List.getElem?_set_self (by rw [k.len]; exact hl)]
        · cases h
      · exact absurd rfl (by assumption)
    · rw [List.getElem?_set_ne hj] at h ⊢
      obtain ⟨u, h1, h2⟩ := k.val j e h
      exact ⟨u, h1, h2.weak sub⟩
  · obtain ⟨hj, h⟩ := set_own h
    rw [List.getElem?_set_ne (Ne.symm hj)]
    obtain ⟨a, h1, h2, h3, h4⟩ := k.own j e h
    exact ⟨a, h1, h2.gen (fun _ q => q) (fun b o q n => ⟨q, fun x => n (sub b x)⟩) fun _ h => h, h3, h4⟩
  · obtain ⟨hj, h1⟩ := set_own h1
    obtain ⟨hl, h2⟩ := set_own h2
    rw [List.getElem?_set_ne (Ne.symm hj)] at h3
    rw [List.getElem?_set_ne (Ne.symm hl)] at h4
    exact k.inj j l a e f h1 h2 h3 h4
abbrev AP.or (X : AP) (a : Addr) : AP := fun b => X b ∨ b = a
/-- a store of a new thing that the slot owns -/
theorem Ok.take (k : Ok z X H0 H σ env) {i : Nat} {a : Addr} {d : D} (hl : i < env.length) (e : Evo z H H') (hn : H a = none) (hc : Con z (Ms z (X.or a) σ env) H' a d) :
    Ok z X H0 H' (σ.set i (some (V.ref a))) (env.set i (.own d)) ∧ Fr z X (Ms z X σ env) H (Ms z X (σ.set i (some (V.ref a))) (env.set i (.own d))) H' := by
  have hz : ¬ z.Z a := fun q => k.zal a q hn
  have hx : ¬ X a := fun q => (k.xal a q).1 hn
  have ms : ∀ b, Ms z X (σ.set i (some (V.ref a))) (env.set i (.own d)) b → Ms z (X.or a) σ env b := by
    rintro b (h | h | ⟨j, f, h1, h2⟩)
    · exact .inl h
    · exact .inr (.inl (.inl h))
    · by_cases hj : i = j
      · subst hj
        rw [List.getElem?_set_self (by rw [k.len]; exact hl)] at h2
        cases h2
        exact .inr (.inl (.inr rfl))
      · rw [List.getElem?_set_ne hj] at h1 h2
        exact .inr (.inr ⟨j, f, h1, h2⟩)
  have ms2 : ∀ b, Ms z (X.or a) σ env b → Ms z X σ env b ∨ b = a := by
    rintro b (h | (h | h) | h)
    · exact .inl (.inl h)
    · exact .inl (.inr (.inl h))
    · exact .inr h
    · exact .inl (.inr (.inr h))
  have old : ∀ b o, H b = some o → ¬ Ms z X σ env b → H' b = some o ∧ ¬ Ms z X (σ.set i (some (V.ref a))) (env.set i (.own d)) b := fun b o q n =>
    ⟨e.old b o q fun x => n (.inl x), fun x => (ms2 b (ms b x)).elim n fun y => by rw [y, hn] at q; cases q⟩
  refine ⟨⟨by simp [k.len], k.evo.trans e, fun b h => e.al b (k.zal b h), fun b h => ⟨e.al b (k.xal b h).1, (k.xal b h).2⟩, fun j f h => ?_, fun j f h => ?_, fun j l b f g h1 h2 h3 h4 => ?_, e.tab k.tab⟩, ⟨old, e.dk, e.al⟩⟩
  · by_cases hj : i = j
    · subst hj
      rw [List.getElem?_set_self hl] at h
      cases h
    · rw [List.getElem?_set_ne hj] at h ⊢
      obtain ⟨u, h1, h2⟩ := k.val j f h
      exact ⟨u, h1, h2.gen old e.dk⟩
  · by_cases hj : i = j
    · subst hj
      rw [List.getElem?_set_self hl] at h
      cases h
      exact ⟨a, by rw [List.getElem?_set_self (by rw [k.len]; exact hl)], hc.gen (fun _ q => q) (fun b o q n => ⟨q, fun x => n (ms b x)⟩) fun _ h => h, hz, hx, k.evo.fresh hn⟩
    · rw [List.getElem?_set_ne hj] at h ⊢
      obtain ⟨b, h1, h2, h3, h4⟩ := k.own j f h
      exact ⟨b, h1, h2.gen (fun o q => e.old b o q h3) old e.dk, h3, h4⟩
  · have own' : ∀ (j : Nat) (f : D), (env.set i (.own d))[j]? = some (.own f) → j ≠ i → env[j]? = some (.own f) := fun j f h hj => by rw [List.getElem?_set_ne (Ne.symm hj)] at h; exact h
    have no : ∀ (j : Nat) (f : D), env[j]? = some (.own f) → σ[j]? = some (some (V.ref a)) → False := fun j f h1 h2 => by
      obtain ⟨b, h3, h4, _⟩ := k.own j f h1
      rw [h2] at h3
      cases h3
      obtain ⟨o, h5⟩ := h4.some
      rw [hn] at h5
      cases h5
    by_cases hj : j = i
    · by_cases hl2 : l = i
      · rw [hj, hl2]
      · rw [hj, List.getElem?_set_self (by rw [k.len]; exact hl)] at h3
        cases h3
        rw [List.getElem?_set_ne (Ne.symm hl2)] at h4
        exact (no l g (own' l g h2 hl2) h4).elim
    · by_cases hl2 : l = i
      · rw [hl2, List.getElem?_set_self (by rw [k.len]; exact hl)] at h4
        cases h4
        rw [List.getElem?_set_ne (Ne.symm hj)] at h3
        exact (no j f (own' j f h1 hj) h3).elim
      · rw [List.getElem?_set_ne (Ne.symm hj)] at h3
        rw [List.getElem?_set_ne (Ne.symm hl2)] at h4
        exact k.inj j l b f g (own' j f h1 hj) (own' l g h2 hl2) h3 h4
/-- what a slot owns is changed -/
theorem Ok.mut (k : Ok z X H0 H σ env) {i : Nat} {a : Addr} {d d' : D} {o : HO} (hi : env[i]? = some (.own d)) (hs : σ[i]? = some (some (V.ref a))) (hc : Con z (Ms z X σ env) (upd H a o) a d') :
    Ok z X H0 (upd H a o) σ (env.set i (.own d')) ∧ Fr z X (Ms z X σ env) H (Ms z X σ (env.set i (.own d'))) (upd H a o) := by
  have hl : i < env.length := (List.getElem?_eq_some_iff.mp hi).1
  obtain ⟨a', hs', hc0, hz, hx, h0⟩ := k.own i d hi
  have ea : a' = a := by rw [hs] at hs'; cases hs'; rfl
  subst ea
  have ms : ∀ b, Ms z X σ (env.set i (.own d')) b → Ms z X σ env b := by
    rintro b (h | h | ⟨j, f, h1, h2⟩)
    · exact .inl h
    · exact .inr (.inl h)
    · by_cases hj : i = j
      · subst hj
        exact .inr (.inr ⟨i, d, hi, h2⟩)
      · rw [List.getElem?_set_ne hj] at h1
        exact .inr (.inr ⟨j, f, h1, h2⟩)
  have ain : Ms z X σ env a' := .inr (.inr ⟨i, d, hi, hs⟩)
  have old : ∀ b u, H b = some u → ¬ Ms z X σ env b → upd H a' o b = some u ∧ ¬ Ms z X σ (env.set i (.own d')) b := fun b u q n =>
    ⟨by rw [upd_ne (fun e => n (by rw [e]; exact ain))]; exact q, fun x => n (ms b x)⟩
  have dk : ∀ b, z.ok H b → z.ok (upd H a' o) b := fun b h => ok_mut hz h
  have al : ∀ b, H b ≠ none → upd H a' o b ≠ none := fun b h => by
    by_cases e : b = a'
    · rw [e, upd_same]; intro q; cases q
    · rw [upd_ne e]; exact h
  refine ⟨⟨by simp [k.len], k.evo.mut h0 hz, fun b h => al b (k.zal b h), fun b h => ⟨al b (k.xal b h).1, (k.xal b h).2⟩, fun j f h => ?_, fun j f h => ?_, fun j l b f g h1 h2 h3 h4 => ?_, k.tab.mut hz⟩, ⟨old, dk, al⟩⟩
  · by_cases hj : i = j
    · subst hj
      rw [List.getElem?_set_self hl] at h
      cases h
    · rw [List.getElem?_set_ne hj] at h
      obtain ⟨u, h1, h2⟩ := k.val j f h
      exact ⟨u, h1, h2.gen old dk⟩
  · by_cases hj : i = j
    · subst hj
      rw [List.getElem?_set_self hl] at h
      cases h
      exact ⟨a', hs, hc.gen (fun _ q => q) (fun b o q n => ⟨q, fun x => n (ms b x)⟩) fun _ h => h, hz, hx, h0⟩
    · rw [List.getElem?_set_ne hj] at h
      obtain ⟨b, h1, h2, h3, h4⟩ := k.own j f h
      have nb : b ≠ a' := fun e => hj (k.inj i j a' d f hi h hs (e ▸ h1))
      exact ⟨b, h1, h2.gen (fun o q => by rw [upd_ne nb]; exact q) old dk, h3, h4⟩
  · have un : ∀ (j : Nat) (f : D), (env.set i (.own d'))[j]? = some (.own f) → ∃ f', env[j]? = some (.own f') := fun j f h => by
      by_cases hj : i = j
      · subst hj; exact ⟨d, hi⟩
      · rw [List.getElem?_set_ne hj] at h; exact ⟨f, h⟩
    obtain ⟨f', h1'⟩ := un j f h1
    obtain ⟨g', h2'⟩ := un l g h2
    exact k.inj j l b f' g' h1' h2' h3 h4
end
end Pu
namespace Pu
open PySem PySem.Spec PyProof.Rows L2
variable [Tbs]
/-! == of data -/
mutual
def pd : D → PyData
  | .non => .none
  | .bl b => .bool b
  | .int i => .int i
  | .str s => .str s
  | .ty _ => .none
  | .tup xs => .tuple (pdA xs)
  | .lst xs => .list (pdA xs)
  | .dic _ => .none
  | .deck _ => .none
  | .dpr _ => .none
  | .dfz _ => .none
  | .st _ => .none
  | .bor _ => .none
  | .opq _ => .none
  | .dpd _ => .none
def pdA : List D → List PyData
  | [] => []
  | x :: xs => pd x :: pdA xs
end
mutual
/-- of None, truths, numbers, texts, tuples and lists, at most n deep -/
def shp : Nat → D → Bool
  | _, .non => true
  | _, .bl _ => true
  | _, .int _ => true
  | _, .str s => PyData.strOk s
  | 0, .tup _ => false
  | n + 1, .tup xs => shpA n xs
  | 0, .lst _ => false
  | n + 1, .lst xs => shpA n xs
  | _, .ty _ => false
  | _, .dic _ => false
  | _, .deck _ => false
  | _, .dpr _ => false
  | _, .dfz _ => false
  | _, .st _ => false
  | _, .bor _ => false
  | _, .opq _ => false
  | _, .dpd _ => false
def shpA : Nat → List D → Bool
  | _, [] => true
  | n, x :: xs => shp n x && shpA n xs
end
mutual
/-- the same without truths -/
def pln : Nat → D → Bool
  | _, .non => true
  | _, .bl _ => false
  | _, .int _ => true
  | _, .str s => PyData.strOk s
  | 0, .tup _ => false
  | n + 1, .tup xs => plnA n xs
  | 0, .lst _ => false
  | n + 1, .lst xs => plnA n xs
  | _, .ty _ => false
  | _, .dic _ => false
  | _, .deck _ => false
  | _, .dpr _ => false
  | _, .dfz _ => false
  | _, .st _ => false
  | _, .bor _ => false
  | _, .opq _ => false
  | _, .dpd _ => false
def plnA : Nat → List D → Bool
  | _, [] => true
  | n, x :: xs => pln n x && plnA n xs
end
theorem plnA_iff {n : Nat} : ∀ {xs : List D}, plnA n xs = true ↔ ∀ x ∈ xs, pln n x = true
  | [] => by simp [plnA]
  | x :: xs => by simp [plnA, plnA_iff (xs := xs)]
theorem shpA_iff {n : Nat} : ∀ {xs : List D}, shpA n xs = true ↔ ∀ x ∈ xs, shp n x = true
  | [] => by simp [shpA]
  | x :: xs => by simp [shpA, shpA_iff (xs := xs)]
mutual
theorem pln_shp : ∀ (n : Nat) (d : D), pln n d = true → shp n d = true
  | _, .non, _ => by simp [shp]
  | _, .bl _, h => by simp [pln] at h
  | _, .int _, _ => by simp [shp]
  | _, .str s, h => by simp only [pln] at h; simp only [shp]; exact h
  | 0, .tup _, h => by simp [pln] at h
  | n + 1, .tup xs, h => by simp only [pln] at h; simp only [shp]; exact plnA_shp n xs h
  | 0, .lst _, h => by simp [pln] at h
  | n + 1, .lst xs, h => by simp only [pln] at h; simp only [shp]; exact plnA_shp n xs h
  | _, .ty _, h => by simp [pln] at h
  | _, .dic _, h => by simp [pln] at h
  | _, .deck _, h => by simp [pln] at h
  | _, .dpr _, h => by simp [pln] at h
  | _, .dfz _, h => by simp [pln] at h
  | _, .st _, h => by simp [pln] at h
  | _, .bor _, h => by simp [pln] at h
  | _, .opq _, h => by simp [pln] at h
  | _, .dpd _, h => by simp [pln] at h
theorem plnA_shp : ∀ (n : Nat) (xs : List D), plnA n xs = true → shpA n xs = true
  | _, [], _ => by simp [shpA]
  | n, x :: xs, h => by
    simp only [plnA, Bool.and_eq_true] at h
    simp only [shpA, Bool.and_eq_true]
    exact ⟨pln_shp n x h.1, plnA_shp n xs h.2⟩
end
mutual
theorem shp_lay : ∀ (n : Nat) (d : D), shp n d = true → (pd d).canLay0 = true ∧ (pd d).depth ≤ n + 1
  | n, .non, _ => by simp [pd, PyData.canLay0, PyData.depth]
  | n, .bl _, h => by simp [pd, PyData.canLay0, PyData.depth]
  | n, .int _, _ => by simp [pd, PyData.canLay0, PyData.depth]
  | n, .str s, h => by simp only [shp] at h; simp [pd, PyData.canLay0, PyData.depth, h]
  | 0, .tup _, h => by simp [shp] at h
  | n + 1, .tup xs, h => by
    simp only [shp] at h
    have q := shp_layA n xs h
    simp only [pd, PyData.canLay0, PyData.depth, q.1, true_and]
    omega
  | 0, .lst _, h => by simp [shp] at h
  | n + 1, .lst xs, h => by
    simp only [shp] at h
    have q := shp_layA n xs h
    simp only [pd, PyData.canLay0, PyData.depth, q.1, true_and]
    omega
  | _, .ty _, h => by simp [shp] at h
  | _, .dic _, h => by simp [shp] at h
  | _, .deck _, h => by simp [shp] at h
  | _, .dpr _, h => by simp [shp] at h
  | _, .dfz _, h => by simp [shp] at h
  | _, .st _, h => by simp [shp] at h
  | _, .bor _, h => by simp [shp] at h
  | _, .opq _, h => by simp [shp] at h
  | _, .dpd _, h => by simp [shp] at h
theorem shp_layA : ∀ (n : Nat) (xs : List D), shpA n xs = true → PyData.canLayAll0 (pdA xs) = true ∧ PyData.depthAll (pdA xs) ≤ n + 1
  | n, [], _ => by simp [pdA, PyData.canLayAll0, PyData.depthAll]
  | n, x :: xs, h => by
    simp only [shpA, Bool.and_eq_true] at h
    have q := shp_lay n x h.1
    have r := shp_layA n xs h.2
    simp only [pdA, PyData.canLayAll0, PyData.depthAll, q.1, r.1, Bool.and_self, true_and]
    omega
end
theorem shaped_of {d : D} (h : shp 60 d = true) : SeqAt.shaped (pd d) = true := by
  have q := shp_lay 60 d h
  simp only [SeqAt.shaped, q.1, Bool.true_and, decide_eq_true_eq]
  omega
section
variable {z : Zn} {M : Addr → Prop} {H : Hp} {K : PySem.W.Frag}
mutual
theorem Is.dp : ∀ {v : V} {d : D} {n : Nat}, Is z M H v d → shp n d = true → Dp K H v (pd d)
  | _, _, _, .non, _ => by simp only [pd]; exact .non
  | _, _, _, .bl b, _ => by simp only [pd]; exact .bl b
  | _, _, _, .int b, _ => by simp only [pd]; exact .int b
  | _, _, _, .str b, _ => by simp only [pd]; exact .str b
  | _, _, _, .ty b, h => by simp [shp] at h
  | _, _, 0, .tup e _ r, h => by simp [shp] at h
  | _, _, n + 1, .tup e _ r, h => by simp only [pd]; exact .tup (SqT.of e) (IsA.dp r (by simpa only [shp] using h))
  | _, _, 0, .lst e _ r, h => by simp [shp] at h
  | _, _, n + 1, .lst e _ r, h => by simp only [pd]; exact .lst (SqL.of e) (IsA.dp r (by simpa only [shp] using h))
  | _, _, _, .dic _ _ _, h => by simp [shp] at h
  | _, _, _, .deck _, h => by simp [shp] at h
  | _, _, _, .dpr _ _, h => by simp [shp] at h
  | _, _, _, .dfz _ _, h => by simp [shp] at h
  | _, _, _, .st _ _ _, h => by simp [shp] at h
  | _, _, _, .bor _ _ _, h => by simp [shp] at h
  | _, _, _, .opq _, h => by simp [shp] at h
  | _, _, _, .dpd _ _ _ _, h => by simp [shp] at h
theorem IsA.dp : ∀ {vs : List V} {ds : List D} {n : Nat}, IsA z M H vs ds → shpA n ds = true → DpAll K H vs (pdA ds)
  | _, _, _, .nil, _ => by simp only [pdA]; exact .nil
  | _, _, _, .cons q t, h => by
    simp only [shpA, Bool.and_eq_true] at h
    simp only [pdA]
    exact .cons (Is.dp q h.1) (IsA.dp t h.2)
end
end
def eqvD (a b : D) : Bool := PyData.eqv (pd a) (pd b)
mutual
theorem eqv_iff : ∀ (n m : Nat) (a b : D), pln n a = true → pln m b = true → (PyData.eqv (pd a) (pd b) = true ↔ a = b)
  | n, m, a, b, ha, hb => by
    cases a with
    | non => cases b <;> simp_all [pd, PyData.eqv, pln]
    | bl _ => simp [pln] at ha
    | int i => cases b <;> simp_all [pd, PyData.eqv, pln]
    | str s => cases b <;> simp_all [pd, PyData.eqv, pln]
    | ty _ => simp [pln] at ha
    | dic _ => simp [pln] at ha
    | deck _ => simp [pln] at ha
    | dpr _ => simp [pln] at ha
    | dfz _ => simp [pln] at ha
    | st _ => simp [pln] at ha
    | bor _ => simp [pln] at ha
    | opq _ => simp [pln] at ha
    | dpd _ => simp [pln] at ha
    | tup xs =>
      cases b with
      | tup ys =>
        cases n with
        | zero => simp [pln] at ha
        | succ n =>
          cases m with
          | zero => simp [pln] at hb
          | succ m =>
            simp only [pln] at ha hb
            simp only [pd, PyData.eqv, D.tup.injEq]
            exact eqv_iffA n m xs ys ha hb
      | bl _ => simp [pln] at hb
      | _ => simp_all [pd, PyData.eqv, pln]
    | lst xs =>
      cases b with
      | lst ys =>
        cases n with
        | zero => simp [pln] at ha
        | succ n =>
          cases m with
          | zero => simp [pln] at hb
          | succ m =>
            simp only [pln] at ha hb
            simp only [pd, PyData.eqv, D.lst.injEq]
            exact eqv_iffA n m xs ys ha hb
      | bl _ => simp [pln] at hb
      | _ => simp_all [pd, PyData.eqv, pln]
theorem eqv_iffA : ∀ (n m : Nat) (a b : List D), plnA n a = true → plnA m b = true → (PyData.eqvAll (pdA a) (pdA b) = true ↔ a = b)
  | n, m, [], [], _, _ => by simp [pdA, PyData.eqvAll]
  | n, m, [], _ :: _, _, _ => by simp [pdA, PyData.eqvAll]
  | n, m, _ :: _, [], _, _ => by simp [pdA, PyData.eqvAll]
  | n, m, x :: xs, y :: ys, ha, hb => by
    simp only [plnA, Bool.and_eq_true] at ha hb
    simp only [pdA, PyData.eqvAll, Bool.and_eq_true, List.cons.injEq]
    rw [eqv_iff n m x y ha.1 hb.1, eqv_iffA n m xs ys ha.2 hb.2]
end
theorem eqvD_iff {a b : D} (ha : pln 60 a = true) (hb : pln 60 b = true) : eqvD a b = true ↔ a = b := eqv_iff 60 60 a b ha hb
end Pu
namespace Pu
open PySem PySem.Spec PyProof.Rows L2
variable [Tbs]
/-! readings without places -/
abbrev PX := List SV → (D → Prop) → Prop
abbrev PTs' := List SV → (Bool → Prop) → Prop
abbrev PAs := List SV → (List D → Prop) → Prop
/-- the zone and X -/
def Zx (z : Zn) (X : AP) : AP := fun a => z.Z a ∨ X a
/-- how an expression's value stands: f new and alone; e plain; c its parts plain; b for a look only -/
inductive Mode where | f | e | c | b
  deriving DecidableEq
def mutD : D → Bool
  | .lst _ => true
  | .dic _ => true
  | .dpr _ => true
  | .dpd _ => true
  | .st _ => true
  | _ => false
def Rel (m : Mode) (z : Zn) (X : AP) (H H' : Hp) (σ : Sl) (env : List SV) (v : V) (d : D) : Prop := match m with
  | .f => ∃ a, v = .ref a ∧ H a = none ∧ Con z (Ms z (X.or a) σ env) H' a d
  | .e => Is z (Ms z X σ env) H' v d
  | .c => Is z (Ms z X σ env) H' v d ∨ ∃ a, v = .ref a ∧ Con z (Ms z X σ env) H' a d ∧ ¬ Zx z X a ∧ mutD d = true
  | .b => Is z (Zx z X) H' v d
section
variable {z : Zn} {X : AP} {H0 H H1 H' : Hp} {σ : Sl} {env : List SV} {v : V} {d : D} {m : Mode}
theorem Zx.ms {a : Addr} (h : Zx z X a) : Ms z X σ env a := h.elim .inl fun q => .inr (.inl q)
theorem Ms.orL {a b : Addr} (h : Ms z X σ env b) : Ms z (X.or a) σ env b := by
  rcases h with h | h | h
  · exact .inl h
  · exact .inr (.inl (.inl h))
  · exact .inr (.inr h)
theorem Ok.notMs (k : Ok z X H0 H σ env) {a : Addr} (h : H a = none) : ¬ Ms z X σ env a := by
  rintro (q | q | ⟨i, d, q1, q2⟩)
  · exact k.zal a q h
  · exact (k.xal a q).1 h
  · obtain ⟨b, h1, h2, _⟩ := k.own i d q1
    rw [q2] at h1
    cases h1
    obtain ⟨o, h3⟩ := h2.some
    rw [h] at h3
    cases h3
theorem Rel.fe (k : Ok z X H0 H σ env) (h : Rel .f z X H H' σ env v d) : Rel .e z X H H' σ env v d := by
  obtain ⟨a, rfl, hn, hc⟩ := h
  exact (hc.gen (fun _ q => q) (fun b o q n => ⟨q, fun x => n x.orL⟩) fun _ h => h).is (k.notMs hn)
theorem Rel.ec (h : Rel .e z X H H' σ env v d) : Rel .c z X H H' σ env v d := .inl h
theorem Rel.cb (h : Rel .c z X H H' σ env v d) : Rel .b z X H H' σ env v d := by
  rcases h with h | ⟨a, rfl, hc, n, _⟩
  · exact Is.weak (fun a q => q.ms) h
  · exact (hc.gen (fun _ q => q) (fun b o q n => ⟨q, fun x => n x.ms⟩) fun _ h => h).is n
theorem Rel.eb (h : Rel .e z X H H' σ env v d) : Rel .b z X H H' σ env v d := h.ec.cb
theorem Rel.toB (k : Ok z X H0 H σ env) (h : Rel m z X H H' σ env v d) : Rel .b z X H H' σ env v d := by
  cases m with
  | f => exact (h.fe k).eb
  | e => exact h.eb
  | c => exact h.cb
  | b => exact h
/-- a later heap -/
theorem Rel.evo (k : Ok z X H0 H σ env) (e : Evo z H1 H') (h : Rel m z X H H1 σ env v d) (h0 : Evo z H H1) : Rel m z X H H' σ env v d := by
  cases m with
  | f =>
    obtain ⟨a, rfl, hn, hc⟩ := h
    refine ⟨a, rfl, hn, hc.gen (fun o q => e.old a o q fun x => ?_) (fun b o q n => ⟨e.old b o q fun x => n (.inl x), n⟩) e.dk⟩
    exact k.zal a x hn
  | e => exact Is.evo (fun _ q => .inl q) e h
  | c =>
    rcases h with h | ⟨a, rfl, hc, n, md⟩
    · exact .inl (Is.evo (fun _ q => .inl q) e h)
    · exact .inr ⟨a, rfl, hc.gen (fun o q => e.old a o q fun x => n (.inl x)) (fun b o q n => ⟨e.old b o q fun x => n (.inl x), n⟩) e.dk, n, md⟩
  | b => exact Is.evo (fun _ q => .inl q) e h
/-- a later start: for all but f -/
theorem Rel.later (hm : m ≠ .f) (h : Rel m z X H H' σ env v d) : Rel m z X H1 H' σ env v d := by
  cases m with
  | f => exact absurd rfl hm
  | _ => exact h
/-- an earlier start -/
theorem Rel.early (e : Evo z H H1) (h : Rel m z X H1 H' σ env v d) : Rel m z X H H' σ env v d := by
  cases m with
  | f => obtain ⟨a, rfl, hn, hc⟩ := h; exact ⟨a, rfl, e.fresh hn, hc⟩
  | e => exact h
  | c => exact h
  | b => exact h
end
def RE (m : Mode) (t : TE) (p : PX) : Prop := ∀ (z : Zn) (X : AP) (H0 H : Hp) (σ : Sl) (env : List SV) (Q : VK) (k : D → Prop), Ok z X H0 H σ env →
  (∀ d v H', Evo z H H' → Rel m z X H H' σ env v d → k d → Q v H') → p env k → t σ H Q
def RT (t : TT) (p : PTs') : Prop := ∀ (z : Zn) (X : AP) (H0 H : Hp) (σ : Sl) (env : List SV) (Q : Bool → Hp → Prop) (k : Bool → Prop), Ok z X H0 H σ env →
  (∀ b H', Evo z H H' → k b → Q b H') → p env k → t σ H Q
/-- arguments: plain (l = true), or for a look only -/
def RA (l : Bool) (t : TA) (p : PAs) : Prop := ∀ (z : Zn) (X : AP) (H0 H : Hp) (σ : Sl) (env : List SV) (Q : List V → Hp → Prop) (k : List D → Prop), Ok z X H0 H σ env →
  (∀ ds vs H', Evo z H H' → IsA z (if l = true then Ms z X σ env else Zx z X) H' vs ds → k ds → Q vs H') → p env k → t σ H Q
structure E (m : Mode) (C : Cx) (e : Expr) (p : PX) : Prop where
  ex : ∃ t, PE C e t ∧ RE m t p
structure T (C : Cx) (e : Expr) (p : PTs') : Prop where
  ex : ∃ t, PT C e t ∧ RT t p
structure W (C : Cx) (e : Expr) (p : PTs') : Prop where
  ex : ∃ t, PW C e t ∧ RT t p
structure A (l : Bool) (C : Cx) (es : List Expr) (p : PAs) : Prop where
  ex : ∃ t, PA C es t ∧ RA l t p
section
variable {C : Cx} {e a b : Expr} {p q : PX} {m m' : Mode} {pos : Pos}
theorem E.toB (h : E m C e p) : E .b C e p := by
  obtain ⟨t, h1, h2⟩ := h
  exact ⟨t, h1, fun z X H0 H σ env Q k o c hp => h2 z X H0 H σ env Q k o (fun d v H' ev r kd => c d v H' ev (r.toB o) kd) hp⟩
theorem E.fe (h : E .f C e p) : E .e C e p := by
  obtain ⟨t, h1, h2⟩ := h
  exact ⟨t, h1, fun z X H0 H σ env Q k o c hp => h2 z X H0 H σ env Q k o (fun d v H' ev r kd => c d v H' ev (r.fe o) kd) hp⟩
theorem E.ec (h : E .e C e p) : E .c C e p := by
  obtain ⟨t, h1, h2⟩ := h
  exact ⟨t, h1, fun z X H0 H σ env Q k o c hp => h2 z X H0 H σ env Q k o (fun d v H' ev r kd => c d v H' ev r.ec kd) hp⟩
/-! ### names, constants -/
def eC (d : D) : PX := fun _ k => k d
def eV (i : Nat) : PX := fun env k => match env[i]? with
  | some (.val d) => k d
  | _ => False
def eO (i : Nat) : PX := fun env k => match env[i]? with
  | some (.own (.lst xs)) => k (.lst xs)
  | some (.own (.dic xs)) => k (.dic xs)
  | some (.own (.dpr xs)) => k (.dpr xs)
  | some (.own (.dpd xs)) => k (.dpd xs)
  | some (.own (.st xs)) => k (.st xs)
  | some (.own (.bor xs)) => k (.lst xs)
  | _ => False
theorem re_c {v : V} {d : D} (h : ∀ z M H, Is z M H v d) : RE .e (tC v) (eC d) := fun z X H0 H σ env Q k o c hp => c d v H (Evo.refl _ _) (h _ _ _) hp
theorem e_int {i : Int} {j} : E .e C (.Constant (.int i) j pos) (eC (.int i)) := ⟨_, pe_int, re_c fun _ _ _ => .int i⟩
theorem e_bl {i : Bool} {j} : E .e C (.Constant (.bool i) j pos) (eC (.bl i)) := ⟨_, pe_bl, re_c fun _ _ _ => .bl i⟩
theorem e_non {j} : E .e C (.Constant .none j pos) (eC .non) := ⟨_, pe_non, re_c fun _ _ _ => .non⟩
theorem e_gint {x : Str} {i : Int} {t : Tok} (hg : Gl C x) (hm : C.mg x = some (.int i t)) (hd : (x == ("__debug__" : Str)) = false := by decide) : E .e C (.Name x pos) (eC (.int i)) := ⟨_, pe_glob (v := .int i) hg hm ⟨_, rfl⟩ hd, re_c fun _ _ _ => .int i⟩
theorem e_ty {x : Str} {n : String} (hg : Gl C x) (hm : C.mg x = none) (hv : bootBuiltins x = some (.type n)) (hn : x ≠ "__name__" := by decide) (hd : (x == ("__debug__" : Str)) = false := by decide) : E .e C (.Name x pos) (eC (.ty n)) :=
  ⟨_, pe_bltn (v := .ty n) hg hm hv rfl hn hd, re_c fun _ _ _ => .ty n⟩
theorem re_v (i : Nat) : RE .e (tVar i) (eV i) := fun z X H0 H σ env Q k o c hp => by
  unfold eV at hp
  split at hp
  · rename_i d he
    obtain ⟨v, h1, h2⟩ := o.val i d he
    exact ⟨v, h1, c d v H (Evo.refl _ _) h2 hp⟩
  · exact hp.elim
theorem re_o (i : Nat) : RE .c (tVar i) (eO i) := fun z X H0 H σ env Q k o c hp => by
  unfold eO at hp
  split at hp
  · rename_i xs he
    obtain ⟨a, h1, h2, h3, h4⟩ := o.own i _ he
    exact ⟨_, h1, c _ _ H (Evo.refl _ _) (.inr ⟨a, rfl, h2, fun q => q.elim h3 h4.1, rfl⟩) hp⟩
  · rename_i xs he
    obtain ⟨a, h1, h2, h3, h4⟩ := o.own i _ he
    exact ⟨_, h1, c _ _ H (Evo.refl _ _) (.inr ⟨a, rfl, h2, fun q => q.elim h3 h4.1, rfl⟩) hp⟩
  · rename_i xs he
    obtain ⟨a, h1, h2, h3, h4⟩ := o.own i _ he
    exact ⟨_, h1, c _ _ H (Evo.refl _ _) (.inr ⟨a, rfl, h2, fun q => q.elim h3 h4.1, rfl⟩) hp⟩
  · rename_i xs he
    obtain ⟨a, h1, h2, h3, h4⟩ := o.own i _ he
    exact ⟨_, h1, c _ _ H (Evo.refl _ _) (.inr ⟨a, rfl, h2, fun q => q.elim h3 h4.1, rfl⟩) hp⟩
  · rename_i xs he
    obtain ⟨a, h1, h2, h3, h4⟩ := o.own i _ he
    exact ⟨_, h1, c _ _ H (Evo.refl _ _) (.inr ⟨a, rfl, h2, fun q => q.elim h3 h4.1, rfl⟩) hp⟩
  · rename_i xs he
    obtain ⟨a, h1, h2, h3, h4⟩ := o.own i _ he
    exact ⟨_, h1, c (.lst xs) _ H (Evo.refl _ _) (.inr ⟨a, rfl, h2.2, fun q => q.elim h3 h4.1, rfl⟩) hp⟩
  · exact hp.elim
theorem e_v (i : Nat) {x : Str} (hN : C.N[i]? = some x := by rfl) (hv : Vis C.env.scope x := by first | exact Or.inl rfl | exact Or.inr (Or.inl rfl) | exact Or.inr (Or.inr rfl)) (hd : (x == ("__debug__" : Str)) = false := by decide)
    (hcd : (x == ("__classdict__" : Str)) = false := by decide) : E .e C (.Name x pos) (eV i) := ⟨_, pe_var hN hv hd hcd, re_v i⟩
theorem e_o (i : Nat) {x : Str} (hN : C.N[i]? = some x := by rfl) (hv : Vis C.env.scope x := by first | exact Or.inl rfl | exact Or.inr (Or.inl rfl) | exact Or.inr (Or.inr rfl)) (hd : (x == ("__debug__" : Str)) = false := by decide)
    (hcd : (x == ("__classdict__" : Str)) = false := by decide) : E .c C (.Name x pos) (eO i) := ⟨_, pe_var hN hv hd hcd, re_o i⟩
/-! ### operators, by values -/
/-- the pure operation g stands for r: operands of mode mi, the answer of mode mo -/
def OpD (mi mo : Mode) (r : R2) (g : D → D → (D → Prop) → Prop) : Prop := ∀ (z : Zn) (X : AP) (H0 H : Hp) (σ : Sl) (env : List SV) (v u : V) (x y : D) (Q : VK) (k : D → Prop), Ok z X H0 H σ env → Rel mi z X H H σ env v x → Rel mi z X H H σ env u y →
  (∀ d w H', Evo z H H' → Rel mo z X H H' σ env w d → k d → Q w H') → g x y k → r v u H Q
def eOp (g : D → D → (D → Prop) → Prop) (p q : PX) : PX := fun env k => p env fun x => q env fun y => g x y k
theorem RE.op {mi mo : Mode} {r : R2} {g : D → D → (D → Prop) → Prop} {ta tb : TE} (hm : mi ≠ .f) (ho : OpD mi mo r g) (ha : RE mi ta p) (hb : RE mi tb q) : RE mo (tOp r ta tb) (eOp g p q) := fun z X H0 H σ env Q k o c hp => by
  refine ha z X H0 H σ env _ _ o (fun x v H1 e1 r1 hp1 => ?_) hp
  refine hb z X H0 H1 σ env _ _ (o.go e1) (fun y u H2 e2 r2 hp2 => ?_) hp1
  refine ho z X H0 H2 σ env v u x y Q k ((o.go e1).go e2) ((r1.evo o e2 e1).later hm) (r2.later hm) (fun d w H3 e3 r3 kd => ?_) hp2
  exact c d w H3 (e1.trans (e2.trans e3)) (r3.early (e1.trans e2)) kd
theorem e_op {mi mo : Mode} {op : Operator} {r : R2} {g : D → D → (D → Prop) → Prop} (hr : OpR C (binaryOp op) r) (ho : OpD mi mo r g) (ha : E mi C a p) (hb : E mi C b q) (hm : mi ≠ .f := by decide) : E mo C (.BinOp a op b pos) (eOp g p q) := by
  obtain ⟨ta, a1, a2⟩ := ha
  obtain ⟨tb, b1, b2⟩ := hb
  exact ⟨_, pe_op hr a1 b1, RE.op hm ho a2 b2⟩
theorem e_cmp {mi mo : Mode} {op : CmpOp} {r : R2} {g : D → D → (D → Prop) → Prop} (hr : OpR C (compareOp op) r) (ho : OpD mi mo r g) (ha : E mi C a p) (hb : E mi C b q) (hk : behindInMarks op b = false) (hm : mi ≠ .f := by decide) : E mo C (.Compare a [op] [b] pos) (eOp g p q) := by
  obtain ⟨ta, a1, a2⟩ := ha
  obtain ⟨tb, b1, b2⟩ := hb
  exact ⟨_, pe_cmpR hr a1 b1 hk, RE.op hm ho a2 b2⟩
/-- a value that is a truth, as a test -/
def blK (d : D) (k : Bool → Prop) : Prop := match d with
  | .bl b => k b
  | _ => False
def tOf (p : PX) : PTs' := fun env k => p env fun d => blK d k
theorem RT.of {t : TE} (h : RE .b t p) : RT (tTest t) (tOf p) := fun z X H0 H σ env Q k o c hp => by
  refine h z X H0 H σ env _ _ o (fun d v H' e r hd => ?_) hp
  cases d with
  | bl b =>
    cases (show Is z _ H' v (.bl b) from r)
    exact ⟨b, rfl, c b H' e hd⟩
  | _ => exact (show False from hd).elim
theorem t_cmp {mi : Mode} {op : CmpOp} {r : R2} {g : D → D → (D → Prop) → Prop} (hr : OpR C (compareOp op) r) (ho : OpD mi .b r g) (ha : E mi C a p) (hb : E mi C b q) (hk : behindInMarks op b = false) (hm : mi ≠ .f := by decide) : T C (.Compare a [op] [b] pos) (tOf (eOp g p q)) := by
  obtain ⟨ta, a1, a2⟩ := ha
  obtain ⟨tb, b1, b2⟩ := hb
  exact ⟨_, pt_cmpR hr a1 b1 hk, RT.of (RE.op hm ho a2 b2)⟩
theorem t_val (h : E m C e p) (he : ∀ whole, isTrue e C.env whole = (do let v ← whole; standAt e.pos; holding [v] (truthy v)) := by intro _; rfl) : T C e (tOf p) := by
  obtain ⟨t, h1, h2⟩ := h.toB
  exact ⟨_, pt_val h1 he, RT.of h2⟩
/-- a op b op' c -/
def bCase (d : D) (A B : Prop) : Prop := match d with
  | .bl true => A
  | .bl false => B
  | _ => False
def eChain (g g' : D → D → (D → Prop) → Prop) (p q r : PX) : PX := fun env k => p env fun x => q env fun y => g x y fun w => bCase w (r env fun u => g' y u k) (k (.bl false))
/-! whole numbers -/
def dII (Cc : Int → Int → Prop) (g : Int → Int → D) : D → D → (D → Prop) → Prop := fun x y k => match x, y with
  | .int i, .int j => Cc i j ∧ k (g i j)
  | _, _ => False
def dI0 (g : Int → Int → D) : D → D → (D → Prop) → Prop := fun x y k => match x, y with
  | .int i, .int j => k (g i j)
  | _, _ => False
theorem Is.intI {z : Zn} {M : AP} {H : Hp} {v : V} {i : Int} (h : Is z M H v (.int i)) : v = .int i := by cases h; rfl
theorem opd_II {Cc : Int → Int → Prop} {g : Int → Int → D} {g' : Int → Int → V} (h : ∀ i j z M H, Is z M H (g' i j) (g i j)) : OpD .b .e (rI Cc g') (dII Cc g) := fun z X H0 H σ env v u x y Q k o r1 r2 c hp => by
  cases x with
  | int i =>
    cases y with
    | int j => exact ⟨i, j, Is.intI r1, Is.intI r2, hp.1, c _ _ H (Evo.refl _ _) (h i j _ _ _) hp.2⟩
    | _ => exact (show False from hp).elim
  | _ => exact (show False from hp).elim
theorem opd_I0 {g : Int → Int → D} {g' : Int → Int → V} (h : ∀ i j z M H, Is z M H (g' i j) (g i j)) : OpD .b .e (rI0 g') (dI0 g) := fun z X H0 H σ env v u x y Q k o r1 r2 c hp => by
  cases x with
  | int i =>
    cases y with
    | int j => exact ⟨i, j, Is.intI r1, Is.intI r2, c _ _ H (Evo.refl _ _) (h i j _ _ _) hp⟩
    | _ => exact (show False from hp).elim
  | _ => exact (show False from hp).elim
theorem OpD.eb {mi : Mode} {r : R2} {g : D → D → (D → Prop) → Prop} (h : OpD mi .e r g) : OpD mi .b r g := fun z X H0 H σ env v u x y Q k o r1 r2 c hp => h z X H0 H σ env v u x y Q k o r1 r2 (fun d w H' e r kd => c d w H' e r.eb kd) hp
abbrev dSub := dI0 fun i j => .int (i - j)
abbrev dMul := dII CMul fun i j => .int (i * j)
abbrev dMod := dII (fun _ j => 0 < j) fun i j => .int (i % j)
abbrev dPow := dII CPow fun i j => .int (i ^ j.toNat)
abbrev dGt := dI0 fun i j => .bl (decide (j < i))
abbrev dGe := dI0 fun i j => .bl (decide (j ≤ i))
theorem opd_sub : OpD .b .e (rI0 fun i j => .int (i - j)) dSub := opd_I0 fun i j _ _ _ => .int _
theorem opd_mul : OpD .b .e (rI CMul fun i j => .int (i * j)) dMul := opd_II fun i j _ _ _ => .int _
theorem opd_mod : OpD .b .e (rI (fun _ j => 0 < j) fun i j => .int (i % j)) dMod := opd_II fun i j _ _ _ => .int _
theorem opd_pow : OpD .b .e (rI CPow fun i j => .int (i ^ j.toNat)) dPow := opd_II fun i j _ _ _ => .int _
theorem opd_gt : OpD .b .e (rI0 fun i j => .bl (decide (j < i))) dGt := opd_I0 fun i j _ _ _ => .bl _
theorem opd_ge : OpD .b .e (rI0 fun i j => .bl (decide (j ≤ i))) dGe := opd_I0 fun i j _ _ _ => .bl _
def eUn (g : D → (D → Prop) → Prop) (p : PX) : PX := fun env k => p env fun x => g x k
def dNeg : D → (D → Prop) → Prop := fun x k => match x with
  | .int i => k (.int (-i))
  | _ => False
theorem e_neg (ha : E m C a p) : E .e C (.UnaryOp .USub a pos) (eUn dNeg p) := by
  obtain ⟨t, h1, h2⟩ := ha.toB
  refine ⟨_, pe_un un_neg h1, fun z X H0 H σ env Q k o c hp => h2 z X H0 H σ env _ _ o (fun d v H' e r hd => ?_) hp⟩
  cases d with
  | int i => exact ⟨i, Is.intI r, c _ _ H' e (Is.int _) hd⟩
  | _ => exact (show False from hd).elim
end
/-! + -/
/-- of two rules one -/
theorem opr_or {C : Cx} {f : Value → Value → Sem Value} {r r' : R2} (h : OpR C f r) (h' : OpR C f r') : OpR C f (fun x y H Q => r x y H Q ∨ r' x y H Q) := fun pins s σ H x y v u Q I rx ry q => q.elim (h pins s σ H x y v u Q I rx ry) (h' pins s σ H x y v u Q I rx ry)
def rAddA (K : PySem.W.Frag) : R2 := fun x y H Q => (rI0 fun i j => .int (i + j)) x y H Q ∨ (rCatA K x y H Q ∨ (rCat x y H Q ∨ (∃ i j, x = .str i ∧ y = .str j ∧ i.length + j.length ≤ sizeLine ∧ Q (.str (i ++ j)) H)))
theorem op_addA {C : Cx} : OpR C (binaryOp .Add) (rAddA C.K) := opr_or op_add (opr_or op_catA (opr_or op_cat op_add_str))
def dAdd : D → D → (D → Prop) → Prop := fun x y k => match x, y with
  | .int i, .int j => k (.int (i + j))
  | .tup xs, .tup ys => xs.length + ys.length ≤ 100000 ∧ k (.tup (xs ++ ys))
  | .lst xs, .lst ys => xs.length + ys.length ≤ 100000 ∧ k (.lst (xs ++ ys))
  | .str xs, .str ys => xs.length + ys.length ≤ 100000 ∧ k (.str (xs ++ ys))
  | _, _ => False
theorem sz {n : Nat} (h : n ≤ 100000) : n ≤ sizeLine := Nat.le_trans h (by decide)
section
variable {z : Zn} {X : AP} {H0 H H1 H' : Hp} {σ : Sl} {env : List SV} {v : V} {d : D} {m : Mode} {M : AP}
theorem Rel.conT {xs : List D} (h : Rel .c z X H H' σ env v (.tup xs)) : ∃ a vs, v = .ref a ∧ H' a = some (.tup vs) ∧ IsA z (Ms z X σ env) H' vs xs ∧ ¬ Ms z X σ env a := by
  rcases h with h | ⟨a, rfl, ⟨vs, e, r⟩, n, md⟩
  · cases h with
    | tup e n r => exact ⟨_, _, rfl, e, r, n⟩
  · cases md
theorem Rel.conL {xs : List D} (h : Rel .c z X H H' σ env v (.lst xs)) : ∃ a vs, v = .ref a ∧ H' a = some (.lst vs) ∧ IsA z (Ms z X σ env) H' vs xs ∧ ¬ Zx z X a := by
  rcases h with h | ⟨a, rfl, ⟨vs, e, r⟩, n, md⟩
  · cases h with
    | lst e n r => exact ⟨_, _, rfl, e, r, fun q => n q.ms⟩
  · exact ⟨a, vs, rfl, e, r, n⟩
theorem Rel.strC {s : Str} (h : Rel .c z X H H' σ env v (.str s)) : v = .str s := by
  rcases h with h | ⟨a, _, hc, _⟩
  · cases h; rfl
  · exact hc.elim
theorem Rel.intC {s : Int} (h : Rel .c z X H H' σ env v (.int s)) : v = .int s := by
  rcases h with h | ⟨a, _, hc, _⟩
  · cases h; rfl
  · exact hc.elim
/-- parts of something that stood ahead of a new thing at a -/
theorem IsA.newer {a : Addr} {o : HO} {vs : List V} {ds : List D} (ha : H a = none) (h : IsA z (Ms z X σ env) H vs ds) : IsA z (Ms z (X.or a) σ env) (upd H a o) vs ds :=
  h.gen (fun b u q n => ⟨by rw [upd_ne (ne_of_none q ha)]; exact q, fun x => by
    rcases x with x | (x | x) | x
    · exact n (.inl x)
    · exact n (.inr (.inl x))
    · rw [x, ha] at q; cases q
    · exact n (.inr (.inr x))⟩) fun _ h => ok_new ha h
theorem Rel.newL {a : Addr} {vs : List V} {ds : List D} (hn : H a = none) (ha : H' a = none) (h : IsA z (Ms z X σ env) H' vs ds) : Rel .f z X H (upd H' a (.lst vs)) σ env (.ref a) (.lst ds) :=
  ⟨a, rfl, hn, vs, upd_same, h.newer ha⟩
theorem Rel.newT {a : Addr} {vs : List V} {ds : List D} (hn : H a = none) (ha : H' a = none) (h : IsA z (Ms z X σ env) H' vs ds) : Rel .f z X H (upd H' a (.tup vs)) σ env (.ref a) (.tup ds) :=
  ⟨a, rfl, hn, vs, upd_same, h.newer ha⟩
end
theorem opd_add {K : PySem.W.Frag} : OpD .c .e (rAddA K) dAdd := fun z X H0 H σ env v u x y Q k o r1 r2 c hp => by
  cases x with
  | int i =>
    cases y with
    | int j => exact .inl ⟨i, j, r1.intC, r2.intC, c _ _ H (Evo.refl _ _) (Is.int _) hp⟩
    | _ => exact (show False from hp).elim
  | str i =>
    cases y with
    | str j => exact .inr (.inr (.inr ⟨i, j, r1.strC, r2.strC, sz hp.1, c _ _ H (Evo.refl _ _) (Is.str _) hp.2⟩))
    | _ => exact (show False from hp).elim
  | tup xs =>
    cases y with
    | tup ys =>
      obtain ⟨a, vs, e1, h1, i1, n1⟩ := r1.conT
      obtain ⟨b, us, e2, h2, i2, n2⟩ := r2.conT
      subst e1 e2
      have l1 := i1.length
      have l2 := i2.length
      refine .inr (.inl ⟨a, b, vs, us, rfl, rfl, SqT.of h1, SqT.of h2, sz (by rw [l1, l2]; exact hp.1), fun e => ?_, fun e1 e => ?_, fun e1 e2 q hq => ?_⟩)
      · subst e
        cases i1
        exact c _ _ H (Evo.refl _ _) (Is.tup h2 n2 i2) hp.2
      · subst e
        cases i2
        have hp2 := hp.2
        rw [List.append_nil] at hp2
        exact c _ _ H (Evo.refl _ _) (Is.tup h1 n1 i1) hp2
      · exact c _ _ _ ((Evo.refl _ _).new hq) ((Rel.newT hq hq (i1.append i2)).fe o) hp.2
    | _ => exact (show False from hp).elim
  | lst xs =>
    cases y with
    | lst ys =>
      obtain ⟨a, vs, e1, h1, i1, n1⟩ := r1.conL
      obtain ⟨b, us, e2, h2, i2, n2⟩ := r2.conL
      subst e1 e2
      refine .inr (.inr (.inl ⟨a, b, vs, us, rfl, rfl, h1, h2, sz (by rw [i1.length, i2.length]; exact hp.1), fun q hq => ?_⟩))
      exact c _ _ _ ((Evo.refl _ _).new hq) ((Rel.newL hq hq (i1.append i2)).fe o) hp.2
    | _ => exact (show False from hp).elim
  | _ => exact (show False from hp).elim
end Pu
namespace Pu
open PySem PySem.Spec PyProof.Rows L2
variable [Tbs]
section
variable {C : Cx} {e a b : Expr} {p q : PX} {m m' : Mode} {pos : Pos}
/-! ### ==, in, is -/
def EqV (x y : D) (c : Bool) : Prop := shp 60 x = true ∧ shp 60 y = true ∧ eqvD x y = c
def dEq : D → D → (D → Prop) → Prop := fun x y k => ∃ c, EqV x y c ∧ k (.bl c)
def dNe : D → D → (D → Prop) → Prop := fun x y k => ∃ c, EqV x y c ∧ k (.bl (!c))
theorem opd_eq {K : PySem.W.Frag} : OpD .b .e (rEqD K) dEq := fun z X H0 H σ env v u x y Q k o r1 r2 c hp => by
  obtain ⟨b, ⟨h1, h2, h3⟩, hk⟩ := hp
  exact ⟨_, _, Is.dp r1 h1, Is.dp r2 h2, shaped_of h1, shaped_of h2, by rw [show PyData.eqv (pd x) (pd y) = b from h3]; exact c _ _ H (Evo.refl _ _) (Is.bl _) hk⟩
theorem opd_ne {K : PySem.W.Frag} : OpD .b .e (rNeD K) dNe := fun z X H0 H σ env v u x y Q k o r1 r2 c hp => by
  obtain ⟨b, ⟨h1, h2, h3⟩, hk⟩ := hp
  exact ⟨_, _, Is.dp r1 h1, Is.dp r2 h2, shaped_of h1, shaped_of h2, by rw [show PyData.eqv (pd x) (pd y) = b from h3]; exact c _ _ H (Evo.refl _ _) (Is.bl _) hk⟩
def dIs (neg : Bool) : D → D → (D → Prop) → Prop := fun x y k => match x, y with
  | .non, .non => k (.bl (neg ^^ true))
  | .bl a, .bl b => k (.bl (neg ^^ decide (a = b)))
  | _, .non => k (.bl neg)
  | _, _ => False
def rIsA : R2 := fun x y H Q => (y = .non ∧ Q (.bl (decide (x = .non))) H) ∨ (∃ a b, x = .bl a ∧ y = .bl b ∧ Q (.bl (decide (a = b))) H)
theorem op_isA : OpR C (compareOp .Is) rIsA := opr_or op_isN op_is_bl
theorem Is.notNon {z : Zn} {M : AP} {H : Hp} {v : V} {d : D} (h : Is z M H v d) (hd : d ≠ .non) : v ≠ .non := by
  cases h <;> first | exact absurd rfl hd | (intro q; cases q)
theorem opd_is : OpD .b .e rIsA (dIs false) := fun z X H0 H σ env v u x y Q k o r1 r2 c hp => by
  cases y with
  | non =>
    cases (show Is z _ H u .non from r2)
    refine .inl ⟨rfl, ?_⟩
    by_cases hx : x = .non
    · subst hx
      cases (show Is z _ H v .non from r1)
      exact c _ _ H (Evo.refl _ _) (Is.bl _) hp
    · rw [decide_eq_false (Is.notNon r1 hx)]
      refine c (.bl false) _ H (Evo.refl _ _) (Is.bl _) ?_
      cases x <;> first | exact absurd rfl hx | exact hp
  | bl b =>
    cases x with
    | bl a =>
      cases (show Is z _ H u _ from r2)
      cases (show Is z _ H v _ from r1)
      exact .inr ⟨a, b, rfl, rfl, c _ _ H (Evo.refl _ _) (Is.bl _) (by simpa [dIs] using hp)⟩
    | _ => exact (show False from hp).elim
  | _ => cases x <;> exact (show False from hp).elim
/-- a number among numbers -/
def intsD : List D → Option (List Int)
  | [] => some []
  | .int i :: r => (intsD r).map (i :: ·)
  | _ => none
theorem intsD_eq : ∀ {ds : List D} {ns : List Int}, intsD ds = some ns → ds = ns.map D.int
  | [], _, h => by cases h; rfl
  | .int i :: r, ns, h => by
    unfold intsD at h
    cases e : intsD r with
    | none => rw [e] at h; cases h
    | some z => rw [e] at h; cases h; rw [intsD_eq e]; rfl
  | .non :: _, _, h => by cases h
  | .bl _ :: _, _, h => by cases h
  | .str _ :: _, _, h => by cases h
  | .ty _ :: _, _, h => by cases h
  | .tup _ :: _, _, h => by cases h
  | .lst _ :: _, _, h => by cases h
  | .dic _ :: _, _, h => by cases h
  | .deck _ :: _, _, h => by cases h
  | .dpr _ :: _, _, h => by cases h
  | .dfz _ :: _, _, h => by cases h
  | .st _ :: _, _, h => by cases h
  | .bor _ :: _, _, h => by cases h
  | .dpd _ :: _, _, h => by cases h
theorem intsD_map : ∀ ns : List Int, intsD (ns.map D.int) = some ns
  | [] => rfl
  | n :: ns => by show (intsD (ns.map D.int)).map (n :: ·) = _; rw [intsD_map ns]; rfl
/-! ### tests, and, or, not, if -/
variable {s t : PTs'} {rest : List Expr}
def tAndP (s t : PTs') : PTs' := fun env k => s env fun x => if x = true then t env k else k false
def tOrP (s t : PTs') : PTs' := fun env k => s env fun x => if x = true then k true else t env k
def tNotP (s : PTs') : PTs' := fun env k => s env fun x => k (!x)
theorem w_t (h : W C e s) : T C e s := let ⟨t, h1, h2⟩ := h; ⟨t, h1.pt, h2⟩
theorem w_and1 (h : T C a s) : W C (.BoolOp .And [a] pos) s := let ⟨t, h1, h2⟩ := h; ⟨t, pw_and1 h1, h2⟩
theorem w_or1 (h : T C a s) : W C (.BoolOp .Or [a] pos) s := let ⟨t, h1, h2⟩ := h; ⟨t, pw_or1 h1, h2⟩
theorem w_and (h : T C a s) (g : W C (.BoolOp .And (b :: rest) pos) t) : W C (.BoolOp .And (a :: b :: rest) pos) (tAndP s t) := by
  obtain ⟨t1, h1, h2⟩ := h
  obtain ⟨t2, g1, g2⟩ := g
  refine ⟨_, pw_and h1 g1, fun z X H0 H σ env Q k o c hp => h2 z X H0 H σ env _ _ o (fun x H1 e1 hx => ?_) hp⟩
  cases x with
  | true => exact g2 z X H0 H1 σ env Q k (o.go e1) (fun y H2 e2 hy => c y H2 (e1.trans e2) hy) hx
  | false => exact c false H1 e1 hx
theorem w_or (h : T C a s) (g : W C (.BoolOp .Or (b :: rest) pos) t) : W C (.BoolOp .Or (a :: b :: rest) pos) (tOrP s t) := by
  obtain ⟨t1, h1, h2⟩ := h
  obtain ⟨t2, g1, g2⟩ := g
  refine ⟨_, pw_or h1 g1, fun z X H0 H σ env Q k o c hp => h2 z X H0 H σ env _ _ o (fun x H1 e1 hx => ?_) hp⟩
  cases x with
  | false => exact g2 z X H0 H1 σ env Q k (o.go e1) (fun y H2 e2 hy => c y H2 (e1.trans e2) hy) hx
  | true => exact c true H1 e1 hx
theorem t_not (h : T C a s) : T C (.UnaryOp .Not a pos) (tNotP s) := by
  obtain ⟨t1, h1, h2⟩ := h
  exact ⟨_, pt_not h1, fun z X H0 H σ env Q k o c hp => h2 z X H0 H σ env _ _ o (fun x H1 e1 hx => c _ H1 e1 hx) hp⟩
/-- values -/
def eAnd (p q : PX) : PX := fun env k => p env fun x => bCase x (q env k) (k (.bl false))
def eOr (p q : PX) : PX := fun env k => p env fun x => bCase x (k (.bl true)) (q env k)
def dNot : D → (D → Prop) → Prop := fun x k => match x with
  | .bl c => k (.bl (!c))
  | _ => False
theorem e_one {op} (h : E m C a p) : E m C (.BoolOp op [a] pos) p := let ⟨t, h1, h2⟩ := h; ⟨t, pe_one h1, h2⟩
theorem e_and (h : E m C a p) (g : E .e C (.BoolOp .And (b :: rest) pos) q) : E .e C (.BoolOp .And (a :: b :: rest) pos) (eAnd p q) := by
  obtain ⟨t1, h1, h2⟩ := h.toB
  obtain ⟨t2, g1, g2⟩ := g
  refine ⟨_, pe_and h1 g1, fun z X H0 H σ env Q k o c hp => h2 z X H0 H σ env _ _ o (fun d v H1 e1 r1 hx => ?_) hp⟩
  cases d with
  | bl x =>
    cases (show Is z _ H1 v _ from r1)
    refine ⟨x, rfl, ?_⟩
    cases x with
    | true => rw [if_pos rfl]; exact g2 z X H0 H1 σ env Q k (o.go e1) (fun d v H2 e2 r2 hy => c d v H2 (e1.trans e2) r2 hy) hx
    | false => rw [if_neg Bool.false_ne_true]; exact c _ _ H1 e1 (Is.bl _) hx
  | _ => exact (show False from hx).elim
theorem e_not (h : E m C a p) : E .e C (.UnaryOp .Not a pos) (eUn dNot p) := by
  obtain ⟨t1, h1, h2⟩ := h.toB
  refine ⟨_, pe_not h1, fun z X H0 H σ env Q k o c hp => h2 z X H0 H σ env _ _ o (fun d v H1 e1 r1 hx => ?_) hp⟩
  cases d with
  | bl x =>
    cases (show Is z _ H1 v _ from r1)
    exact ⟨x, rfl, c _ _ H1 e1 (Is.bl _) hx⟩
  | _ => exact (show False from hx).elim
def eIf (s : PTs') (p q : PX) : PX := fun env k => s env fun x => if x = true then p env k else q env k
theorem IsA.isEmpty {z : Zn} {M : AP} {H : Hp} {vs : List V} {ds : List D} (h : IsA z M H vs ds) : ds.isEmpty = vs.isEmpty := by cases h <;> rfl
/-! ### arguments, displays -/
variable {es : List Expr} {l : Bool} {g : PAs}
def lm : Bool → Mode
  | true => .e
  | false => .b
def aNil : PAs := fun _ k => k []
def aCons (p : PX) (g : PAs) : PAs := fun env k => p env fun x => g env fun xs => k (x :: xs)
theorem a_nil : A l C [] aNil := ⟨_, pa_nil, fun z X H0 H σ env Q k o c hp => c [] [] H (Evo.refl _ _) .nil hp⟩
theorem a_cons (h : E (lm l) C e p) (hr : A l C es g) (hs : starEach (e :: es) C.env = (false, eval e C.env) :: starEach es C.env := by rfl) : A l C (e :: es) (aCons p g) := by
  obtain ⟨t, h1, h2⟩ := h
  obtain ⟨u, g1, g2⟩ := hr
  refine ⟨_, pa_cons h1 g1 hs, fun z X H0 H σ env Q k o c hp => h2 z X H0 H σ env _ _ o (fun d v H1 e1 r1 hx => ?_) hp⟩
  refine g2 z X H0 H1 σ env _ _ (o.go e1) (fun ds vs H2 e2 r2 hy => c (d :: ds) (v :: vs) H2 (e1.trans e2) (.cons ?_ r2) hy) hx
  cases l with
  | true => exact Is.evo (fun _ q => .inl q) e2 r1
  | false => exact Is.evo (fun _ q => .inl q) e2 r1
def eTup (g : PAs) : PX := fun env k => g env fun xs => xs.length ≤ 100000 ∧ k (.tup xs)
def eLst (g : PAs) : PX := fun env k => g env fun xs => xs.length ≤ 100000 ∧ k (.lst xs)
theorem e_tup {x1} (h : A true C es g) : E .e C (.Tuple es x1 pos) (eTup g) := by
  obtain ⟨t, h1, h2⟩ := h
  refine ⟨_, pe_tup h1, fun z X H0 H σ env Q k o c hp => h2 z X H0 H σ env _ _ o (fun ds vs H1 e1 r1 hx => ⟨by rw [r1.length]; exact sz hx.1, fun q hq => ?_⟩) hp⟩
  exact c _ _ _ (e1.new hq) ((Rel.newT (e1.fresh hq) hq r1).fe o) hx.2
theorem e_lst (h : A true C es g) : E .f C (.List es pos) (eLst g) := by
  obtain ⟨t, h1, h2⟩ := h
  refine ⟨_, pe_lst h1, fun z X H0 H σ env Q k o c hp => h2 z X H0 H σ env _ _ o (fun ds vs H1 e1 r1 hx => ⟨by rw [r1.length]; exact sz hx.1, fun q hq => ?_⟩) hp⟩
  exact c _ _ _ (e1.new hq) (Rel.newL (e1.fresh hq) hq r1) hx.2
/-! ### x[i], x[i:j] -/
def dIx : D → D → (D → Prop) → Prop := fun x y k => match x, y with
  | .tup xs, .int i => ∃ d, atI xs i = some d ∧ k d
  | .lst xs, .int i => ∃ d, atI xs i = some d ∧ k d
  | .str s, .int i => ∃ c, s.length ≤ 100000 ∧ atI s.cps.toList i = some c ∧ k (.str ⟨#[c]⟩)
  | _, _ => False
theorem IsA.atI {z : Zn} {M : AP} {H : Hp} {vs : List V} {ds : List D} {i : Int} {d : D} (h : IsA z M H vs ds) (e : L2.atI ds i = some d) : ∃ v, L2.atI vs i = some v ∧ Is z M H v d := by
  unfold L2.atI at e ⊢
  rw [h.length]
  cases q : ixN ds.length i with
  | none => rw [q] at e; cases e
  | some j =>
    rw [q] at e
    obtain ⟨v, h1, h2⟩ := h.get (i := j) e
    exact ⟨v, h1, h2⟩
theorem opd_ix {K : PySem.W.Frag} : OpD .c .e (rIx K) dIx := fun z X H0 H σ env v u x y Q k o r1 r2 c hp => by
  cases x with
  | tup xs =>
    cases y with
    | int i =>
      obtain ⟨d, hd, hk⟩ := hp
      obtain ⟨a, vs, rfl, h1, h2, _⟩ := r1.conT
      obtain ⟨w, h3, h4⟩ := h2.atI hd
      exact .inr (.inl ⟨a, vs, i, w, rfl, r2.intC, SqT.of h1, h3, c d w H (Evo.refl _ _) h4 hk⟩)
    | _ => exact (show False from hp).elim
  | lst xs =>
    cases y with
    | int i =>
      obtain ⟨d, hd, hk⟩ := hp
      obtain ⟨a, vs, rfl, h1, h2, _⟩ := r1.conL
      obtain ⟨w, h3, h4⟩ := h2.atI hd
      exact .inl ⟨a, vs, i, w, rfl, r2.intC, SqL.of h1, h3, c d w H (Evo.refl _ _) h4 hk⟩
    | _ => exact (show False from hp).elim
  | str s =>
    cases y with
    | int i =>
      obtain ⟨d, hl, hd, hk⟩ := hp
      exact .inr (.inr ⟨s, i, d, r1.strC, r2.intC, sz hl, hd, c _ _ H (Evo.refl _ _) (Is.str _) hk⟩)
    | _ => exact (show False from hp).elim
  | _ => exact (show False from hp).elim
theorem e_ix (ha : E .c C a p) (hb : E .c C b q) (hs : PlainIx b := by exact fun _ _ => rfl) : E .e C (.Subscript a b pos) (eOp dIx p q) := by
  obtain ⟨ta, a1, a2⟩ := ha
  obtain ⟨tb, b1, b2⟩ := hb
  exact ⟨_, pe_ix (r := rIx C.K) ix_seq a1 b1 hs, RE.op (by decide) opd_ix a2 b2⟩
def cutD (xs : List D) (lo hi : Option Int) : List D := (xs.drop (HT.sIx xs.length 0 lo)).take (HT.sIx xs.length xs.length hi - HT.sIx xs.length 0 lo)
theorem IsA.cut {z : Zn} {M : AP} {H : Hp} {vs : List V} {ds : List D} {lo hi : Option Int} (h : IsA z M H vs ds) : IsA z M H (cutV vs lo hi) (cutD ds lo hi) := by
  unfold cutV cutD
  rw [h.length]
  exact (h.drop _).take _
theorem cut_whole {α : Type} {xs : List α} {lo hi : Option Int} (h : HT.sIx xs.length 0 lo = 0 ∧ HT.sIx xs.length xs.length hi = xs.length) : (xs.drop (HT.sIx xs.length 0 lo)).take (HT.sIx xs.length xs.length hi - HT.sIx xs.length 0 lo) = xs := by
  rw [h.1, h.2]; simp
def dSl : D → Option Int → Option Int → (D → Prop) → Prop := fun x lo hi k => match x with
  | .tup xs => k (.tup (cutD xs lo hi))
  | .lst xs => k (.lst (cutD xs lo hi))
  | _ => False
def rSlQ (K : PySem.W.Frag) : V → Option Int → Option Int → Hp → VK → Prop := fun x lo hi H Q => rSlA K x lo hi H Q ∨ rSlL K x lo hi H Q
theorem sl_seq : SlR C (rSlQ C.K) := fun pins s σ H x v vl vu lo hi sl Q I rx hs pl pu h => h.elim (sl_tupA pins s σ H x v vl vu lo hi sl Q I rx hs pl pu) (sl_list pins s σ H x v vl vu lo hi sl Q I rx hs pl pu)
abbrev PO' := List SV → (Option Int → Prop) → Prop
def RO (t : TO) (p : PO') : Prop := ∀ (z : Zn) (X : AP) (H0 H : Hp) (σ : Sl) (env : List SV) (Q : Option Int → Hp → Prop) (k : Option Int → Prop), Ok z X H0 H σ env →
  (∀ b H', Evo z H H' → k b → Q b H') → p env k → t σ H Q
structure O (C : Cx) (e : Option Expr) (p : PO') : Prop where
  ex : ∃ t, PO C e t ∧ RO t p
def oNo : PO' := fun _ k => k none
def inK (d : D) (k : Int → Prop) : Prop := match d with
  | .int i => k i
  | _ => False
def oPart (p : PX) : PO' := fun env k => p env fun d => inK d fun i => k (some i)
theorem o_none : O C none oNo := ⟨_, po_none, fun z X H0 H σ env Q k o c hp => c none H (Evo.refl _ _) hp⟩
theorem o_some (h : E m C e p) : O C (some e) (oPart p) := by
  obtain ⟨t, h1, h2⟩ := h.toB
  refine ⟨_, po_some h1, fun z X H0 H σ env Q k o c hp => h2 z X H0 H σ env _ _ o (fun d v H1 e1 r1 hx => ?_) hp⟩
  cases d with
  | int i => exact ⟨i, Is.intI r1, c _ H1 e1 hx⟩
  | _ => exact (show False from hx).elim
def eSl (p : PX) (lo hi : PO') : PX := fun env k => p env fun x => lo env fun i => hi env fun j => dSl x i j k
theorem e_slice {lo hi : Option Expr} {pl ph : PO'} {p2 : Pos} (h : E .c C e p) (hl : O C lo pl) (hh : O C hi ph) : E .e C (.Subscript e (.Slice lo hi none p2) pos) (eSl p pl ph) := by
  obtain ⟨t, h1, h2⟩ := h
  obtain ⟨tl, l1, l2⟩ := hl
  obtain ⟨th, g1, g2⟩ := hh
  refine ⟨_, pe_slice (r := rSlQ C.K) sl_seq h1 l1 g1, fun z X H0 H σ env Q k o c hp => h2 z X H0 H σ env _ _ o (fun d v H1 e1 r1 hx => ?_) hp⟩
  refine l2 z X H0 H1 σ env _ _ (o.go e1) (fun i H2 e2 hx => ?_) hx
  refine g2 z X H0 H2 σ env _ _ ((o.go e1).go e2) (fun j H3 e3 hx => ?_) hx
  have r3 := r1.evo o (e2.trans e3) e1
  have ev := e1.trans (e2.trans e3)
  cases d with
  | tup xs =>
    obtain ⟨a, vs, rfl, q1, q2, n⟩ := r3.conT
    refine .inl ⟨a, vs, rfl, SqT.of q1, fun w => ?_, fun w q hq => ?_⟩
    · refine c _ _ H3 ev ?_ hx
      have e : cutD xs i j = xs := by
        have l := q2.length
        rw [l] at w
        exact cut_whole w
      rw [e]
      exact Is.tup q1 n q2
    · exact c _ _ _ (ev.new hq) ((Rel.newT (ev.fresh hq) hq q2.cut).fe o) hx
  | lst xs =>
    obtain ⟨a, vs, rfl, q1, q2, n⟩ := r3.conL
    exact .inr ⟨a, vs, rfl, SqL.of q1, fun q hq => c _ _ _ (ev.new hq) ((Rel.newL (ev.fresh hq) hq q2.cut).fe o) hx⟩
  | _ => exact (show False from hx).elim
end
end Pu
namespace Ew
open PySem PySem.Spec PyProof.Rows L2
section
variable {prog : Program} {w : World} {A : Around} {E : Value → Shared → Prop} {s : Shared}
/-- what max asks of the tuple of its arguments -/
def Askmax (prog : Program) (w : World) (A : Around) (Q : Value → Shared → Prop) (it : Value) (s₂ : Shared) : Prop := ∃ I fp wr n P St bt, it = .ref I ∧ Walks prog w A.in1 I fp wr n P St ∧ St 0 s₂.heap ∧ (∀ b ∈ fp, b < s₂.heap.objs.size) ∧ 0 < n ∧ CmpOf prog w A.in1 .Gt P bt ∧
  ∀ v h' tk, P (argBest bt (n - 1)) v → (∀ b o, b ∉ wr → s₂.heap.get? b = some o → h'.get? b = some o) → Q v { s₂ with heap := h', toks := tk }
theorem ask_max {xs : Array (Int × Tok)} {Q : Value → Shared → Prop} {c : Sem Value} (hh : A.handled = none) (hne : 0 < xs.size)
    (hc : wpAny (model prog w) A.in1 (pyIter (.ref s.heap.objs.size)) (Askmax prog w A Q) E { s with heap := s.heap.push { cls := .type "tuple", data := .seq (intItems xs) } } → wpAny (model prog w) A c Q E s)
    (h : ∀ h' tk M t', (∀ d o, s.heap.get? d = some o → h'.get? d = some o) → M ∈ xs.toList.map (·.1) → (∀ a, a ∈ xs.toList.map (·.1) → a ≤ M) → Q (.int M t') { s with heap := h', toks := tk }) : wpAny (model prog w) A c Q E s := by
  have hT : (s.heap.push { cls := .type "tuple", data := .seq (intItems xs) }).IsTuple s.heap.objs.size (intItems xs) := ⟨_, Heap.get?_push_size _ rfl, rfl, 0, rfl⟩
  have hsz : (s.heap.push { cls := .type "tuple", data := .seq (intItems xs) }).objs.size = s.heap.objs.size + 1 := Heap.size_push ..
  have hln : (intItems xs).size = xs.size := by simp [intItems]
  refine hc (wpAny_pyIter_tuple hT ?_)
  refine ⟨_, [_, s.heap.objs.size], [_], _, _, _, _, rfl, Walks.tuple (A := A.in1) hh _ s.heap.objs.size (by rw [hsz]; exact Nat.ne_of_lt (Nat.lt_succ_self _)) (intItems xs),
    ⟨⟨_, Heap.get?_push_size _ rfl, rfl, rfl⟩, hT.push _⟩, fun d hd => ?_, by rw [hln]; exact hne, CmpOf.ints_gt (numAt xs) (fun _ _ => intItems_at), fun v h' tk hP hk => ?_⟩
  · show d < ((s.heap.push _).push _).objs.size
    rw [Heap.size_push, hsz]
    rcases List.mem_cons.mp hd with e | hd
    · rw [e, hsz]; exact Nat.lt_succ_self _
    · rw [List.mem_singleton.mp hd]; exact Nat.lt_succ_of_lt (Nat.lt_succ_self _)
  · have hold : ∀ d o, s.heap.get? d = some o → h'.get? d = some o := fun d o e => by
      refine hk d o (fun hm => ?_) (Heap.get?_push_of_some _ (Heap.get?_push_of_some _ e))
      have := Heap.lt_size e
      rw [List.mem_singleton.mp hm, hsz] at this
      exact Nat.lt_irrefl _ (Nat.lt_of_succ_lt this)
    obtain ⟨t, rfl⟩ := intItems_at hP
    obtain ⟨h1, h2⟩ := argBest_gt (numAt xs) ((intItems xs).size - 1)
    refine h h' tk _ t hold ?_ fun a ha => ?_
    · rw [numAt_eq]; exact PySem.getD_mem (by rw [List.length_map, Array.length_toList]; omega)
    · obtain ⟨j, hj, rfl⟩ := PySem.mem_getD ha
      rw [List.length_map, Array.length_toList] at hj
      rw [← numAt_eq]; exact h2 j (by omega)
theorem args_max3 (a0 a1 a2 : Value) : argsOk "max" ⟨[a0, a1, a2], []⟩ := by unfold argsOk; kernel_rfl
theorem tree_max3 {a0 a1 a2 : Value} {Q : Value → Shared → Prop} (h : wpAny (model prog w) A.in1 (pyIter (.ref s.heap.objs.size)) (Askmax prog w A Q) E { s with heap := s.heap.push { cls := .type "tuple", data := .seq #[a0, a1, a2] } }) : wpAny (model prog w) A (call (.builtin "max") [a0, a1, a2]) Q E s := by
  have hname : (toString "max" ++ toString ".loop" : String) = "max.loop" := by decide
  refine call_function_tree F.kind_max F.plain_max F.entry_max (args_max3 _ _ _) ?_
  show wpAny _ A.in1 (Builtin.Builtins.bindParams "max" ["key", "default"] 0 ⟨[], []⟩ >>= _) _ _ s
  refine wpAny_bind (wpAny_of_eq (show Builtin.Builtins.bindParams "max" ["key", "default"] 0 ⟨[], []⟩ = pure [none, none] from rfl) ?_)
  show wpAny _ A.in1 (newTuple [a0, a1, a2] >>= _) _ _ s
  refine wpAny_bind (wpAny_newObj_type ?_)
  refine wpAny_bind (wpAny_mono h (fun it s₂ h₂ => ?_) fun _ _ e => e)
  obtain ⟨I, fp, wr, n, P, St, bt, rfl, W, hst, hfp, hn, hcmp, hQ⟩ := h₂
  refine wpAny_bind (wpAny_newObj_type ?_)
  have hSf : s₂.heap.objs.size ∉ fp := fun hm => Nat.lt_irrefl _ (hfp _ hm)
  rw [hname]
  refine wpAny_pure ⟨plainId_quiet F.plain_max_loop _, codeAny_max_loop_first W bt hcmp s₂.heap.objs.size hSf hn (W.frame _ _ _ hst fun b _ o e => Heap.get?_push_of_some _ e) (Heap.get?_push_size _ rfl) fun v h' tk hP hk => ?_⟩
  exact hQ v h' tk hP fun b o hbw e => hk b o hbw (Nat.ne_of_lt (Heap.lt_size e)) (Heap.get?_push_of_some _ e)
theorem args_max4 (a0 a1 a2 a3 : Value) : argsOk "max" ⟨[a0, a1, a2, a3], []⟩ := by unfold argsOk; kernel_rfl
theorem tree_max4 {a0 a1 a2 a3 : Value} {Q : Value → Shared → Prop} (h : wpAny (model prog w) A.in1 (pyIter (.ref s.heap.objs.size)) (Askmax prog w A Q) E { s with heap := s.heap.push { cls := .type "tuple", data := .seq #[a0, a1, a2, a3] } }) : wpAny (model prog w) A (call (.builtin "max") [a0, a1, a2, a3]) Q E s := by
  have hname : (toString "max" ++ toString ".loop" : String) = "max.loop" := by decide
  refine call_function_tree F.kind_max F.plain_max F.entry_max (args_max4 _ _ _ _) ?_
  show wpAny _ A.in1 (Builtin.Builtins.bindParams "max" ["key", "default"] 0 ⟨[], []⟩ >>= _) _ _ s
  refine wpAny_bind (wpAny_of_eq (show Builtin.Builtins.bindParams "max" ["key", "default"] 0 ⟨[], []⟩ = pure [none, none] from rfl) ?_)
  show wpAny _ A.in1 (newTuple [a0, a1, a2, a3] >>= _) _ _ s
  refine wpAny_bind (wpAny_newObj_type ?_)
  refine wpAny_bind (wpAny_mono h (fun it s₂ h₂ => ?_) fun _ _ e => e)
  obtain ⟨I, fp, wr, n, P, St, bt, rfl, W, hst, hfp, hn, hcmp, hQ⟩ := h₂
  refine wpAny_bind (wpAny_newObj_type ?_)
  have hSf : s₂.heap.objs.size ∉ fp := fun hm => Nat.lt_irrefl _ (hfp _ hm)
  rw [hname]
  refine wpAny_pure ⟨plainId_quiet F.plain_max_loop _, codeAny_max_loop_first W bt hcmp s₂.heap.objs.size hSf hn (W.frame _ _ _ hst fun b _ o e => Heap.get?_push_of_some _ e) (Heap.get?_push_size _ rfl) fun v h' tk hP hk => ?_⟩
  exact hQ v h' tk hP fun b o hbw e => hk b o hbw (Nat.ne_of_lt (Heap.lt_size e)) (Heap.get?_push_of_some _ e)
theorem args_max5 (a0 a1 a2 a3 a4 : Value) : argsOk "max" ⟨[a0, a1, a2, a3, a4], []⟩ := by unfold argsOk; kernel_rfl
theorem tree_max5 {a0 a1 a2 a3 a4 : Value} {Q : Value → Shared → Prop} (h : wpAny (model prog w) A.in1 (pyIter (.ref s.heap.objs.size)) (Askmax prog w A Q) E { s with heap := s.heap.push { cls := .type "tuple", data := .seq #[a0, a1, a2, a3, a4] } }) : wpAny (model prog w) A (call (.builtin "max") [a0, a1, a2, a3, a4]) Q E s := by
  have hname : (toString "max" ++ toString ".loop" : String) = "max.loop" := by decide
  refine call_function_tree F.kind_max F.plain_max F.entry_max (args_max5 _ _ _ _ _) ?_
  show wpAny _ A.in1 (Builtin.Builtins.bindParams "max" ["key", "default"] 0 ⟨[], []⟩ >>= _) _ _ s
  refine wpAny_bind (wpAny_of_eq (show Builtin.Builtins.bindParams "max" ["key", "default"] 0 ⟨[], []⟩ = pure [none, none] from rfl) ?_)
  show wpAny _ A.in1 (newTuple [a0, a1, a2, a3, a4] >>= _) _ _ s
  refine wpAny_bind (wpAny_newObj_type ?_)
  refine wpAny_bind (wpAny_mono h (fun it s₂ h₂ => ?_) fun _ _ e => e)
  obtain ⟨I, fp, wr, n, P, St, bt, rfl, W, hst, hfp, hn, hcmp, hQ⟩ := h₂
  refine wpAny_bind (wpAny_newObj_type ?_)
  have hSf : s₂.heap.objs.size ∉ fp := fun hm => Nat.lt_irrefl _ (hfp _ hm)
  rw [hname]
  refine wpAny_pure ⟨plainId_quiet F.plain_max_loop _, codeAny_max_loop_first W bt hcmp s₂.heap.objs.size hSf hn (W.frame _ _ _ hst fun b _ o e => Heap.get?_push_of_some _ e) (Heap.get?_push_size _ rfl) fun v h' tk hP hk => ?_⟩
  exact hQ v h' tk hP fun b o hbw e => hk b o hbw (Nat.ne_of_lt (Heap.lt_size e)) (Heap.get?_push_of_some _ e)
end
section
variable {X : Cx}
theorem call_max3 (hc : X.calm = true) : CallR X (.builtin "max") (fun xs H Q => ∃ a0 a1 a2 : Int, xs = [.int a0, .int a1, .int a2] ∧ ∀ m, (m = a0 ∨ m = a1 ∨ m = a2) → a0 ≤ m → a1 ≤ m → a2 ≤ m → Q (.int m) H) := by
  intro pins s σ H xs us Q I r h
  obtain ⟨a0, a1, a2, rfl, q⟩ := h
  cases r with | cons q0 r0 =>
  obtain ⟨t0, rfl⟩ := q0
  cases r0 with | cons q1 r1 =>
  obtain ⟨t1, rfl⟩ := q1
  cases r1 with | cons q2 r2 =>
  obtain ⟨t2, rfl⟩ := q2
  cases r2
  refine ask_max (xs := #[(a0, t0), (a1, t1), (a2, t2)]) (I.ok.hd hc) (by simp) (fun h => tree_max3 (by simpa [intItems] using h)) fun h' tk M t' hk hm hle => ⟨.int M, H, I.kept hk, ⟨_, rfl⟩, q M ?_ (hle _ (by simp)) (hle _ (by simp)) (hle _ (by simp))⟩
  · simpa using hm
theorem call_max4 (hc : X.calm = true) : CallR X (.builtin "max") (fun xs H Q => ∃ a0 a1 a2 a3 : Int, xs = [.int a0, .int a1, .int a2, .int a3] ∧ ∀ m, (m = a0 ∨ m = a1 ∨ m = a2 ∨ m = a3) → a0 ≤ m → a1 ≤ m → a2 ≤ m → a3 ≤ m → Q (.int m) H) := by
  intro pins s σ H xs us Q I r h
  obtain ⟨a0, a1, a2, a3, rfl, q⟩ := h
  cases r with | cons q0 r0 =>
  obtain ⟨t0, rfl⟩ := q0
  cases r0 with | cons q1 r1 =>
  obtain ⟨t1, rfl⟩ := q1
  cases r1 with | cons q2 r2 =>
  obtain ⟨t2, rfl⟩ := q2
  cases r2 with | cons q3 r3 =>
  obtain ⟨t3, rfl⟩ := q3
  cases r3
  refine ask_max (xs := #[(a0, t0), (a1, t1), (a2, t2), (a3, t3)]) (I.ok.hd hc) (by simp) (fun h => tree_max4 (by simpa [intItems] using h)) fun h' tk M t' hk hm hle => ⟨.int M, H, I.kept hk, ⟨_, rfl⟩, q M ?_ (hle _ (by simp)) (hle _ (by simp)) (hle _ (by simp)) (hle _ (by simp))⟩
  · simpa using hm
theorem call_max5 (hc : X.calm = true) : CallR X (.builtin "max") (fun xs H Q => ∃ a0 a1 a2 a3 a4 : Int, xs = [.int a0, .int a1, .int a2, .int a3, .int a4] ∧ ∀ m, (m = a0 ∨ m = a1 ∨ m = a2 ∨ m = a3 ∨ m = a4) → a0 ≤ m → a1 ≤ m → a2 ≤ m → a3 ≤ m → a4 ≤ m → Q (.int m) H) := by
  intro pins s σ H xs us Q I r h
  obtain ⟨a0, a1, a2, a3, a4, rfl, q⟩ := h
  cases r with | cons q0 r0 =>
  obtain ⟨t0, rfl⟩ := q0
  cases r0 with | cons q1 r1 =>
  obtain ⟨t1, rfl⟩ := q1
  cases r1 with | cons q2 r2 =>
  obtain ⟨t2, rfl⟩ := q2
  cases r2 with | cons q3 r3 =>
  obtain ⟨t3, rfl⟩ := q3
  cases r3 with | cons q4 r4 =>
  obtain ⟨t4, rfl⟩ := q4
  cases r4
  refine ask_max (xs := #[(a0, t0), (a1, t1), (a2, t2), (a3, t3), (a4, t4)]) (I.ok.hd hc) (by simp) (fun h => tree_max5 (by simpa [intItems] using h)) fun h' tk M t' hk hm hle => ⟨.int M, H, I.kept hk, ⟨_, rfl⟩, q M ?_ (hle _ (by simp)) (hle _ (by simp)) (hle _ (by simp)) (hle _ (by simp)) (hle _ (by simp))⟩
  · simpa using hm
end
end Ew
namespace Pu
open PySem PySem.Spec PyProof.Rows L2
variable [Tbs]
/-! ### calls of built-ins -/
def CallD (l : Bool) (mo : Mode) (r : List V → Hp → VK → Prop) (g : List D → (D → Prop) → Prop) : Prop := ∀ (z : Zn) (X : AP) (H0 H : Hp) (σ : Sl) (env : List SV) (vs : List V) (ds : List D) (Q : VK) (k : D → Prop), Ok z X H0 H σ env →
  IsA z (if l = true then Ms z X σ env else Zx z X) H vs ds → (∀ d w H', Evo z H H' → Rel mo z X H H' σ env w d → k d → Q w H') → g ds k → r vs H Q
def eCall (g : List D → (D → Prop) → Prop) (a : PAs) : PX := fun env k => a env fun ds => g ds k
section
variable {C : Cx} {e a b : Expr} {es : List Expr} {p q : PX} {ga : PAs} {m mo : Mode} {l : Bool} {pos pp : Pos} {x : Str} {id ty : String} {r : List V → Hp → VK → Prop} {g : List D → (D → Prop) → Prop}
theorem RE.cB {t : TA} (hd : CallD l mo r g) (h : RA l t ga) : RE mo (tCB r t) (eCall g ga) := fun z X H0 H σ env Q k o c hp =>
  h z X H0 H σ env _ _ o (fun ds vs H1 e1 r1 hx => hd z X H0 H1 σ env vs ds Q k (o.go e1) r1 (fun d w H2 e2 r2 kd => c d w H2 (e1.trans e2) (r2.early e1) kd) hx) hp
theorem e_callB (hc : CallR C (.builtin id) r) (hd : CallD l mo r g) (hg : Gl C x) (hm : C.mg x = none) (hv : bootBuiltins x = some (.builtin id)) (ha : A l C (e :: es) ga) (hn : x ≠ "__name__" := by decide) (hdb : (x == ("__debug__" : Str)) = false := by decide)
    (he : starEach (e :: es) C.env = (false, eval e C.env) :: starEach es C.env := by rfl) (hpl : (backTo pos (starEach es C.env)).any (·.1) = false := by rfl) : E mo C (.Call (.Name x pp) (e :: es) [] pos) (eCall g ga) := by
  obtain ⟨t, h1, h2⟩ := ha
  exact ⟨_, pe_callB hc hg hm hv h1 hn hdb he hpl, RE.cB hd h2⟩
theorem e_callTy (hc : CallR C (.type ty) r) (hd : CallD l mo r g) (hg : Gl C x) (hm : C.mg x = none) (hv : bootBuiltins x = some (.type ty)) (ha : A l C (e :: es) ga) (hn : x ≠ "__name__" := by decide) (hdb : (x == ("__debug__" : Str)) = false := by decide)
    (he : starEach (e :: es) C.env = (false, eval e C.env) :: starEach es C.env := by rfl) (hpl : (backTo pos (starEach es C.env)).any (·.1) = false := by rfl) : E mo C (.Call (.Name x pp) (e :: es) [] pos) (eCall g ga) := by
  obtain ⟨t, h1, h2⟩ := ha
  exact ⟨_, pe_callTy hc hg hm hv h1 hn hdb he hpl, RE.cB hd h2⟩
end
def gAbs : List D → (D → Prop) → Prop := fun ds k => match ds with
  | [.int i] => k (.int (if i < 0 then -i else i))
  | _ => False
theorem IsA.one {z : Zn} {M : AP} {H : Hp} {vs : List V} {d : D} (h : IsA z M H vs [d]) : ∃ v, vs = [v] ∧ Is z M H v d := by
  cases h with
  | cons q t => cases t; exact ⟨_, rfl, q⟩
theorem IsA.two {z : Zn} {M : AP} {H : Hp} {vs : List V} {d d' : D} (h : IsA z M H vs [d, d']) : ∃ v v', vs = [v, v'] ∧ Is z M H v d ∧ Is z M H v' d' := by
  cases h with
  | cons q t => obtain ⟨v', rfl, h⟩ := IsA.one t; exact ⟨_, _, rfl, q, h⟩
theorem cd_abs {l : Bool} : CallD l .e (fun xs H Q => ∃ i, xs = [.int i] ∧ Q (.int (if i < 0 then -i else i)) H) gAbs := fun z X H0 H σ env vs ds Q k o h c hp => by
  unfold gAbs at hp
  split at hp
  · rename_i i
    obtain ⟨v, rfl, hv⟩ := h.one
    cases hv
    exact ⟨i, rfl, c _ _ H (Evo.refl _ _) (Is.int _) hp⟩
  · exact hp.elim
/-- the greatest, the least of some numbers -/
def maxI : List Int → Int
  | [] => 0
  | [a] => a
  | a :: b :: r => max a (maxI (b :: r))
def minI : List Int → Int
  | [] => 0
  | [a] => a
  | a :: b :: r => min a (minI (b :: r))
theorem maxI_le : ∀ {ns : List Int} {n : Int}, n ∈ ns → n ≤ maxI ns
  | [a], n, h => by simp at h; subst h; exact Int.le_refl _
  | a :: b :: r, n, h => by
    show n ≤ max a (maxI (b :: r))
    rcases List.mem_cons.mp h with rfl | h
    · exact Int.le_max_left ..
    · exact Int.le_trans (maxI_le h) (Int.le_max_right ..)
theorem maxI_mem : ∀ {ns : List Int}, ns ≠ [] → maxI ns ∈ ns
  | [], h => absurd rfl h
  | [a], _ => List.mem_singleton.mpr rfl
  | a :: b :: r, _ => by
    show max a (maxI (b :: r)) ∈ _
    have q := maxI_mem (ns := b :: r) (by simp)
    rcases Int.le_total a (maxI (b :: r)) with h | h
    · rw [Int.max_eq_right h]; exact List.mem_cons_of_mem _ q
    · rw [Int.max_eq_left h]; exact List.mem_cons_self
theorem minI_le : ∀ {ns : List Int} {n : Int}, n ∈ ns → minI ns ≤ n
  | [a], n, h => by simp at h; subst h; exact Int.le_refl _
  | a :: b :: r, n, h => by
    show min a (minI (b :: r)) ≤ n
    rcases List.mem_cons.mp h with rfl | h
    · exact Int.min_le_left ..
    · exact Int.le_trans (Int.min_le_right ..) (minI_le h)
theorem minI_mem : ∀ {ns : List Int}, ns ≠ [] → minI ns ∈ ns
  | [], h => absurd rfl h
  | [a], _ => List.mem_singleton.mpr rfl
  | a :: b :: r, _ => by
    show min a (minI (b :: r)) ∈ _
    have q := minI_mem (ns := b :: r) (by simp)
    rcases Int.le_total a (minI (b :: r)) with h | h
    · rw [Int.min_eq_left h]; exact List.mem_cons_self
    · rw [Int.min_eq_right h]; exact List.mem_cons_of_mem _ q
theorem maxI_eq {ns : List Int} {m : Int} (h : m ∈ ns) (u : ∀ y ∈ ns, y ≤ m) : m = maxI ns := Int.le_antisymm (maxI_le h) (u _ (maxI_mem (List.ne_nil_of_mem h)))
theorem minI_eq {ns : List Int} {m : Int} (h : m ∈ ns) (u : ∀ y ∈ ns, m ≤ y) : m = minI ns := Int.le_antisymm (u _ (minI_mem (List.ne_nil_of_mem h))) (minI_le h)
def gMaxN : List D → (D → Prop) → Prop := fun ds k => match ds with
  | [.int a, .int b] => k (.int (max a b))
  | [.int a, .int b, .int c] => k (.int (max a (max b c)))
  | [.int a, .int b, .int c, .int d] => k (.int (max a (max b (max c d))))
  | [.int a, .int b, .int c, .int d, .int e] => k (.int (max a (max b (max c (max d e)))))
  | _ => False
def gMinN : List D → (D → Prop) → Prop := fun ds k => match ds with
  | [.int a, .int b] => k (.int (min a b))
  | [.int a, .int b, .int c] => k (.int (min a (min b c)))
  | [.int a, .int b, .int c, .int d] => k (.int (min a (min b (min c d))))
  | [.int a, .int b, .int c, .int d, .int e] => k (.int (min a (min b (min c (min d e)))))
  | _ => False
def rMaxN : List V → Hp → VK → Prop := fun xs H Q => (∃ i j, xs = [.int i, .int j] ∧ Q (.int (if j > i then j else i)) H) ∨
  (∃ a0 a1 a2 : Int, xs = [.int a0, .int a1, .int a2] ∧ ∀ m, (m = a0 ∨ m = a1 ∨ m = a2) → a0 ≤ m → a1 ≤ m → a2 ≤ m → Q (.int m) H) ∨
  (∃ a0 a1 a2 a3 : Int, xs = [.int a0, .int a1, .int a2, .int a3] ∧ ∀ m, (m = a0 ∨ m = a1 ∨ m = a2 ∨ m = a3) → a0 ≤ m → a1 ≤ m → a2 ≤ m → a3 ≤ m → Q (.int m) H) ∨
  (∃ a0 a1 a2 a3 a4 : Int, xs = [.int a0, .int a1, .int a2, .int a3, .int a4] ∧ ∀ m, (m = a0 ∨ m = a1 ∨ m = a2 ∨ m = a3 ∨ m = a4) → a0 ≤ m → a1 ≤ m → a2 ≤ m → a3 ≤ m → a4 ≤ m → Q (.int m) H)
theorem callr_or {C : Cx} {f : Value} {r r' : List V → Hp → VK → Prop} (h : CallR C f r) (h' : CallR C f r') : CallR C f (fun xs H Q => r xs H Q ∨ r' xs H Q) := fun pins s σ H xs us Q I rx q => q.elim (h pins s σ H xs us Q I rx) (h' pins s σ H xs us Q I rx)
theorem call_maxN {C : Cx} (hc : C.calm = true) : CallR C (.builtin "max") rMaxN := callr_or (call_max2 hc) (callr_or (Ew.call_max3 hc) (callr_or (Ew.call_max4 hc) (Ew.call_max5 hc)))
theorem cd_maxN {l : Bool} : CallD l .e rMaxN gMaxN := fun z X H0 H σ env vs ds Q k o h c hp => by
  unfold gMaxN at hp
  split at hp
  · cases IsA.ints (ns := [_, _]) h
    refine .inl ⟨_, _, rfl, c _ _ H (Evo.refl _ _) ?_ hp⟩
    have : ∀ a b : Int, (if b > a then b else a) = max a b := fun a b => by split <;> omega
    rw [this]
    exact Is.int _
  · cases IsA.ints (ns := [_, _, _]) h
    refine .inr (.inl ⟨_, _, _, rfl, fun m h1 h2 h3 h4 => c (.int m) _ H (Evo.refl _ _) (Is.int m) ?_⟩)
    rename_i a b d
    have : max a (max b d) = m := by omega
    rw [← this]; exact hp
  · cases IsA.ints (ns := [_, _, _, _]) h
    refine .inr (.inr (.inl ⟨_, _, _, _, rfl, fun m h1 h2 h3 h4 h5 => c (.int m) _ H (Evo.refl _ _) (Is.int m) ?_⟩))
    rename_i a b d e
    have : max a (max b (max d e)) = m := by omega
    rw [← this]; exact hp
  · cases IsA.ints (ns := [_, _, _, _, _]) h
    refine .inr (.inr (.inr ⟨_, _, _, _, _, rfl, fun m h1 h2 h3 h4 h5 h6 => c (.int m) _ H (Evo.refl _ _) (Is.int m) ?_⟩))
    rename_i a b d e f
    have : max a (max b (max d (max e f))) = m := by omega
    rw [← this]; exact hp
  · exact hp.elim
/-- of a list of numbers -/
def gMaxL : List D → (D → Prop) → Prop := fun ds k => ∃ xs ns, ds = [.lst xs] ∧ intsD xs = some ns ∧ ns ≠ [] ∧ k (.int (maxI ns))
def gMinL : List D → (D → Prop) → Prop := fun ds k => ∃ xs ns, ds = [.lst xs] ∧ intsD xs = some ns ∧ ns ≠ [] ∧ k (.int (minI ns))
def gSum : List D → (D → Prop) → Prop := fun ds k => ∃ xs ns, ds = [.lst xs] ∧ intsD xs = some ns ∧ k (.int ns.sum)
theorem one_ints {z : Zn} {M : AP} {H : Hp} {vs : List V} {xs : List D} {ns : List Int} (h : IsA z M H vs [.lst xs]) (hi : intsD xs = some ns) : ∃ a, vs = [.ref a] ∧ H a = some (.lst (ns.map V.int)) := by
  obtain ⟨v, rfl, hv⟩ := h.one
  cases intsD_eq hi
  cases hv with
  | lst e n r => exact ⟨_, rfl, by rw [← r.ints]; exact e⟩
theorem cd_maxL {l : Bool} {K : PySem.W.Frag} : CallD l .e (rMax K) gMaxL := fun z X H0 H σ env vs ds Q k o h c hp => by
  obtain ⟨xs, ns, rfl, hi, hne, hk⟩ := hp
  obtain ⟨a, rfl, ha⟩ := one_ints h hi
  refine ⟨a, ns, rfl, SqL.of ha, List.length_pos_iff.mpr hne, fun m h1 h2 => ?_⟩
  rw [maxI_eq h1 h2]
  exact c _ _ H (Evo.refl _ _) (Is.int _) hk
theorem cd_minL {l : Bool} {K : PySem.W.Frag} : CallD l .e (rMin K) gMinL := fun z X H0 H σ env vs ds Q k o h c hp => by
  obtain ⟨xs, ns, rfl, hi, hne, hk⟩ := hp
  obtain ⟨a, rfl, ha⟩ := one_ints h hi
  refine ⟨a, ns, rfl, SqL.of ha, List.length_pos_iff.mpr hne, fun m h1 h2 => ?_⟩
  rw [minI_eq h1 h2]
  exact c _ _ H (Evo.refl _ _) (Is.int _) hk
theorem cd_sum {l : Bool} {K : PySem.W.Frag} : CallD l .e (rSum K) gSum := fun z X H0 H σ env vs ds Q k o h c hp => by
  obtain ⟨xs, ns, rfl, hi, hk⟩ := hp
  obtain ⟨a, rfl, ha⟩ := one_ints h hi
  exact ⟨a, ns, rfl, SqL.of ha, c _ _ H (Evo.refl _ _) (Is.int _) hk⟩
/-- len -/
def gLen : List D → (D → Prop) → Prop := fun ds k => match ds with
  | [.tup xs] => k (.int xs.length)
  | [.lst xs] => k (.int xs.length)
  | [.str s] => s.length ≤ 100000 ∧ k (.int s.length)
  | _ => False
def rLenA (K : PySem.W.Frag) : List V → Hp → VK → Prop := fun xs H Q => (∃ p ys, xs = [.ref p] ∧ (SqL K H p ys ∨ SqT K H p ys) ∧ Q (.int ys.length) H) ∨ (∃ z, xs = [.str z] ∧ z.length ≤ sizeLine ∧ Q (.int z.length) H)
theorem call_lenA {C : Cx} : CallR C (.builtin "len") (rLenA C.K) := callr_or call_len_seq call_len_str
theorem cd_len {l : Bool} {K : PySem.W.Frag} : CallD l .e (rLenA K) gLen := fun z X H0 H σ env vs ds Q k o h c hp => by
  unfold gLen at hp
  split at hp
  · obtain ⟨v, rfl, hv⟩ := h.one
    cases hv with
    | tup e n r => exact .inl ⟨_, _, rfl, .inr (SqT.of e), by rw [r.length]; exact c _ _ H (Evo.refl _ _) (Is.int _) hp⟩
  · obtain ⟨v, rfl, hv⟩ := h.one
    cases hv with
    | lst e n r => exact .inl ⟨_, _, rfl, .inl (SqL.of e), by rw [r.length]; exact c _ _ H (Evo.refl _ _) (Is.int _) hp⟩
  · obtain ⟨v, rfl, hv⟩ := h.one
    cases hv
    exact .inr ⟨_, rfl, sz hp.1, c _ _ H (Evo.refl _ _) (Is.int _) hp.2⟩
  · exact hp.elim
/-- int of a truth or a number -/
def gInt : List D → (D → Prop) → Prop := fun ds k => match ds with
  | [.int i] => k (.int i)
  | [.bl b] => k (.int (if b then 1 else 0))
  | _ => False
theorem cd_int {l : Bool} : CallD l .e (fun xs H Q => (∃ i, xs = [.int i] ∧ Q (.int i) H) ∨ ∃ k, xs = [.bl k] ∧ Q (.int (if k then 1 else 0)) H) gInt := fun z X H0 H σ env vs ds Q k o h c hp => by
  unfold gInt at hp
  split at hp
  · obtain ⟨v, rfl, hv⟩ := h.one
    cases hv
    exact .inl ⟨_, rfl, c _ _ H (Evo.refl _ _) (Is.int _) hp⟩
  · obtain ⟨v, rfl, hv⟩ := h.one
    cases hv
    exact .inr ⟨_, rfl, c _ _ H (Evo.refl _ _) (Is.int _) hp⟩
  · exact hp.elim
/-- isinstance -/
def tyD : D → Option String
  | .non => some "NoneType"
  | .bl _ => some "bool"
  | .int _ => some "int"
  | .str _ => some "str"
  | .tup _ => some "tuple"
  | .lst _ => some "list"
  | .dic _ => some "dict"
  | _ => none
def isB : String → String → Option Bool
  | "int", "int" => some true
  | "bool", "int" => some true
  | "bool", "bool" => some true
  | "str", "str" => some true
  | "tuple", "tuple" => some true
  | "list", "list" => some true
  | "dict", "dict" => some true
  | "NoneType", "int" => some false
  | "NoneType", "bool" => some false
  | "NoneType", "str" => some false
  | "NoneType", "tuple" => some false
  | "NoneType", "list" => some false
  | "NoneType", "dict" => some false
  | "bool", "str" => some false
  | "bool", "tuple" => some false
  | "bool", "list" => some false
  | "bool", "dict" => some false
  | "int", "bool" => some false
  | "int", "str" => some false
  | "int", "tuple" => some false
  | "int", "list" => some false
  | "int", "dict" => some false
  | "str", "int" => some false
  | "str", "bool" => some false
  | "str", "tuple" => some false
  | "str", "list" => some false
  | "str", "dict" => some false
  | "tuple", "int" => some false
  | "tuple", "bool" => some false
  | "tuple", "str" => some false
  | "tuple", "list" => some false
  | "tuple", "dict" => some false
  | "list", "int" => some false
  | "list", "bool" => some false
  | "list", "str" => some false
  | "list", "tuple" => some false
  | "list", "dict" => some false
  | "dict", "int" => some false
  | "dict", "bool" => some false
  | "dict", "str" => some false
  | "dict", "tuple" => some false
  | "dict", "list" => some false
  | _, _ => none
theorem isB_kit {a b : String} {r : Bool} (h : isB a b = some r) : kitB a b = some r := by
  unfold isB at h
  split at h <;> first | (cases h; decide +kernel) | cases h
def gIsi : List D → (D → Prop) → Prop := fun ds k => match ds with
  | [x, .ty n] => ∃ t b, tyD x = some t ∧ isB t n = some b ∧ k (.bl b)
  | _ => False
theorem Is.ty' {z : Zn} {M : AP} {H : Hp} {v : V} {d : D} {K : PySem.W.Frag} {t : String} (h : Is z M H v d) (e : tyD d = some t) : TyOf K H v (.type t) := by
  cases h with
  | non => cases e; exact .non
  | bl b => cases e; exact .bl b
  | int b => cases e; exact .int b
  | str b => cases e; exact .str b
  | tup h _ _ => cases e; exact .tup h
  | lst h _ _ => cases e; exact .lst h
  | dic h _ _ => cases e; exact .dK h
  | _ => cases e
theorem cd_isi {l : Bool} {K : PySem.W.Frag} : CallD l .e (rIsi K) gIsi := fun z X H0 H σ env vs ds Q k o h c hp => by
  unfold gIsi at hp
  split at hp
  · obtain ⟨v, u, rfl, hv, hu⟩ := h.two
    cases hu
    obtain ⟨t, b, h1, h2, hk⟩ := hp
    exact ⟨v, .ty _, .type t, .type _, b, rfl, .ty _, .base (hv.ty' h1), kit_ty (isB_kit h2), c _ _ H (Evo.refl _ _) (Is.bl _) hk⟩
  · exact hp.elim
section
variable {C : Cx} {e : Expr} {p : PX} {m : Mode} {pos pp : Pos} {x : Str}
/-- tuple(x), list(x) -/
def dTuple : D → (D → Prop) → Prop := fun d k => match d with
  | .lst xs => k (.tup xs)
  | .tup xs => k (.tup xs)
  | _ => False
def dList : D → (D → Prop) → Prop := fun d k => match d with
  | .lst xs => k (.lst xs)
  | .tup xs => k (.lst xs)
  | _ => False
theorem e_tuple (h : E .c C e p) (hg : Gl C x) (hm : C.mg x = none) (hv : bootBuiltins x = some (.type "tuple")) (hn : x ≠ "__name__" := by decide) (hdb : (x == ("__debug__" : Str)) = false := by decide)
    (he : starEach [e] C.env = (false, eval e C.env) :: starEach [] C.env := by rfl) (hpl : (backTo pos (starEach [] C.env)).any (·.1) = false := by rfl) : E .e C (.Call (.Name x pp) [e] [] pos) (eUn dTuple p) := by
  obtain ⟨t, h1, h2⟩ := h
  refine ⟨_, pe_callTy call_tuple_of hg hm hv (pa_cons h1 pa_nil he) hn hdb he hpl, fun z X H0 H σ env Q k o c hp => h2 z X H0 H σ env _ _ o (fun d v H1 e1 r1 hx => ?_) hp⟩
  cases d with
  | tup xs =>
    obtain ⟨a, vs, rfl, q1, q2, n⟩ := r1.conT
    exact ⟨a, vs, rfl, .inr ⟨SqT.of q1, c _ _ H1 e1 (Is.tup q1 n q2) hx⟩⟩
  | lst xs =>
    obtain ⟨a, vs, rfl, q1, q2, n⟩ := r1.conL
    exact ⟨a, vs, rfl, .inl ⟨SqL.of q1, fun q hq => c _ _ _ (e1.new hq) ((Rel.newT (e1.fresh hq) hq q2).fe o) hx⟩⟩
  | _ => exact (show False from hx).elim
end
/-! ### calls of the program's own defs -/
/-- the promise of a def by its reading wp without places; fr: it gives a new list -/
def Sf (fr : Bool) (n : Nat) (wp : List D → (D → Prop) → Prop) : Sp := fun vs H Q _ => ∃ (z : Zn) (X : AP) (ds : List D) (k : D → Prop), vs.length = n ∧ ((∀ a, z.Z a → H a ≠ none) ∧ Tabs H) ∧ (∀ a, X a → H a ≠ none ∧ ¬ z.Z a) ∧ IsA z (Zx z X) H vs ds ∧ wp ds k ∧
  ∀ d v H', Evo z H H' → Is z (Zx z X) H' v d → (fr = true → ∃ a, v = .ref a ∧ H a = none ∧ Con z (Zx z (X.or a)) H' a d) → k d → Q v H'
section
variable {C : Cx} {e : Expr} {es : List Expr} {p : PX} {ga : PAs} {m mo : Mode} {fr : Bool} {k n : Nat} {pos pp : Pos} {x : Str} {f : Addr} {fd : FuncData} {ps : List Str} {wp : List D → (D → Prop) → Prop}
/-- what slots own, and X -/
def Ox (X : AP) (σ : Sl) (env : List SV) : AP := fun a => X a ∨ ∃ (i : Nat) (d : D), env[i]? = some (.own d) ∧ σ[i]? = some (some (V.ref a))
theorem Ok.ox {z : Zn} {X : AP} {H0 H : Hp} {σ : Sl} {env : List SV} (o : Ok z X H0 H σ env) {a : Addr} (h : Ox X σ env a) : H a ≠ none ∧ ¬ z.Z a := by
  rcases h with h | ⟨i, d, h1, h2⟩
  · exact o.xal a h
  · obtain ⟨b, q1, q2, q3, _⟩ := o.own i d h1
    rw [h2] at q1
    cases q1
    obtain ⟨u, hu⟩ := q2.some
    exact ⟨(by rw [hu]; intro w; cases w), q3⟩
theorem zx_ox {z : Zn} {X : AP} {σ : Sl} {env : List SV} {a : Addr} : Zx z (Ox X σ env) a ↔ Ms z X σ env a := by
  constructor
  · rintro (h | h | h)
    · exact .inl h
    · exact .inr (.inl h)
    · exact .inr (.inr h)
  · rintro (h | h | h)
    · exact .inl h
    · exact .inr (.inl h)
    · exact .inr (.inr h)
theorem re_call {t : TA} (h : RA true t ga) (E' : XK) (hm : mo = .e ∨ (mo = .f ∧ fr = true)) : RE mo (tCall (Sf fr n wp) [] E' t) (eCall (fun ds k => ds.length = n ∧ wp ds k) ga) := fun z X H0 H σ env Q k o c hp => by
  refine h z X H0 H σ env _ _ o (fun ds vs H1 e1 r1 hx => ?_) hp
  have o1 := o.go e1
  rw [if_pos rfl] at r1
  refine ⟨z, Ox X σ env, ds, k, by rw [List.append_nil, r1.length]; exact hx.1, ⟨o1.zal, o1.tab⟩, fun a => o1.ox, by rw [List.append_nil]; exact r1.weak fun a q => zx_ox.mp q, hx.2, fun d v H2 e2 r2 fq kd => ?_⟩
  refine c d v H2 (e1.trans e2) ?_ kd
  rcases hm with rfl | ⟨rfl, hf⟩
  · exact Is.weak (fun a q => zx_ox.mpr q) r2
  · obtain ⟨a, ev, ha, hc⟩ := fq hf
    refine ⟨a, ev, e1.fresh ha, hc.gen (fun _ q => q) (fun b u q n => ⟨q, fun y => n ?_⟩) fun _ h => h⟩
    rcases y with y | (y | y) | y
    · exact .inl y
    · exact .inr (.inl (.inl y))
    · exact .inr (.inr y)
    · exact .inr (.inl (.inr y))
theorem e_call (F : FnOk C.prog C.w C.K C.mg C.base CX0 k f fd ps (Sf fr n wp)) (hr : Room k C.A) (hg : Gl C x) (hm : C.mg x = some (.ref f)) (hk : PySem.W.keepIn C.K (.ref f) = true) (hb : Binds C.K fd ps [])
    (ha : A true C (e :: es) ga) (hmo : mo = .e ∨ (mo = .f ∧ fr = true)) (hdb : (x == ("__debug__" : Str)) = false := by decide) (he : starEach (e :: es) C.env = (false, eval e C.env) :: starEach es C.env := by rfl) (hpl : (backTo pos (starEach es C.env)).any (·.1) = false := by rfl) :
    E mo C (.Call (.Name x pp) (e :: es) [] pos) (eCall (fun ds k => ds.length = n ∧ wp ds k) ga) := by
  obtain ⟨t, h1, h2⟩ := ha
  exact ⟨_, pe_call F hr hg hm hk hb .nil pass0 h1 hdb he hpl, re_call h2 E0 hmo⟩
end
end Pu
namespace Pu
open PySem PySem.Spec PyProof.Rows L2
variable [Tbs]
/-! ### statements -/
structure PK' where
  nx : List SV → Prop
  rt : D → Prop
  bk : List SV → Prop := fun _ => False
  ct : List SV → Prop := fun _ => False
  /-- a return of a def that hands a borrowed thing back -/
  re : List SV → D → Prop := fun _ _ => False
abbrev PSt := List SV → PK' → Prop
structure Sim (fr : Bool) (z : Zn) (X : AP) (H0 : Hp) (M : AP) (H : Hp) (G : Ends) (k : PK') : Prop where
  nx : ∀ env' σ' H', Ok z X H0 H' σ' env' → Fr z X M H (Ms z X σ' env') H' → k.nx env' → G.nx σ' H'
  rt : ∀ d v H', Evo z H0 H' → Is z (Zx z X) H' v d → (fr = true → ∃ a, v = .ref a ∧ H0 a = none ∧ Con z (Zx z (X.or a)) H' a d) → k.rt d → G.rt v H'
  bk : ∀ env' σ' H', Ok z X H0 H' σ' env' → Fr z X M H (Ms z X σ' env') H' → k.bk env' → G.bk σ' H'
  ct : ∀ env' σ' H', Ok z X H0 H' σ' env' → Fr z X M H (Ms z X σ' env') H' → k.ct env' → G.ct σ' H'
  re : ∀ env' σ' H' d v, Ok z X H0 H' σ' env' → Is z (Ms z X σ' env') H' v d → k.re env' d → G.rt v H'
theorem Sim.go {fr : Bool} {z : Zn} {X : AP} {H0 : Hp} {M M1 : AP} {H H1 : Hp} {G : Ends} {k : PK'} (s : Sim fr z X H0 M H G k) (f : Fr z X M H M1 H1) : Sim fr z X H0 M1 H1 G k :=
  ⟨fun e σ H' o g h => s.nx e σ H' o (f.trans g) h, s.rt, fun e σ H' o g h => s.bk e σ H' o (f.trans g) h, fun e σ H' o g h => s.ct e σ H' o (f.trans g) h, s.re⟩
def RS (fr : Bool) (t : TS) (p : PSt) : Prop := ∀ (z : Zn) (X : AP) (H0 H : Hp) (σ : Sl) (env : List SV) (G : Ends) (k : PK'), Ok z X H0 H σ env → Sim fr z X H0 (Ms z X σ env) H G k → p env k → t G σ H
structure S (fr : Bool) (C : Cx) (st : Stmt) (p : PSt) : Prop where
  ex : ∃ t, PS C st t ∧ RS fr t p
structure B (fr : Bool) (C : Cx) (st : List Stmt) (p : PSt) : Prop where
  ex : ∃ t, PSs C st t ∧ RS fr t p
section
variable {C : Cx} {fr : Bool} {st : Stmt} {rest : List Stmt} {p q : PSt} {e : Expr} {pe : PX} {m : Mode} {pos : Pos}
def sNext : PSt := fun env k => k.nx env
def sSeq (p q : PSt) : PSt := fun env k => p env { k with nx := fun env' => q env' k }
theorem b_nil : B fr C [] sNext := ⟨_, pss_nil, fun z X H0 H σ env G k o s h => s.nx env σ H o Fr.refl h⟩
theorem b_cons (h : S fr C st p) (g : B fr C rest q) : B fr C (st :: rest) (sSeq p q) := by
  obtain ⟨t, h1, h2⟩ := h
  obtain ⟨u, g1, g2⟩ := g
  refine ⟨_, pss_cons h1 g1, fun z X H0 H σ env G k o s hp => h2 z X H0 H σ env _ { k with nx := fun env' => q env' k } o ⟨fun env' σ' H' o' f hx => ?_, s.rt, s.bk, s.ct, s.re⟩ hp⟩
  exact g2 z X H0 H' σ' env' G k o' (s.go f) hx
theorem b_one (h : S fr C st p) : B fr C [st] p := let ⟨t, h1, h2⟩ := h; ⟨t, pss_one h1, h2⟩
def sDrop (p : PX) : PSt := fun env k => p env fun _ => k.nx env
def sRet (p : PX) : PSt := fun env k => p env k.rt
theorem s_ret (h : E m C e pe) : S false C (.Return (some e) pos) (sRet pe) := by
  obtain ⟨t, h1, h2⟩ := h.toB
  exact ⟨_, ps_ret h1, fun z X H0 H σ env G k o s hp => h2 z X H0 H σ env _ _ o (fun d v H1 e1 r1 hx => s.rt d v H1 (o.evo.trans e1) r1 (fun q => Bool.noConfusion q) hx) hp⟩
/-- return of a list that a slot owns -/
def sRetO (i : Nat) : PSt := fun env k => match env[i]? with
  | some (.own d) => k.rt d
  | _ => False
theorem s_retO (i : Nat) {x : Str} {pp : Pos} (hN : C.N[i]? = some x := by rfl) (hv : Vis C.env.scope x := by first | exact Or.inl rfl | exact Or.inr (Or.inl rfl) | exact Or.inr (Or.inr rfl)) (hd : (x == ("__debug__" : Str)) = false := by decide)
    (hcd : (x == ("__classdict__" : Str)) = false := by decide) : S fr C (.Return (some (.Name x pp)) pos) (sRetO i) := by
  refine ⟨_, ps_ret (pe_var hN hv hd hcd), fun z X H0 H σ env G k o s hp => ?_⟩
  unfold sRetO at hp
  split at hp
  · rename_i d he
    obtain ⟨a, h1, h2, h3, h4, h5⟩ := o.own i d he
    refine ⟨_, h1, s.rt d _ H o.evo ((h2.gen (fun _ q => q) (fun b u q n => ⟨q, fun y => n y.ms⟩) fun _ h => h).is fun q => q.elim h3 h4) (fun _ => ⟨a, rfl, h5, h2.gen (fun _ q => q) (fun b u q n => ⟨q, fun y => n ?_⟩) fun _ h => h⟩) hp⟩
    rcases y with y | y | y
    · exact .inl y
    · exact .inr (.inl y)
    · exact .inr (.inr ⟨i, d, he, by rw [y]; exact h1⟩)
  · exact hp.elim
def sRetN : PSt := fun _ k => k.rt .non
def sIf (c : PTs') (p q : PSt) : PSt := fun env k => c env fun b => if b = true then p env k else q env k
theorem s_if {c : Expr} {a b : List Stmt} {tc : PTs'} (h : T C c tc) (ha : B fr C a p) (hb : B fr C b q) : S fr C (.If c a b pos) (sIf tc p q) := by
  obtain ⟨t, h1, h2⟩ := h
  obtain ⟨ta, a1, a2⟩ := ha
  obtain ⟨tb, b1, b2⟩ := hb
  refine ⟨_, ps_if h1 a1 b1, fun z X H0 H σ env G k o s hp => h2 z X H0 H σ env _ _ o (fun x H1 e1 hx => ?_) hp⟩
  cases x with
  | true => exact a2 z X H0 H1 σ env G k (o.go e1) (s.go (o.fr e1)) hx
  | false => exact b2 z X H0 H1 σ env G k (o.go e1) (s.go (o.fr e1)) hx
/-! ### stores -/
def sSet (i : Nat) (p : PX) : PSt := fun env k => p env fun d => k.nx (env.set i (.val d))
theorem s_set {i : Nat} {x : Str} {pp : Pos} (h : E .e C e pe) (hN : C.N.Nodup) (hi : C.N[i]? = some x) (hx : Loc C.env.scope x) (hs : swapsWith e (some (.Name x pp)) pos.line C.env = pure false := by rfl) (hf : C.fn x = true ∨ C.env.scope.names.lookup x = some .local := by first | exact .inl rfl | exact .inr rfl | assumption) :
    S fr C (.Assign [.Name x pp] e pos) (sSet i pe) := by
  obtain ⟨t, h1, h2⟩ := h
  refine ⟨_, ps_set hN hi hx h1 hs hf, fun z X H0 H σ env G k o s hp => h2 z X H0 H σ env _ _ o (fun d v H1 e1 r1 hx => ?_) hp⟩
  obtain ⟨o2, f2⟩ := (o.go e1).set (i := i) (show Is z _ H1 v d from r1)
  exact s.nx _ _ H1 o2 ((o.fr e1).trans f2) hx
def sOwn (i : Nat) (p : PX) : PSt := fun env k => p env fun d => i < env.length ∧ k.nx (env.set i (.own d))
theorem rs_own {i : Nat} {t : TE} (h : RE .f t pe) : RS fr (tAsg t (gName i)) (sOwn i pe) := fun z X H0 H σ env G k o s hp => h z X H0 H σ env _ _ o (fun d v H1 e1 r1 hx => by
  obtain ⟨a, rfl, ha, hc⟩ := r1
  obtain ⟨o2, f2⟩ := o.take hx.1 e1 ha hc
  exact s.nx _ _ H1 o2 f2 hx.2) hp
theorem s_own {i : Nat} {x : Str} {pp : Pos} (h : E .f C e pe) (hN : C.N.Nodup) (hi : C.N[i]? = some x) (hx : Loc C.env.scope x) (hs : swapsWith e (some (.Name x pp)) pos.line C.env = pure false := by rfl) (hf : C.fn x = true ∨ C.env.scope.names.lookup x = some .local := by first | exact .inl rfl | exact .inr rfl | assumption) :
    S fr C (.Assign [.Name x pp] e pos) (sOwn i pe) := by
  obtain ⟨t, h1, h2⟩ := h
  exact ⟨_, ps_set hN hi hx h1 hs hf, rs_own h2⟩
/-- targets -/
abbrev PGt := D → List SV → (List SV → Prop) → Prop
abbrev PGs' := List D → List SV → (List SV → Prop) → Prop
/-- nothing but the slots js is stored to -/
def Keep (js : List Nat) (σ : Sl) (env : List SV) (σ' : Sl) (env' : List SV) : Prop := σ'.length = σ.length ∧ ∀ i, i ∉ js → env'[i]? = env[i]? ∧ σ'[i]? = σ[i]?
theorem Keep.refl {σ : Sl} {env : List SV} : Keep [] σ env σ env := ⟨rfl, fun _ _ => ⟨rfl, rfl⟩⟩
theorem Keep.trans {a b : List Nat} {σ σ1 σ2 : Sl} {env env1 env2 : List SV} (h : Keep a σ env σ1 env1) (g : Keep b σ1 env1 σ2 env2) : Keep (a ++ b) σ env σ2 env2 :=
  ⟨g.1.trans h.1, fun i hi => by
    rw [List.mem_append, not_or] at hi
    exact ⟨(g.2 i hi.2).1.trans (h.2 i hi.1).1, (g.2 i hi.2).2.trans (h.2 i hi.1).2⟩⟩
def RG (js : List Nat) (g : TG) (p : PGt) : Prop := ∀ (z : Zn) (X : AP) (H0 H : Hp) (σ : Sl) (env : List SV) (v : V) (d : D) (Q : Sl → Hp → Prop) (k : List SV → Prop), Ok z X H0 H σ env → Is z (Ms z X σ env) H v d →
  (∀ env' σ', Ok z X H0 H σ' env' → Fr z X (Ms z X σ env) H (Ms z X σ' env') H → Keep js σ env σ' env' → k env' → Q σ' H) → p d env k → g v σ H Q
def RGs (js : List Nat) (g : TGs) (p : PGs') : Prop := ∀ (z : Zn) (X : AP) (H0 H : Hp) (σ : Sl) (env : List SV) (v : List V) (d : List D) (Q : Sl → Hp → Prop) (k : List SV → Prop), Ok z X H0 H σ env → IsA z (Ms z X σ env) H v d →
  (∀ env' σ', Ok z X H0 H σ' env' → Fr z X (Ms z X σ env) H (Ms z X σ' env') H → Keep js σ env σ' env' → k env' → Q σ' H) → p d env k → g v σ H Q
structure G (C : Cx) (tg : Expr) (js : List Nat) (g : TG) (p : PGt) : Prop where
  pg : PG C tg g
  rg : RG js g p
structure Gs (C : Cx) (tg : List Expr) (js : List Nat) (g : TGs) (p : PGs') : Prop where
  pg : PGs C tg g
  rg : RGs js g p
def gtName (i : Nat) : PGt := fun d env k => k (env.set i (.val d))
theorem g_name {i : Nat} {x : Str} (hN : C.N.Nodup) (hi : C.N[i]? = some x) (hx : Loc C.env.scope x) (hf : C.fn x = true ∨ C.env.scope.names.lookup x = some .local := by first | exact .inl rfl | exact .inr rfl | assumption) : G C (.Name x pos) [i] (gName i) (gtName i) :=
  ⟨pg_name hN hi hx hf, fun z X H0 H σ env v d Q k o hv c hp => let ⟨o2, f2⟩ := o.set (i := i) hv; c _ _ o2 f2 ⟨by simp, fun j hj => by
    have hj' : i ≠ j := fun e => hj (by simp [e])
    exact ⟨List.getElem?_set_ne hj', List.getElem?_set_ne hj'⟩⟩ hp⟩
def gtNil : PGs' := fun ds env k => match ds with
  | [] => k env
  | _ => False
def gtCons (p : PGt) (q : PGs') : PGs' := fun ds env k => match ds with
  | d :: r => p d env fun env' => q r env' k
  | _ => False
theorem gs_nil : Gs C [] [] gNil gtNil := ⟨pgs_nil, fun z X H0 H σ env v d Q k o hv c hp => by
  cases hv with
  | nil => exact ⟨rfl, c env σ o Fr.refl Keep.refl hp⟩
  | cons _ _ => exact (show False from hp).elim⟩
theorem gs_cons {es : List Expr} {js ks : List Nat} {g : TG} {gs : TGs} {p : PGt} {q : PGs'} (h1 : G C e js g p) (h2 : Gs C es ks gs q) (hs : (assignEach (e :: es) C.env).map (·.2) = assign e C.env :: (assignEach es C.env).map (·.2) := by rfl) : Gs C (e :: es) (js ++ ks) (gCons g gs) (gtCons p q) :=
  ⟨pgs_cons h1.pg h2.pg hs, fun z X H0 H σ env v d Q k o hv c hp => by
    cases hv with
    | nil => exact (show False from hp).elim
    | cons q t =>
      refine ⟨_, _, rfl, h1.rg z X H0 H σ env _ _ _ _ o q (fun env' σ' o' f' kp hx => ?_) hp⟩
      exact h2.rg z X H0 H σ' env' _ _ _ _ o' (f'.isA t) (fun env2 σ2 o2 f2 kp2 hy => c env2 σ2 o2 (f'.trans f2) (kp.trans kp2) hy) hx⟩
def gtTup (n : Nat) (q : PGs') : PGt := fun d env k => match d with
  | .tup ds => ds.length = n ∧ q ds env k
  | _ => False
theorem g_tup {es : List Expr} {js : List Nat} {kk : Nat} {gs : TGs} {q : PGs'} {n : Nat} (hc : C.calm = true) (h : Gs C es js gs q)
    (hn : (assignEach es C.env).length = n := by rfl) (hst : (assignEach es C.env).findIdx? (·.1) = none := by rfl) : G C (.Tuple es kk pos) js (gTup C.K n gs) (gtTup n q) :=
  ⟨pg_tup hc h.pg hn hst, fun z X H0 H σ env v d Q k o hv c hp => by
    cases hv with
    | tup e nn r => exact ⟨_, _, rfl, SqT.of e, by rw [r.length]; exact hp.1, h.rg z X H0 H σ env _ _ _ _ o r c hp.2⟩
    | _ => exact (show False from hp).elim⟩
def sAsg (p : PX) (g : PGt) : PSt := fun env k => p env fun d => g d env k.nx
theorem s_asg {tg : Expr} {js : List Nat} {g : TG} {pg : PGt} (h : E .e C e pe) (hg : G C tg js g pg) (hs : swapsWithSole [tg] e pos.line C.env = pure false := by rfl) (hw : swappedStores [tg] e C.env = pure none := by rfl)
    (h1 : (assignEach [tg] C.env).map (·.2) = [assign tg C.env] := by rfl) : S fr C (.Assign [tg] e pos) (sAsg pe pg) := by
  obtain ⟨t, a1, a2⟩ := h
  refine ⟨_, ps_asg a1 hg.pg hs hw h1, fun z X H0 H σ env G k o s hp => a2 z X H0 H σ env _ _ o (fun d v H1 e1 r1 hx => ?_) hp⟩
  exact hg.rg z X H0 H1 σ env v d _ _ (o.go e1) r1 (fun env' σ' o' f' _ hy => s.nx env' σ' H1 o' ((o.fr e1).trans f') hy) hx
/-- a, b = x, y -/
def prK (ds : List D) (k : D → D → Prop) : Prop := match ds with
  | [c, d] => k c d
  | _ => False
def sPar (i j : Nat) (g : PAs) : PSt := fun env k => g env fun ds => prK ds fun c d => k.nx ((env.set i (.val c)).set j (.val d))
theorem s_par {i j : Nat} {x y : Str} {a b : Expr} {g : PAs} {px py pt : Pos} {kt k2 pt2} (ha : A true C [a, b] g) (hc : C.calm = true) (hN : C.N.Nodup) (hi : C.N[i]? = some x) (hj : C.N[j]? = some y) (hij : i ≠ j)
    (hx : C.env.scope.names.lookup x = some .local) (hy : C.env.scope.names.lookup y = some .local)
    (hw : swappedStores [.Tuple [.Name x px, .Name y py] kt pt] (.Tuple [a, b] k2 pt2) C.env = pure (some [x, y]))
    (hs : swapsWithSole [.Tuple [.Name x px, .Name y py] kt pt] (.Tuple [a, b] k2 pt2) pos.line C.env = pure false := by rfl) :
    S fr C (.Assign [.Tuple [.Name x px, .Name y py] kt pt] (.Tuple [a, b] k2 pt2) pos) (sPar i j g) := by
  obtain ⟨t, a1, a2⟩ := ha
  refine ⟨_, ps_par hc hN hi hj hij hx hy a1 hw hs, fun z X H0 H σ env G k o s hp => a2 z X H0 H σ env _ _ o (fun ds vs H1 e1 r1 hx => ?_) hp⟩
  rw [if_pos rfl] at r1
  unfold prK at hx
  split at hx
  · obtain ⟨v, u, rfl, hv, hu⟩ := r1.two
    obtain ⟨o2, f2⟩ := (o.go e1).set (i := i) hv
    obtain ⟨o3, f3⟩ := o2.set (i := j) (f2.is hu)
    exact ⟨v, u, rfl, s.nx _ _ H1 o3 ((o.fr e1).trans (f2.trans f3)) hx⟩
  · exact hx.elim
/-! ### what a slot owns is changed -/
/-- x.append(e) -/
def sAppend (i : Nat) (p : PX) : PSt := fun env k => match env[i]? with
  | some (.own (.lst xs)) => p env fun d => xs.length ≤ 100000 ∧ k.nx (env.set i (.own (.lst (xs ++ [d]))))
  | some (.own (.bor xs)) => p env fun d => xs.length ≤ 100000 ∧ k.nx (env.set i (.own (.bor (xs ++ [d]))))
  | _ => False
theorem szl {n : Nat} (h : n ≤ 100000) : n < sizeLine := Nat.lt_of_le_of_lt h (by decide)
theorem s_append (i : Nat) {x : Str} {pp apos cpos : Pos} (h : E .e C e pe) (hN : C.N[i]? = some x := by rfl) (hv : Vis C.env.scope x := by first | exact Or.inl rfl | exact Or.inr (Or.inl rfl) | exact Or.inr (Or.inr rfl)) (hd : (x == ("__debug__" : Str)) = false := by decide)
    (hcd : (x == ("__classdict__" : Str)) = false := by decide)
    (hb : ∀ to te, PE C (.Name x pp) to → PE C e te → PE C (.Call (.Attribute (.Name x pp) "append" apos) [e] [] cpos) (tBM C.K "list" rAppend to (tCons te tNil)))
    (hs : swapsWith (.Call (.Attribute (.Name x pp) "append" apos) [e] [] cpos) none pos.line C.env = pure false := by rfl) :
    S fr C (.Expr (.Call (.Attribute (.Name x pp) "append" apos) [e] [] cpos) pos) (sAppend i pe) := by
  obtain ⟨t, h1, h2⟩ := h
  refine ⟨_, ps_expr (hb _ _ (pe_var hN hv hd hcd) h1) hs, fun z X H0 H σ env G k o s hp => ?_⟩
  unfold sAppend at hp
  split at hp
  · rename_i xs he
    obtain ⟨a, q1, q2, q3, q4⟩ := o.own i _ he
    obtain ⟨vs, q5, q6⟩ := q2
    refine ⟨_, q1, .inl ⟨rfl, vs, SqL.of q5⟩, h2 z X H0 H σ env _ _ o (fun d v H1 e1 r1 hx => ?_) hp⟩
    have o1 := o.go e1
    have q5' := e1.old a _ q5 q3
    refine ⟨a, vs, v, rfl, rfl, q5', by rw [q6.length]; exact szl hx.1, ?_⟩
    have ia : Ms z X σ env a := .inr (.inr ⟨i, _, he, q1⟩)
    have old : ∀ b u, H1 b = some u → ¬ Ms z X σ env b → upd H1 a (.lst (vs ++ [v])) b = some u ∧ ¬ Ms z X σ env b := fun b u hb n => ⟨by rw [upd_ne (fun e => n (by rw [e]; exact ia))]; exact hb, n⟩
    obtain ⟨o2, f2⟩ := o1.mut (o := .lst (vs ++ [v])) he q1 (d' := .lst (xs ++ [d])) ⟨vs ++ [v], upd_same, ((IsA.evo (fun _ q => .inl q) e1 q6).append (.cons r1 .nil)).gen old fun b hb => ok_mut q3 hb⟩
    exact s.nx _ _ _ o2 ((o.fr e1).trans f2) hx.2
  · rename_i xs he
    obtain ⟨a, q1, q2, q3, q4⟩ := o.own i _ he
    obtain ⟨qb, vs, q5, q6⟩ := q2
    refine ⟨_, q1, .inl ⟨rfl, vs, SqL.of q5⟩, h2 z X H0 H σ env _ _ o (fun d v H1 e1 r1 hx => ?_) hp⟩
    have o1 := o.go e1
    have q5' := e1.old a _ q5 q3
    refine ⟨a, vs, v, rfl, rfl, q5', by rw [q6.length]; exact szl hx.1, ?_⟩
    have ia : Ms z X σ env a := .inr (.inr ⟨i, _, he, q1⟩)
    have old : ∀ b u, H1 b = some u → ¬ Ms z X σ env b → upd H1 a (.lst (vs ++ [v])) b = some u ∧ ¬ Ms z X σ env b := fun b u hb n => ⟨by rw [upd_ne (fun e => n (by rw [e]; exact ia))]; exact hb, n⟩
    obtain ⟨o2, f2⟩ := o1.mut (o := .lst (vs ++ [v])) he q1 (d' := .bor (xs ++ [d])) ⟨qb, vs ++ [v], upd_same, ((IsA.evo (fun _ q => .inl q) e1 q6).append (.cons r1 .nil)).gen old fun b hb => ok_mut q3 hb⟩
    exact s.nx _ _ _ o2 ((o.fr e1).trans f2) hx.2
  · exact hp.elim
end
/-! ### loops -/
def forP (g : PGt) (body : PSt) : List D → PSt
  | [], env, k => k.nx env
  | d :: ds, env, k => g d env fun env1 => body env1 { nx := fun env2 => forP g body ds env2 k, rt := k.rt, bk := k.nx, ct := fun env2 => forP g body ds env2 k }
/-- how J yields the items ds, wherever what stood outside M stands -/
def Yields (z : Zn) (X : AP) (M : AP) (H : Hp) (J : It) (ds : List D) : Prop := ∀ M' H', Fr z X M H M' H' → J.stop ds.length H' ∧
  ∀ i d, ds[i]? = some d → J.go i H' ∧ ∀ x H2, J.yld i H' x H2 → Evo z H' H2 ∧ ((∀ a, z.Z a → M' a) → (∀ b, H' b = none → ¬ M' b) → Is z M' H2 x d)
abbrev PIt := List SV → (List D → Prop) → Prop
def RI (wi : TI) (p : PIt) : Prop := ∀ (z : Zn) (X : AP) (H0 H : Hp) (σ : Sl) (env : List SV) (R : It → Hp → Prop) (k : List D → Prop), Ok z X H0 H σ env →
  (∀ ds J H', Evo z H H' → Yields z X (Ms z X σ env) H' J ds → k ds → R J H') → p env k → wi σ H R
structure I (C : Cx) (tg it : Expr) (p : PIt) : Prop where
  ex : ∃ wi, PI C tg it wi ∧ RI wi p
def sFor (it : PIt) (g : PGt) (body : PSt) : PSt := fun env k => it env fun ds => forP g body ds env k
theorem rs_for {fr : Bool} {wi : TI} {pi : PIt} {js : List Nat} {g : TG} {pg : PGt} {tb : TS} {pb : PSt} (hi : RI wi pi) (hg : RG js g pg) (hb : RS fr tb pb) : RS fr (tFor wi g tb) (sFor pi pg pb) := fun z X H0 H σ env G k o s hp => by
  refine hi z X H0 H σ env _ _ o (fun ds J H1 e1 yl hx => ?_) hp
  have f1 := o.fr e1
  have o1 := o.go e1
  refine ⟨fun i mm σ' H' => mm = ds.length - i ∧ i ≤ ds.length ∧ ∃ env', Ok z X H0 H' σ' env' ∧ Fr z X (Ms z X σ env) H1 (Ms z X σ' env') H' ∧ forP pg pb (ds.drop i) env' k, ⟨ds.length, by simp, Nat.zero_le _, env, o1, Fr.refl, by simpa using hx⟩, ?_⟩
  rintro i mm σ' H' ⟨rfl, hil, env', o', f', hf⟩
  obtain ⟨y1, y2⟩ := yl _ _ f'
  by_cases hlt : i < ds.length
  · obtain ⟨go, y3⟩ := y2 i ds[i] (List.getElem?_eq_getElem hlt)
    rw [List.drop_eq_getElem_cons hlt] at hf
    refine .inr ⟨go, fun σ2 H2 => ∃ env2, Ok z X H0 H2 σ2 env2 ∧ Fr z X (Ms z X σ env) H1 (Ms z X σ2 env2) H2 ∧ forP pg pb (ds.drop (i + 1)) env2 k, fun σ2 H2 h2 => ⟨ds.length - (i + 1), by omega, rfl, hlt, h2⟩, fun x H2 hy => ?_⟩
    obtain ⟨e2, is⟩ := y3 x H2 hy
    have o2 := o'.go e2
    have f2 := f'.trans (o'.fr e2)
    refine hg z X H0 H2 σ' env' x _ _ _ o2 (is (fun a q => .inl q) (fun b q => o'.notMs q)) (fun env3 σ3 o3 f3 _ hx3 => ?_) hf
    refine hb z X H0 H2 σ3 env3 _ { nx := fun env2 => forP pg pb (ds.drop (i + 1)) env2 k, rt := k.rt, bk := k.nx, ct := fun env2 => forP pg pb (ds.drop (i + 1)) env2 k } o3 ⟨fun env4 σ4 H4 o4 f4 hx4 => ⟨env4, o4, f2.trans (f3.trans f4), hx4⟩, s.rt, fun env4 σ4 H4 o4 f4 hx4 => ?_, fun env4 σ4 H4 o4 f4 hx4 => ⟨env4, o4, f2.trans (f3.trans f4), hx4⟩, fun _ _ _ _ _ _ _ h => h.elim⟩ hx3
    exact s.nx env4 σ4 H4 o4 (f1.trans (f2.trans (f3.trans f4))) hx4
  · have ei : i = ds.length := by omega
    subst ei
    rw [List.drop_length] at hf
    exact .inl ⟨y1, s.nx env' σ' H' o' (f1.trans f') hf⟩
section
variable {C : Cx} {fr : Bool} {tg e : Expr} {body : List Stmt} {pe : PX} {m : Mode} {pos pp : Pos}
theorem s_for {iter : Expr} {pi : PIt} {js : List Nat} {g : TG} {pg : PGt} {pb : PSt} (hi : I C tg iter pi) (hg : G C tg js g pg) (hb : B fr C body pb) (hp : PassesOwn (model C.prog C.w) C.A C.env C.xe) (hc : C.calm = true) (hs : ∀ x, foldedSetIterable iter C.env x = pure x := by intro _; rfl) :
    S fr C (.For tg iter body [] pos) (sFor pi pg pb) := by
  obtain ⟨wi, i1, i2⟩ := hi
  obtain ⟨tb, b1, b2⟩ := hb
  exact ⟨_, ps_for hp hc i1 hg.pg b1 hs, rs_for i2 hg.rg b2⟩
/-- over a tuple or a list -/
def sqK (d : D) (k : List D → Prop) : Prop := match d with
  | .tup xs => k xs
  | .lst xs => k xs
  | _ => False
def iSeq (p : PX) : PIt := fun env k => p env fun d => sqK d k
theorem yl_tup {z : Zn} {X : AP} {M : AP} {H : Hp} {K : PySem.W.Frag} {a : Addr} {vs : List V} {ds : List D} (h : H a = some (.tup vs)) (n : ¬ M a) (r : IsA z M H vs ds) : Yields z X M H (Itt K a) ds := fun M' H' f => by
  have h' := (f.old a _ h n).1
  have r' := f.isA r
  refine ⟨⟨vs, SqT.of h', by rw [r'.length]; exact Nat.le_refl _⟩, fun i d hd => ?_⟩
  obtain ⟨v, h1, h2⟩ := r'.get hd
  refine ⟨⟨vs, v, SqT.of h', h1⟩, fun x H2 y => ?_⟩
  obtain ⟨rfl, y⟩ := y
  refine ⟨Evo.refl _ _, fun _ _ => ?_⟩
  have e := y vs (SqT.of h')
  rw [h1] at e
  cases e
  exact h2
theorem yl_lst {z : Zn} {X : AP} {M : AP} {H : Hp} {K : PySem.W.Frag} {a : Addr} {vs : List V} {ds : List D} (h : H a = some (.lst vs)) (n : ¬ M a) (r : IsA z M H vs ds) : Yields z X M H (Itl K a) ds := fun M' H' f => by
  have h' := (f.old a _ h n).1
  have r' := f.isA r
  refine ⟨⟨vs, SqL.of h', by rw [r'.length]; exact Nat.le_refl _⟩, fun i d hd => ?_⟩
  obtain ⟨v, h1, h2⟩ := r'.get hd
  refine ⟨⟨vs, v, SqL.of h', h1⟩, fun x H2 y => ?_⟩
  obtain ⟨rfl, y⟩ := y
  refine ⟨Evo.refl _ _, fun _ _ => ?_⟩
  have e := y vs (SqL.of h')
  rw [h1] at e
  cases e
  exact h2
/-- over a range -/
def rangeD (lo : Int) (n : Nat) : List D := (List.range n).map fun i => .int (lo + (i : Nat))
theorem yl_rng {z : Zn} {X : AP} {M : AP} {H : Hp} {lo : Int} {n : Nat} : Yields z X M H (Itr lo n) (rangeD lo n) := fun M' H' f => by
  refine ⟨(by show n ≤ (rangeD lo n).length; simp [rangeD]), fun i d hd => ?_⟩
  have hi : i < n := by
    have := (List.getElem?_eq_some_iff.mp hd).1
    simpa [rangeD] using this
  refine ⟨hi, fun x H2 y => ?_⟩
  obtain ⟨rfl, rfl⟩ := y
  refine ⟨Evo.refl _ _, fun _ _ => ?_⟩
  have e : d = .int (lo + (i : Nat)) := by simpa [rangeD, hi, List.getElem?_map, List.getElem?_range] using hd.symm
  rw [e]
  exact Is.int _
def rgK1 (ds : List D) (k : List D → Prop) : Prop := match ds with
  | [.int j] => -100000 < j ∧ j < 100000 ∧ k (rangeD 0 j.toNat)
  | _ => False
def rgK2 (ds : List D) (k : List D → Prop) : Prop := match ds with
  | [.int i, .int j] => (-100000 < i ∧ i < 100000 ∧ -100000 < j ∧ j < 100000) ∧ k (rangeD i (j - i).toNat)
  | _ => False
def iRange1 (p : PAs) : PIt := fun env k => p env fun ds => rgK1 ds k
def iRange2 (p : PAs) : PIt := fun env k => p env fun ds => rgK2 ds k
theorem i_range1 {a : Expr} {p : PAs} {l : Bool} (ha : A l C [a] p) (hg : Gl C "range") (hm : C.mg "range" = none) (hs : starEach [a] C.env = [(false, eval a C.env)] := by rfl) : I C tg (.Call (.Name "range" pp) [a] [] pos) (iRange1 p) := by
  obtain ⟨t, h1, h2⟩ := ha
  refine ⟨_, pi_range1 hg hm h1 hs, fun z X H0 H σ env R k o c hp => h2 z X H0 H σ env _ _ o (fun ds vs H1 e1 r1 hx => ?_) hp⟩
  unfold rgK1 at hx
  split at hx
  · rename_i j
    cases IsA.ints (ns := [_]) r1
    exact ⟨j, rfl, by omega, by omega, c _ _ H1 e1 yl_rng hx.2.2⟩
  · exact hx.elim
end
end Pu
namespace Pu
open PySem PySem.Spec PyProof.Rows L2
variable [Tbs]
/-! ### one reading for all places -/
def tP (m : Mode) (p : PX) : TE := fun σ H Q => ∃ z X H0 env k, Ok z X H0 H σ env ∧ (∀ d v H', Evo z H H' → Rel m z X H H' σ env v d → k d → Q v H') ∧ p env k
def tPT (p : PTs') : TT := fun σ H Q => ∃ z X H0 env k, Ok z X H0 H σ env ∧ (∀ b H', Evo z H H' → k b → Q b H') ∧ p env k
def tPI (p : PIt) : TI := fun σ H R => ∃ z X H0 env k, Ok z X H0 H σ env ∧ (∀ ds J H', Evo z H H' → Yields z X (Ms z X σ env) H' J ds → k ds → R J H') ∧ p env k
section
variable {C : Cx} {m : Mode} {e tg : Expr} {p : PX} {q : PTs'} {r : PIt}
theorem E.pe (h : E m C e p) : PE C e (tP m p) := by
  obtain ⟨t, h1, h2⟩ := h
  exact ⟨fun pins s σ H Q I ⟨z, X, H0, env, k, o, c, hp⟩ => h1.run pins s σ H Q I (h2 z X H0 H σ env Q k o c hp)⟩
theorem T.pt (h : T C e q) : PT C e (tPT q) := by
  obtain ⟨t, h1, h2⟩ := h
  exact ⟨fun pins s σ H Q I ⟨z, X, H0, env, k, o, c, hp⟩ => h1.run pins s σ H Q I (h2 z X H0 H σ env Q k o c hp)⟩
theorem I.pi (h : I C tg e r) : PI C tg e (tPI r) := by
  obtain ⟨t, h1, h2⟩ := h
  exact ⟨fun pins s σ H Q I ⟨z, X, H0, env, k, o, c, hp⟩ => h1.run pins s σ H Q I (h2 z X H0 H σ env Q k o c hp)⟩
theorem re_tP : RE m (tP m p) p := fun z X H0 H σ env Q k o c hp => ⟨z, X, H0, env, k, o, c, hp⟩
theorem rt_tP : RT (tPT q) q := fun z X H0 H σ env Q k o c hp => ⟨z, X, H0, env, k, o, c, hp⟩
theorem ri_tP : RI (tPI r) r := fun z X H0 H σ env Q k o c hp => ⟨z, X, H0, env, k, o, c, hp⟩
end
/-- the tests of a clause -/
structure Ts (C : Cx) (es : List Expr) (p : PTs') : Prop where
  ex : PTs C es (tPT p)
theorem ts_nil {C : Cx} : Ts C [] (fun _ k => k true) := by
  refine ⟨⟨fun pins s σ H Q I ⟨z, X, H0, env, k, o, c, hp⟩ => ?_⟩⟩
  exact pts_nil.run pins s σ H Q I (c true H (Evo.refl _ _) hp)
theorem ts_one {C : Cx} {e : Expr} {p : PTs'} (h : T C e p) : Ts C [e] p := ⟨pts_one h.pt⟩
/-! ### comprehensions -/
def wipeE (env : List SV) : List Nat → List SV
  | [] => env
  | v :: vs => (wipeE env vs).set v .no
def noOwn (env : List SV) : List Nat → Prop
  | [] => True
  | v :: vs => (match env[v]? with | some (.own _) => False | _ => True) ∧ noOwn env vs
theorem noOwn_ne {env : List SV} : ∀ {vs : List Nat}, noOwn env vs → ∀ {i : Nat} {d : D}, env[i]? = some (.own d) → i ∉ vs
  | [], _, _, _, _ => by simp
  | v :: vs, h, i, d, e => by
    intro hi
    rcases List.mem_cons.mp hi with q | q
    · subst q
      have h1 := h.1
      rw [e] at h1
      exact h1
    · exact noOwn_ne h.2 e q
section
variable {z : Zn} {X : AP} {H0 H H1 H' : Hp} {σ σ' : Sl} {env env' : List SV}
theorem wipeE_len : ∀ vs : List Nat, (wipeE env vs).length = env.length
  | [] => rfl
  | v :: vs => by unfold wipeE; rw [List.length_set, wipeE_len vs]
theorem wipeE_out : ∀ {vs : List Nat} {i : Nat}, i ∉ vs → (wipeE env vs)[i]? = env[i]?
  | [], _, _ => rfl
  | v :: vs, i, h => by
    rw [List.mem_cons, not_or] at h
    unfold wipeE
    rw [List.getElem?_set_ne (Ne.symm h.1), wipeE_out h.2]
theorem wipeE_in : ∀ {vs : List Nat} {i : Nat}, i ∈ vs → (wipeE env vs)[i]? = none ∨ (wipeE env vs)[i]? = some .no
  | v :: vs, i, h => by
    unfold wipeE
    by_cases hv : v = i
    · subst hv
      rw [List.getElem?_set]
      simp only [if_true]
      split
      · exact .inr rfl
      · exact .inl rfl
    · rw [List.getElem?_set_ne hv]
      exact wipeE_in ((List.mem_cons.mp h).resolve_left (fun e => hv e.symm))
theorem wipe_out' : ∀ {vs : List Nat} {i : Nat}, i ∉ vs → (wipe σ vs)[i]? = σ[i]?
  | [], _, _ => rfl
  | v :: vs, i, h => by
    rw [List.mem_cons, not_or] at h
    unfold wipe
    rw [List.getElem?_set_ne (Ne.symm h.1), wipe_out' h.2]
theorem wipe_in' : ∀ {vs : List Nat} {i : Nat}, i ∈ vs → (wipe σ vs)[i]? = if i < σ.length then some none else none
  | v :: vs, i, h => by
    unfold wipe
    by_cases hv : v = i
    · subst hv
      rw [List.getElem?_set]
      simp only [if_true, wipe_length]
    · rw [List.getElem?_set_ne hv]
      exact wipe_in' ((List.mem_cons.mp h).resolve_left (fun e => hv e.symm))
theorem wipe_eq {vs js : List Nat} (h : Keep js (wipe σ vs) env σ' env') (hj : ∀ i ∈ js, i ∈ vs) : wipe σ' vs = wipe σ vs := by
  apply List.ext_getElem?
  intro i
  have hl : σ'.length = σ.length := by rw [h.1, wipe_length]
  by_cases hi : i ∈ vs
  · rw [wipe_in' hi, wipe_in' hi, hl]
  · rw [wipe_out' hi, (h.2 i (fun q => hi (hj i q))).2]
/-- one more place that is locked -/
theorem Ok.lock (o : Ok z X H0 H σ env) {a : Addr} (ha : H a = none) (e : Evo z H H') (h' : H' a ≠ none) : Ok z (X.or a) H0 H' σ env := by
  have na : ∀ {b u}, H b = some u → b ≠ a := fun {b u} q => ne_of_none q ha
  have ms : ∀ b, Ms z (X.or a) σ env b → Ms z X σ env b ∨ b = a := by
    rintro b (h | (h | h) | h)
    · exact .inl (.inl h)
    · exact .inl (.inr (.inl h))
    · exact .inr h
    · exact .inl (.inr (.inr h))
  have old : ∀ b u, H b = some u → ¬ Ms z X σ env b → H' b = some u ∧ ¬ Ms z (X.or a) σ env b := fun b u q n => ⟨e.old b u q fun y => n (.inl y), fun y => (ms b y).elim n (na q)⟩
  refine ⟨o.len, o.evo.trans e, fun b h => e.al b (o.zal b h), fun b h => ?_, fun i d h => ?_, fun i d h => ?_, o.inj, e.tab o.tab⟩
  · rcases h with h | h
    · exact ⟨e.al b (o.xal b h).1, (o.xal b h).2⟩
    · rw [h]; exact ⟨h', fun q => o.zal a q ha⟩
  · obtain ⟨v, h1, h2⟩ := o.val i d h
    exact ⟨v, h1, h2.gen old e.dk⟩
  · obtain ⟨b, h1, h2, h3, h4, h5⟩ := o.own i d h
    obtain ⟨u, hu⟩ := h2.some
    exact ⟨b, h1, h2.gen (fun u q => e.old b u q h3) old e.dk, h3, fun q => q.elim h4 (na hu), h5⟩
theorem Ok.wipe (o : Ok z X H0 H σ env) {vs : List Nat} : Ok z X H0 H (L2.wipe σ vs) (wipeE env vs) ∧ ∀ a, Ms z X (L2.wipe σ vs) (wipeE env vs) a → Ms z X σ env a := by
  have ow : ∀ {i : Nat} {d : SV}, (wipeE env vs)[i]? = some d → d ≠ .no → i ∉ vs ∧ env[i]? = some d := fun {i d} h n => by
    by_cases hi : i ∈ vs
    · rcases wipeE_in (env := env) hi with q | q
      · rw [q] at h; cases h
      · rw [q] at h; cases h; exact absurd rfl n
    · rw [wipeE_out hi] at h; exact ⟨hi, h⟩
  have sub : ∀ a, Ms z X (L2.wipe σ vs) (wipeE env vs) a → Ms z X σ env a := by
    rintro a (h | h | ⟨i, d, h1, h2⟩)
    · exact .inl h
    · exact .inr (.inl h)
    · obtain ⟨hi, h1⟩ := ow h1 (by intro q; cases q)
      rw [wipe_out' hi] at h2
      exact .inr (.inr ⟨i, d, h1, h2⟩)
  refine ⟨⟨by rw [wipe_length, wipeE_len]; exact o.len, o.evo, o.zal, o.xal, fun i d h => ?_, fun i d h => ?_, fun i j a d f h1 h2 h3 h4 => ?_, o.tab⟩, sub⟩
  · obtain ⟨hi, h⟩ := ow h (by intro q; cases q)
    obtain ⟨v, h1, h2⟩ := o.val i d h
    exact ⟨v, by rw [wipe_out' hi]; exact h1, h2.weak sub⟩
  · obtain ⟨hi, h⟩ := ow h (by intro q; cases q)
    obtain ⟨a, h1, h2, h3⟩ := o.own i d h
    exact ⟨a, by rw [wipe_out' hi]; exact h1, h2.gen (fun _ q => q) (fun b u q n => ⟨q, fun y => n (sub b y)⟩) fun _ h => h, h3⟩
  · obtain ⟨hi, h1⟩ := ow h1 (by intro q; cases q)
    obtain ⟨hj, h2⟩ := ow h2 (by intro q; cases q)
    rw [wipe_out' hi] at h3
    rw [wipe_out' hj] at h4
    exact o.inj i j a d f h1 h2 h3 h4
/-- what slots own is owned in the comprehension too -/
theorem ms_in {vs js : List Nat} {σ2 : Sl} {env2 : List SV} (hn : noOwn env vs) (hj : ∀ i ∈ js, i ∈ vs) (h : Keep js (L2.wipe σ vs) (wipeE env vs) σ2 env2) : ∀ a, Ms z X σ env a → Ms z X σ2 env2 a := by
  rintro a (q | q | ⟨i, d, h1, h2⟩)
  · exact .inl q
  · exact .inr (.inl q)
  · have hi := noOwn_ne hn h1
    obtain ⟨g1, g2⟩ := h.2 i fun q => hi (hj i q)
    refine .inr (.inr ⟨i, d, ?_, ?_⟩)
    · rw [g1, wipeE_out hi]; exact h1
    · rw [g2, wipe_out' hi]; exact h2
end
def lcP (pg : PGt) (pt : PTs') (pe : PX) (env : List SV) : List D → List D → (List D → Prop) → Prop
  | [], acc, k => k acc
  | d :: ds, acc, k => pg d env fun env1 => pt env1 fun b => if b = true then pe env1 fun r => acc.length ≤ 100000 ∧ lcP pg pt pe env ds (acc ++ [r]) k else lcP pg pt pe env ds acc k
def eLc (vs : List Nat) (pi : PIt) (pg : PGt) (pt : PTs') (pe : PX) : PX := fun env k => pi env fun ds => noOwn env vs ∧ lcP pg pt pe (wipeE env vs) ds [] fun r => k (.lst r)
theorem re_lc {wi : TI} {pi : PIt} {js vs : List Nat} {g : TG} {pg : PGt} {tt : TT} {pt : PTs'} {te : TE} {pe : PX} (hi : RI wi pi) (hg : RG js g pg) (hj : ∀ i ∈ js, i ∈ vs) (ht : RT tt pt) (he : RE .e te pe) : RE .f (tLc wi g tt te vs) (eLc vs pi pg pt pe) := fun z X H0 H σ env Q k o c hp => by
  refine hi z X H0 H σ env _ _ o (fun ds J H1 e1 yl hx => ?_) hp
  obtain ⟨hn, hx⟩ := hx
  have o1 := o.go e1
  intro Da hD
  have hzD : ¬ z.Z Da := fun q => o1.zal Da q hD
  refine ⟨fun i mm H' => mm = ds.length - i ∧ i ≤ ds.length ∧ ∃ accV accD, Evo z H1 H' ∧ H' Da = some (.lst accV) ∧ IsA z (Ms z (X.or Da) σ env) H' accV accD ∧ lcP pg pt pe (wipeE env vs) (ds.drop i) accD fun r => k (.lst r),
    ⟨ds.length, by simp, Nat.zero_le _, [], [], (Evo.refl _ _).new hD, upd_same, .nil, by simpa using hx⟩, ?_⟩
  rintro i mm H' ⟨rfl, hil, accV, accD, e', hacc, hA, hk⟩
  have oL : Ok z (X.or Da) H0 H' σ env := o1.lock hD e' (by rw [hacc]; intro q; cases q)
  have ms2 : ∀ b, Ms z (X.or Da) σ env b → Ms z X σ env b ∨ b = Da := by
    rintro b (h | (h | h) | h)
    · exact .inl (.inl h)
    · exact .inl (.inr (.inl h))
    · exact .inr h
    · exact .inl (.inr (.inr h))
  have fr : Fr z X (Ms z X σ env) H1 (Ms z (X.or Da) σ env) H' := ⟨fun b u q n => ⟨e'.old b u q fun y => n (.inl y), fun y => (ms2 b y).elim n (ne_of_none q hD)⟩, e'.dk, e'.al⟩
  obtain ⟨y1, y2⟩ := yl _ _ fr
  by_cases hlt : i < ds.length
  · obtain ⟨go, y3⟩ := y2 i ds[i] (List.getElem?_eq_getElem hlt)
    rw [List.drop_eq_getElem_cons hlt] at hk
    refine .inr ⟨go, fun H2 => ∃ accV accD, Evo z H1 H2 ∧ H2 Da = some (.lst accV) ∧ IsA z (Ms z (X.or Da) σ env) H2 accV accD ∧ lcP pg pt pe (wipeE env vs) (ds.drop (i + 1)) accD fun r => k (.lst r), fun H2 h2 => ⟨ds.length - (i + 1), by omega, rfl, hlt, h2⟩, fun x H2 hy => ?_⟩
    obtain ⟨e2, is⟩ := y3 x H2 hy
    have oL2 := oL.go e2
    obtain ⟨oW, sub⟩ := oL2.wipe (vs := vs)
    refine hg z (X.or Da) H0 H2 _ _ x _ _ _ oW ((is (fun a q => .inl q) (fun b q => oL.notMs q)).weak sub) (fun env3 σ3 o3 f3 kp hx3 => ⟨wipe_eq kp hj, ?_⟩) hk
    refine ht z (X.or Da) H0 H2 σ3 env3 _ _ o3 (fun b H3 e3 hx4 => ?_) hx3
    have e13 := e'.trans (e2.trans e3)
    have acc3 : H3 Da = some (.lst accV) := e3.old _ _ (e2.old _ _ hacc hzD) hzD
    have A3 : IsA z (Ms z (X.or Da) σ env) H3 accV accD := hA.evo (fun _ q => .inl q) (e2.trans e3)
    cases b with
    | false =>
      rw [if_neg Bool.false_ne_true]
      exact ⟨accV, accD, e13, acc3, A3, hx4⟩
    | true =>
      rw [if_pos rfl]
      refine he z (X.or Da) H0 H3 σ3 env3 _ _ (o3.go e3) (fun r y H4 e4 r4 hx5 => ?_) hx4
      refine ⟨accV, e4.old _ _ acc3 hzD, by rw [hA.length]; exact szl hx5.1, accV ++ [y], accD ++ [r], (e13.trans e4).mut hD hzD, upd_same, ?_, hx5.2⟩
      have ir : Is z (Ms z (X.or Da) σ env) H4 y r := Is.weak (ms_in hn hj kp) r4
      refine ((A3.evo (fun _ q => .inl q) e4).append (.cons ir .nil)).gen (fun b u q n => ⟨?_, n⟩) fun b hb => ok_mut hzD hb
      rw [upd_ne (fun w => n (by rw [w]; exact .inr (.inl (.inr rfl))))]
      exact q
  · have ei : i = ds.length := by omega
    subst ei
    rw [List.drop_length] at hk
    exact .inl ⟨y1, c (.lst accD) (.ref Da) H' (e1.trans e') ⟨Da, rfl, e1.fresh hD, accV, hacc, hA⟩ hk⟩
/-- two clauses -/
def lcP2 (vs1 : List Nat) (pg : PGt) (pt : PTs') (pi1 : PIt) (pg1 : PGt) (pt1 : PTs') (pe : PX) (env : List SV) : List D → List D → (List D → Prop) → Prop
  | [], acc, k => k acc
  | d :: ds, acc, k => pg d env fun env1 => pt env1 fun b => if b = true then pi1 env1 fun ds1 => noOwn env1 vs1 ∧ lcP pg1 pt1 pe (wipeE env1 vs1) ds1 acc fun acc1 => lcP2 vs1 pg pt pi1 pg1 pt1 pe env ds acc1 k else lcP2 vs1 pg pt pi1 pg1 pt1 pe env ds acc k
def eLc2 (vs vs1 : List Nat) (pi : PIt) (pg : PGt) (pt : PTs') (pi1 : PIt) (pg1 : PGt) (pt1 : PTs') (pe : PX) : PX := fun env k => pi env fun ds => noOwn env vs ∧ lcP2 vs1 pg pt pi1 pg1 pt1 pe (wipeE env vs) ds [] fun r => k (.lst r)
theorem ms_or {z : Zn} {X : AP} {σ : Sl} {env : List SV} {a b : Addr} (h : Ms z (X.or a) σ env b) : Ms z X σ env b ∨ b = a := by
  rcases h with h | (h | h) | h
  · exact .inl (.inl h)
  · exact .inl (.inr (.inl h))
  · exact .inr h
  · exact .inl (.inr (.inr h))
theorem re_lc2 {wi wi1 : TI} {pi pi1 : PIt} {js js1 vs vs1 : List Nat} {g g1 : TG} {pg pg1 : PGt} {tt tt1 : TT} {pt pt1 : PTs'} {te : TE} {pe : PX} (hi : RI wi pi) (hg : RG js g pg) (hj : ∀ i ∈ js, i ∈ vs) (ht : RT tt pt) (hi1 : RI wi1 pi1) (hg1 : RG js1 g1 pg1) (hj1 : ∀ i ∈ js1, i ∈ vs1) (ht1 : RT tt1 pt1) (he : RE .e te pe) :
    RE .f (tLc2 wi g tt wi1 g1 tt1 te vs vs1) (eLc2 vs vs1 pi pg pt pi1 pg1 pt1 pe) := fun z X H0 H σ env Q k o c hp => by
  refine hi z X H0 H σ env _ _ o (fun ds J H1 e1 yl hx => ?_) hp
  obtain ⟨hn, hx⟩ := hx
  have o1 := o.go e1
  intro Da hD
  have hzD : ¬ z.Z Da := fun q => o1.zal Da q hD
  have nt : ∀ {u : HO}, some u ≠ none := fun q => by cases q
  refine ⟨fun i mm H' => mm = ds.length - i ∧ i ≤ ds.length ∧ ∃ accV accD, Evo z H1 H' ∧ H' Da = some (.lst accV) ∧ IsA z (Ms z (X.or Da) σ env) H' accV accD ∧ lcP2 vs1 pg pt pi1 pg1 pt1 pe (wipeE env vs) (ds.drop i) accD fun r => k (.lst r),
    ⟨ds.length, by simp, Nat.zero_le _, [], [], (Evo.refl _ _).new hD, upd_same, .nil, by simpa using hx⟩, ?_⟩
  rintro i mm H' ⟨rfl, hil, accV, accD, e', hacc, hA, hk⟩
  have oL : Ok z (X.or Da) H0 H' σ env := o1.lock hD e' (by rw [hacc]; exact nt)
  have fr : Fr z X (Ms z X σ env) H1 (Ms z (X.or Da) σ env) H' := ⟨fun b u q n => ⟨e'.old b u q fun y => n (.inl y), fun y => (ms_or y).elim n (ne_of_none q hD)⟩, e'.dk, e'.al⟩
  obtain ⟨y1, y2⟩ := yl _ _ fr
  by_cases hlt : i < ds.length
  · obtain ⟨go, y3⟩ := y2 i ds[i] (List.getElem?_eq_getElem hlt)
    rw [List.drop_eq_getElem_cons hlt] at hk
    refine .inr ⟨go, fun H2 => ∃ accV accD, Evo z H1 H2 ∧ H2 Da = some (.lst accV) ∧ IsA z (Ms z (X.or Da) σ env) H2 accV accD ∧ lcP2 vs1 pg pt pi1 pg1 pt1 pe (wipeE env vs) (ds.drop (i + 1)) accD fun r => k (.lst r), fun H2 h2 => ⟨ds.length - (i + 1), by omega, rfl, hlt, h2⟩, fun x H2 hy => ?_⟩
    obtain ⟨e2, is⟩ := y3 x H2 hy
    have oL2 := oL.go e2
    obtain ⟨oW, sub⟩ := oL2.wipe (vs := vs)
    refine hg z (X.or Da) H0 H2 _ _ x _ _ _ oW ((is (fun a q => .inl q) (fun b q => oL.notMs q)).weak sub) (fun env3 σ3 o3 f3 kp hx3 => ⟨wipe_eq kp hj, ?_⟩) hk
    refine ht z (X.or Da) H0 H2 σ3 env3 _ _ o3 (fun b H3 e3 hx4 => ?_) hx3
    have e13 := e'.trans (e2.trans e3)
    have acc3 : H3 Da = some (.lst accV) := e3.old _ _ (e2.old _ _ hacc hzD) hzD
    have A3 : IsA z (Ms z (X.or Da) σ env) H3 accV accD := hA.evo (fun _ q => .inl q) (e2.trans e3)
    have o3' := o3.go e3
    have up : ∀ a, Ms z (X.or Da) σ env a → Ms z (X.or Da) σ3 env3 a := ms_in hn hj kp
    cases b with
    | false =>
      rw [if_neg Bool.false_ne_true]
      exact ⟨accV, accD, e13, acc3, A3, hx4⟩
    | true =>
      rw [if_pos rfl]
      refine hi1 z (X.or Da) H0 H3 σ3 env3 _ _ o3' (fun ds1 J1 H4 e4 yl1 hx5 => ?_) hx4
      obtain ⟨hn1, hx5⟩ := hx5
      have o4 := o3'.go e4
      refine ⟨fun j mm H' => mm = ds1.length - j ∧ j ≤ ds1.length ∧ ∃ accV accD, Evo z H1 H' ∧ Fr z (X.or Da) (Ms z (X.or Da) σ3 env3) H4 (Ms z (X.or Da) σ3 env3) H' ∧ Ok z (X.or Da) H0 H' σ3 env3 ∧ H' Da = some (.lst accV) ∧ IsA z (Ms z (X.or Da) σ env) H' accV accD ∧
          lcP pg1 pt1 pe (wipeE env3 vs1) (ds1.drop j) accD fun acc1 => lcP2 vs1 pg pt pi1 pg1 pt1 pe (wipeE env vs) (ds.drop (i + 1)) acc1 fun r => k (.lst r),
        ⟨ds1.length, by simp, Nat.zero_le _, accV, accD, e13.trans e4, Fr.refl, o4, e4.old _ _ acc3 hzD, A3.evo (fun _ q => .inl q) e4, by simpa using hx5⟩, ?_⟩
      rintro j mm H5 ⟨rfl, hjl, accV, accD, e5, f5, o5, hacc, hA, hk⟩
      obtain ⟨y1, y2⟩ := yl1 _ _ f5
      by_cases hlt1 : j < ds1.length
      · obtain ⟨go, y3⟩ := y2 j ds1[j] (List.getElem?_eq_getElem hlt1)
        rw [List.drop_eq_getElem_cons hlt1] at hk
        refine .inr ⟨go, fun H' => ∃ accV accD, Evo z H1 H' ∧ Fr z (X.or Da) (Ms z (X.or Da) σ3 env3) H4 (Ms z (X.or Da) σ3 env3) H' ∧ Ok z (X.or Da) H0 H' σ3 env3 ∧ H' Da = some (.lst accV) ∧ IsA z (Ms z (X.or Da) σ env) H' accV accD ∧
          lcP pg1 pt1 pe (wipeE env3 vs1) (ds1.drop (j + 1)) accD fun acc1 => lcP2 vs1 pg pt pi1 pg1 pt1 pe (wipeE env vs) (ds.drop (i + 1)) acc1 fun r => k (.lst r), fun H2 h2 => ⟨ds1.length - (j + 1), by omega, rfl, hlt1, h2⟩, fun x H6 hy => ?_⟩
        obtain ⟨e6, is⟩ := y3 x H6 hy
        have o6 := o5.go e6
        obtain ⟨oW, sub⟩ := o6.wipe (vs := vs1)
        refine hg1 z (X.or Da) H0 H6 _ _ x _ _ _ oW ((is (fun a q => .inl q) (fun b q => o5.notMs q)).weak sub) (fun env7 σ7 o7 f7 kp7 hx7 => ⟨wipe_eq kp7 hj1, ?_⟩) hk
        refine ht1 z (X.or Da) H0 H6 σ7 env7 _ _ o7 (fun b H7 e7 hx8 => ?_) hx7
        have e67 := e6.trans e7
        have acc7 : H7 Da = some (.lst accV) := e67.old _ _ hacc hzD
        have A7 : IsA z (Ms z (X.or Da) σ env) H7 accV accD := hA.evo (fun _ q => .inl q) e67
        cases b with
        | false =>
          rw [if_neg Bool.false_ne_true]
          exact ⟨accV, accD, e5.trans e67, f5.trans (o5.fr e67), o5.go e67, acc7, A7, hx8⟩
        | true =>
          rw [if_pos rfl]
          refine he z (X.or Da) H0 H7 σ7 env7 _ _ (o7.go e7) (fun r y H8 e8 r8 hx9 => ?_) hx8
          have e58 := e67.trans e8
          have o8 := o5.go e58
          have inD : ∀ {σ : Sl} {env : List SV}, Ms z (X.or Da) σ env Da := .inr (.inl (.inr rfl))
          have old : ∀ (M : AP), M Da → ∀ b u, H8 b = some u → ¬ M b → upd H8 Da (.lst (accV ++ [y])) b = some u ∧ ¬ M b := fun M hM b u q n => ⟨by rw [upd_ne (fun w => n (by rw [w]; exact hM))]; exact q, n⟩
          have dk : ∀ b, z.ok H8 b → z.ok (upd H8 Da (.lst (accV ++ [y]))) b := fun b hb => ok_mut hzD hb
          have al : ∀ b, H8 b ≠ none → upd H8 Da (.lst (accV ++ [y])) b ≠ none := fun b hb => by
            by_cases w : b = Da
            · rw [w, upd_same]; exact nt
            · rw [upd_ne w]; exact hb
          have h0D : H0 Da = none := o1.evo.fresh hD
          refine ⟨accV, e8.old _ _ acc7 hzD, by rw [hA.length]; exact szl hx9.1, accV ++ [y], accD ++ [r], (e5.trans e58).mut hD hzD, (f5.trans (o5.fr e58)).trans ⟨old _ inD, dk, al⟩, ?_, upd_same, ?_, hx9.2⟩
          · refine ⟨o8.len, o8.evo.mut h0D hzD, fun b q => al b (o8.zal b q), fun b q => ⟨al b (o8.xal b q).1, (o8.xal b q).2⟩, fun i d q => ?_, fun i d q => ?_, o8.inj, o8.tab.mut hzD⟩
            · obtain ⟨v, h1, h2⟩ := o8.val i d q
              exact ⟨v, h1, h2.gen (old _ inD) dk⟩
            · obtain ⟨a, h1, h2, h3, h4, h5⟩ := o8.own i d q
              exact ⟨a, h1, h2.gen (fun u w => by rw [upd_ne (fun x => h4 (.inr x))]; exact w) (old _ inD) dk, h3, h4, h5⟩
          · have ir : Is z (Ms z (X.or Da) σ env) H8 y r := Is.weak (fun a q => ms_in hn1 hj1 kp7 a (up a q)) r8
            exact ((A7.evo (fun _ q => .inl q) e8).append (.cons ir .nil)).gen (old _ inD) dk
      · have ei : j = ds1.length := by omega
        subst ei
        rw [List.drop_length] at hk
        exact .inl ⟨y1, accV, accD, e5, hacc, hA, hk⟩
  · have ei : i = ds.length := by omega
    subst ei
    rw [List.drop_length] at hk
    exact .inl ⟨y1, c (.lst accD) (.ref Da) H' (e1.trans e') ⟨Da, rfl, e1.fresh hD, accV, hacc, hA⟩ hk⟩
section
variable {C : Cx} {fr : Bool} {elt tg iter tg1 iter1 : Expr} {ifs ifs1 : List Expr} {scope : Scope} {own : List (Str × Nat)} {pos : Pos} {pi pi1 : PIt} {js js1 vs1 : List Nat} {g g1 : TG} {pg pg1 : PGt} {pt pt1 : PTs'} {pe : PX}
theorem e_lc (hi : I C tg iter pi) (hg : ∀ (s : Shared) (H : Hp) (Ca : Addr) (cl : List (Str × Addr)) (fp : List Addr), G (C.blk s H scope (compEnvC scope cl Ca C.env) fp) tg js g pg) (ht : ∀ (s : Shared) (H : Hp) (Ca : Addr) (cl : List (Str × Addr)) (fp : List Addr), Ts (C.blk s H scope (compEnvC scope cl Ca C.env) fp) ifs pt)
    (he : ∀ (s : Shared) (H : Hp) (Ca : Addr) (cl : List (Str × Addr)) (fp : List Addr), E .e (C.blk s H scope (compEnvC scope cl Ca C.env) fp) elt pe) (hc : C.calm = true) (hN : C.N.Nodup) (ok : BlkOk C.N C.env.scope scope own) (hj : ∀ i ∈ js, i ∈ own.map (·.2)) (rg : RG js g pg) (hs : ∀ x, foldedSetIterable iter C.env x = pure x := by intro _; rfl) :
    E .f C (.ListComp elt [⟨tg, iter, ifs, 0⟩] scope pos) (eLc (own.map (·.2)) pi pg pt pe) :=
  ⟨_, pe_lc hc hN hi.pi ok (fun s H Ca cl fp => (hg s H Ca cl fp).pg) (fun s H Ca cl fp => (ht s H Ca cl fp).ex) (fun s H Ca cl fp => (he s H Ca cl fp).pe) hs, re_lc ri_tP rg hj rt_tP re_tP⟩
theorem s_ownLc {i : Nat} {y : Str} {py spos : Pos} (hi : I C tg iter pi) (hg : ∀ (s : Shared) (H : Hp) (Ca : Addr) (cl : List (Str × Addr)) (fp : List Addr), G (C.blk s H scope (compEnvC scope cl Ca C.env) fp) tg js g pg) (ht : ∀ (s : Shared) (H : Hp) (Ca : Addr) (cl : List (Str × Addr)) (fp : List Addr), Ts (C.blk s H scope (compEnvC scope cl Ca C.env) fp) ifs pt)
    (he : ∀ (s : Shared) (H : Hp) (Ca : Addr) (cl : List (Str × Addr)) (fp : List Addr), E .e (C.blk s H scope (compEnvC scope cl Ca C.env) fp) elt pe) (hc : C.calm = true) (hN : C.N.Nodup) (hy : C.N[i]? = some y) (hyl : C.env.scope.names.lookup y = some .local)
    (hsw : swapsWith (.ListComp elt [⟨tg, iter, ifs, 0⟩] scope pos) (some (.Name y py)) spos.line C.env = pure true) (ok : BlkOk C.N C.env.scope scope own) (hj : ∀ i ∈ js, i ∈ own.map (·.2)) (rg : RG js g pg) (hs : ∀ x, foldedSetIterable iter C.env x = pure x := by intro _; rfl) :
    S fr C (.Assign [.Name y py] (.ListComp elt [⟨tg, iter, ifs, 0⟩] scope pos) spos) (sOwn i (eLc (own.map (·.2)) pi pg pt pe)) :=
  ⟨_, ps_setLc hc hN hy hyl hsw hi.pi ok (fun s H Ca cl fp => (hg s H Ca cl fp).pg) (fun s H Ca cl fp => (ht s H Ca cl fp).ex) (fun s H Ca cl fp => (he s H Ca cl fp).pe) hs, rs_own (re_lc ri_tP rg hj rt_tP re_tP)⟩
theorem RE.fe' {t : TE} {p : PX} (h : RE .f t p) : RE .e t p := fun z X H0 H σ env Q k o c hp => h z X H0 H σ env Q k o (fun d v H' ev r kd => c d v H' ev (r.fe o) kd) hp
theorem rs_set {i : Nat} {t : TE} {p : PX} (h : RE .e t p) : RS fr (tAsg t (gName i)) (sSet i p) := fun z X H0 H σ env G k o s hp => h z X H0 H σ env _ _ o (fun d v H1 e1 r1 hx => by
  obtain ⟨o2, f2⟩ := (o.go e1).set (i := i) (show Is z _ H1 v d from r1)
  exact s.nx _ _ H1 o2 ((o.fr e1).trans f2) hx) hp
theorem s_setLc {i : Nat} {y : Str} {py spos : Pos} (hi : I C tg iter pi) (hg : ∀ (s : Shared) (H : Hp) (Ca : Addr) (cl : List (Str × Addr)) (fp : List Addr), G (C.blk s H scope (compEnvC scope cl Ca C.env) fp) tg js g pg) (ht : ∀ (s : Shared) (H : Hp) (Ca : Addr) (cl : List (Str × Addr)) (fp : List Addr), Ts (C.blk s H scope (compEnvC scope cl Ca C.env) fp) ifs pt)
    (he : ∀ (s : Shared) (H : Hp) (Ca : Addr) (cl : List (Str × Addr)) (fp : List Addr), E .e (C.blk s H scope (compEnvC scope cl Ca C.env) fp) elt pe) (hc : C.calm = true) (hN : C.N.Nodup) (hy : C.N[i]? = some y) (hyl : C.env.scope.names.lookup y = some .local)
    (hsw : swapsWith (.ListComp elt [⟨tg, iter, ifs, 0⟩] scope pos) (some (.Name y py)) spos.line C.env = pure true) (ok : BlkOk C.N C.env.scope scope own) (hj : ∀ i ∈ js, i ∈ own.map (·.2)) (rg : RG js g pg) (hs : ∀ x, foldedSetIterable iter C.env x = pure x := by intro _; rfl) :
    S fr C (.Assign [.Name y py] (.ListComp elt [⟨tg, iter, ifs, 0⟩] scope pos) spos) (sSet i (eLc (own.map (·.2)) pi pg pt pe)) :=
  ⟨_, ps_setLc hc hN hy hyl hsw hi.pi ok (fun s H Ca cl fp => (hg s H Ca cl fp).pg) (fun s H Ca cl fp => (ht s H Ca cl fp).ex) (fun s H Ca cl fp => (he s H Ca cl fp).pe) hs, rs_set (RE.fe' (re_lc ri_tP rg hj rt_tP re_tP))⟩
theorem e_lc2 (hi : I C tg iter pi) (hg : ∀ (s : Shared) (H : Hp) (Ca : Addr) (cl : List (Str × Addr)) (fp : List Addr), G (C.blk s H scope (compEnvC scope cl Ca C.env) fp) tg js g pg) (ht : ∀ (s : Shared) (H : Hp) (Ca : Addr) (cl : List (Str × Addr)) (fp : List Addr), Ts (C.blk s H scope (compEnvC scope cl Ca C.env) fp) ifs pt)
    (hi1 : ∀ (s : Shared) (H : Hp) (Ca : Addr) (cl : List (Str × Addr)) (fp : List Addr), I (C.blk s H scope (compEnvC scope cl Ca C.env) fp) tg1 iter1 pi1)
    (hg1 : ∀ (s : Shared) (H : Hp) (Ca : Addr) (cl : List (Str × Addr)) (fp : List Addr), G (C.blk s H scope (compEnvC scope cl Ca C.env) fp) tg1 js1 g1 pg1) (ht1 : ∀ (s : Shared) (H : Hp) (Ca : Addr) (cl : List (Str × Addr)) (fp : List Addr), Ts (C.blk s H scope (compEnvC scope cl Ca C.env) fp) ifs1 pt1)
    (he : ∀ (s : Shared) (H : Hp) (Ca : Addr) (cl : List (Str × Addr)) (fp : List Addr), E .e (C.blk s H scope (compEnvC scope cl Ca C.env) fp) elt pe) (hc : C.calm = true) (hN : C.N.Nodup) (ok : BlkOk C.N C.env.scope scope own) (hj : ∀ i ∈ js, i ∈ own.map (·.2)) (hj1 : ∀ i ∈ js1, i ∈ vs1) (hv : ∀ i ∈ vs1, i ∈ own.map (·.2)) (rg : RG js g pg) (rg1 : RG js1 g1 pg1)
    (hs : ∀ x, foldedSetIterable iter C.env x = pure x := by intro _; rfl) (hs1 : ∀ env x, foldedSetIterable iter1 env x = pure x := by intro _ _; rfl) :
    E .f C (.ListComp elt [⟨tg, iter, ifs, 0⟩, ⟨tg1, iter1, ifs1, 0⟩] scope pos) (eLc2 (own.map (·.2)) vs1 pi pg pt pi1 pg1 pt1 pe) :=
  ⟨_, pe_lc2 hc hN hi.pi ok hv (fun s H Ca cl fp => (hg s H Ca cl fp).pg) (fun s H Ca cl fp => (ht s H Ca cl fp).ex) (fun s H Ca cl fp => (hi1 s H Ca cl fp).pi) (fun s H Ca cl fp => (hg1 s H Ca cl fp).pg) (fun s H Ca cl fp => (ht1 s H Ca cl fp).ex) (fun s H Ca cl fp => (he s H Ca cl fp).pe) hs hs1,
    re_lc2 ri_tP rg hj rt_tP ri_tP rg1 hj1 rt_tP re_tP⟩
end
end Pu
namespace Pu
open PySem PySem.Spec PyProof.Rows L2
variable [Tbs]
/-! ### targets, once more without a place -/
theorem rg_name {i : Nat} : RG [i] (gName i) (gtName i) := fun z X H0 H σ env v d Q k o hv c hp => let ⟨o2, f2⟩ := o.set (i := i) hv; c _ _ o2 f2 ⟨by simp, fun j hj => by
    have hj' : i ≠ j := fun e => hj (by simp [e])
    exact ⟨List.getElem?_set_ne hj', List.getElem?_set_ne hj'⟩⟩ hp
theorem rgs_nil : RGs [] gNil gtNil := fun z X H0 H σ env v d Q k o hv c hp => by
  cases hv with
  | nil => exact ⟨rfl, c env σ o Fr.refl Keep.refl hp⟩
  | cons _ _ => exact (show False from hp).elim
theorem rgs_cons {js ks : List Nat} {g : TG} {gs : TGs} {p : PGt} {q : PGs'} (h1 : RG js g p) (h2 : RGs ks gs q) : RGs (js ++ ks) (gCons g gs) (gtCons p q) := fun z X H0 H σ env v d Q k o hv c hp => by
  cases hv with
  | nil => exact (show False from hp).elim
  | cons q t =>
    refine ⟨_, _, rfl, h1 z X H0 H σ env _ _ _ _ o q (fun env' σ' o' f' kp hx => ?_) hp⟩
    exact h2 z X H0 H σ' env' _ _ _ _ o' (f'.isA t) (fun env2 σ2 o2 f2 kp2 hy => c env2 σ2 o2 (f'.trans f2) (kp.trans kp2) hy) hx
theorem rg_tup {K : PySem.W.Frag} {js : List Nat} {gs : TGs} {q : PGs'} {n : Nat} (h : RGs js gs q) : RG js (gTup K n gs) (gtTup n q) := fun z X H0 H σ env v d Q k o hv c hp => by
  cases hv with
  | tup e nn r => exact ⟨_, _, rfl, SqT.of e, by rw [r.length]; exact hp.1, h z X H0 H σ env _ _ _ _ o r c hp.2⟩
  | _ => exact (show False from hp).elim
/-! ### a def by its body -/
def wpOf (fr : Bool) (n : Nat) (p : PSt) : List D → (D → Prop) → Prop := fun ds k => p (ds.map SV.val ++ List.replicate (n - ds.length) SV.no) { nx := fun _ => fr = false ∧ k .non, rt := k }
theorem start_ok {z : Zn} {X : AP} {H : Hp} {N : List Str} {vs : List V} {ds : List D} (hz : (∀ a, z.Z a → H a ≠ none) ∧ Tabs H) (hx : ∀ a, X a → H a ≠ none ∧ ¬ z.Z a) (hA : IsA z (Zx z X) H vs ds) :
    Ok z X H H (L2.start N vs) (ds.map SV.val ++ List.replicate (N.length - ds.length) SV.no) := by
  have hl := hA.length
  have no : ∀ (i : Nat) (d : D), (ds.map SV.val ++ List.replicate (N.length - ds.length) SV.no)[i]? = some (.own d) → False := fun i d h => by
    by_cases hi : i < ds.length
    · rw [List.getElem?_append_left (by simpa using hi), List.getElem?_map] at h
      cases q : ds[i]? with
      | none => rw [q] at h; cases h
      | some x => rw [q] at h; cases h
    · rw [List.getElem?_append_right (by simpa using hi), List.getElem?_replicate] at h
      split at h <;> cases h
  have ms : ∀ a, Ms z X (L2.start N vs) (ds.map SV.val ++ List.replicate (N.length - ds.length) SV.no) a → Zx z X a := by
    rintro a (h | h | ⟨i, d, h1, _⟩)
    · exact .inl h
    · exact .inr h
    · exact (no i d h1).elim
  refine ⟨by unfold L2.start; simp [hl], Evo.refl _ _, hz.1, hx, fun i d h => ?_, fun i d h => (no i d h).elim, fun i j a d e h _ _ _ => (no i d h).elim, hz.2⟩
  by_cases hi : i < ds.length
  · rw [List.getElem?_append_left (by simpa using hi), List.getElem?_map] at h
    cases q : ds[i]? with
    | none => rw [q] at h; cases h
    | some x =>
      rw [q] at h
      cases h
      obtain ⟨v, h1, h2⟩ := hA.get q
      refine ⟨v, ?_, h2.weak ms⟩
      unfold L2.start
      rw [List.getElem?_append_left (by simpa [hl] using hi), List.getElem?_map, h1]
      rfl
  · rw [List.getElem?_append_right (by simpa using hi), List.getElem?_replicate] at h
    split at h <;> cases h
section
variable {P : Program} {w : World} {K : PySem.W.Frag} {mg : Str → Option Value} {base : Heap}
theorem fn_ok {x qual : Str} {st : Stmt} {f : Addr} {fd : FuncData} {N ps : List Str} {k : Nat} {fr : Bool} {p : PSt} (F : Fun K x qual st f fd) (S : FnScope N ps (defScope st))
    (hb : ∀ (cdv : Value) (A : Around) (outer : List Env) (s : Shared) (H : Hp) (E : XK), Room k (A.deeper (envOfC qual (defScope st) s.heap.objs.size f cdv)) → B fr (cxOf CX0 P w K mg base N qual (defScope st) f cdv A outer s H E).nox (defBody st) p) :
    FnOk P w K mg base CX0 (k + 1) f fd ps (Sf fr ps.length (wpOf fr N.length p)) := by
  refine F.ok S (fun vs H Q E h => ?_) (fun cdv A outer s H vs Q E hr h => ?_)
  · obtain ⟨z, X, ds, kk, hl, _⟩ := h
    exact hl
  · obtain ⟨z, X, ds, kk, hl, hz, hx, hA, hw, c⟩ := h
    obtain ⟨t, b1, b2⟩ := hb cdv A outer s H E hr
    refine ⟨t, b1, b2 z X H H (L2.start N vs) _ _ { nx := fun _ => fr = false ∧ kk .non, rt := kk } (start_ok hz hx hA) ⟨fun env' σ' H' o' f' hk => ?_, fun d v H' e r fq hk => ?_, fun _ _ _ _ _ hk => hk.elim, fun _ _ _ _ _ hk => hk.elim, fun _ _ _ _ _ _ _ h => h.elim⟩ hw⟩
    · exact c .non .non H' o'.evo .non (fun q => by rw [hk.1] at q; cases q) hk.2
    · exact c d v H' e r fq hk
end
section
variable {C : Cx} {e a b : Expr} {es : List Expr} {p q : PX} {m : Mode} {fr : Bool} {pos pp : Pos} {x : Str}
/-! ### tuple(range(..)), list(range(..)) -/
def dRg (f : List D → D) : D → D → (D → Prop) → Prop := fun x y k => match x, y with
  | .int i, .int j => (0 ≤ i ∧ i < 100000 ∧ 0 ≤ j ∧ j < 100000) ∧ k (f (rangeD i (j - i).toNat))
  | _, _ => False
def eRg1 (f : List D → D) (p : PX) : PX := fun env k => p env fun x => dRg f (.int 0) x k
theorem isa_rg {z : Zn} {M : AP} {H : Hp} {i j : Int} : IsA z M H (rgV i j) (rangeD i (j - i).toNat) := by
  unfold rgV rangeD
  generalize (j - i).toNat = n
  have : ∀ (l : List Nat), IsA z M H (l.map fun t => V.int (i + (t : Nat))) (l.map fun t => D.int (i + (t : Nat))) := fun l => by
    induction l with
    | nil => exact .nil
    | cons t l ih => exact .cons (.int _) ih
  exact this _
theorem e_tupRg1 (h : E m C a p) (hc : C.calm = true) (hg : Gl C "tuple") (hm : C.mg "tuple" = none) (hg' : Gl C "range") (hm' : C.mg "range" = none) {p2 pos2 : Pos} (na : starEach [a] C.env = (false, eval a C.env) :: starEach [] C.env := by rfl)
    (nb : starEach [.Call (.Name "range" p2) [a] [] pos2] C.env = (false, eval (.Call (.Name "range" p2) [a] [] pos2) C.env) :: starEach [] C.env := by rfl) : E .e C (.Call (.Name "tuple" pp) [.Call (.Name "range" p2) [a] [] pos2] [] pos) (eRg1 .tup p) := by
  obtain ⟨t, h1, h2⟩ := h.toB
  refine ⟨_, pe_tupRg hc hg hm (prg_1 hg' hm' h1 na) nb, fun z X H0 H σ env Q k o c hp => h2 z X H0 H σ env _ _ o (fun d v H1 e1 r1 hx => ?_) hp⟩
  cases d with
  | int i =>
    cases Is.intI r1
    obtain ⟨hb, hk⟩ := hx
    exact ⟨i, rfl, ⟨by omega, by omega, by omega, by omega, by omega⟩, fun q hq => c _ _ _ (e1.new hq) ((Rel.newT (e1.fresh hq) hq isa_rg).fe o) hk⟩
  | _ => exact (show False from hx).elim
theorem e_lstRg1 (h : E m C a p) (hc : C.calm = true) (hg : Gl C "list") (hm : C.mg "list" = none) (hg' : Gl C "range") (hm' : C.mg "range" = none) {p2 pos2 : Pos} (na : starEach [a] C.env = (false, eval a C.env) :: starEach [] C.env := by rfl)
    (nb : starEach [.Call (.Name "range" p2) [a] [] pos2] C.env = (false, eval (.Call (.Name "range" p2) [a] [] pos2) C.env) :: starEach [] C.env := by rfl) : E .f C (.Call (.Name "list" pp) [.Call (.Name "range" p2) [a] [] pos2] [] pos) (eRg1 .lst p) := by
  obtain ⟨t, h1, h2⟩ := h.toB
  refine ⟨_, pe_listRg hc hg hm (prg_1 hg' hm' h1 na) nb, fun z X H0 H σ env Q k o c hp => h2 z X H0 H σ env _ _ o (fun d v H1 e1 r1 hx => ?_) hp⟩
  cases d with
  | int i =>
    cases Is.intI r1
    obtain ⟨hb, hk⟩ := hx
    exact ⟨i, rfl, ⟨by omega, by omega, by omega, by omega, by omega⟩, fun q hq => c _ _ _ (e1.new hq) (Rel.newL (e1.fresh hq) hq isa_rg) hk⟩
  | _ => exact (show False from hx).elim
def dRevL : D → (D → Prop) → Prop := fun d k => match d with
  | .lst xs => k (.lst xs.reverse)
  | _ => False
/-! ### more changes of what a slot owns -/
/-- y = x.pop(e) -/
def sPopAt (j i : Nat) (p : PX) : PSt := fun env k => match env[i]? with
  | some (.own (.lst xs)) => p env fun d => inK d fun n => (-100000 < n ∧ n < 100000) ∧ ∃ jj y, seqIndex? n xs.length = some jj ∧ xs[jj]? = some y ∧ k.nx ((env.set i (.own (.lst (xs.eraseIdx jj)))).set j (.val y))
  | _ => False
theorem mutL {z : Zn} {X : AP} {H0 H : Hp} {σ : Sl} {env : List SV} {i : Nat} {a : Addr} {d : D} {vs' : List V} {ds' : List D} (o : Ok z X H0 H σ env) (hi : env[i]? = some (.own d)) (hs : σ[i]? = some (some (V.ref a))) (hz : ¬ z.Z a) (h : IsA z (Ms z X σ env) H vs' ds') :
    Ok z X H0 (upd H a (.lst vs')) σ (env.set i (.own (.lst ds'))) ∧ Fr z X (Ms z X σ env) H (Ms z X σ (env.set i (.own (.lst ds')))) (upd H a (.lst vs')) := by
  have ia : Ms z X σ env a := .inr (.inr ⟨i, _, hi, hs⟩)
  exact o.mut hi hs ⟨vs', upd_same, h.gen (fun b u hb n => ⟨by rw [upd_ne (fun e => n (by rw [e]; exact ia))]; exact hb, n⟩) fun b hb => ok_mut hz hb⟩
theorem s_popAt (j i : Nat) {x y : Str} {py apos cpos : Pos} (h : E m C e p) (hj : C.N[j]? = some y) (hy : Loc C.env.scope y) (hND : C.N.Nodup)
    (hb : ∀ to te, PE C (.Name x pp) to → PE C e te → PE C (.Call (.Attribute (.Name x pp) "pop" apos) [e] [] cpos) (tBM C.K "list" rPopAt to (tCons te tNil)))
    (hN : C.N[i]? = some x := by rfl) (hv : Vis C.env.scope x := by first | exact Or.inl rfl | exact Or.inr (Or.inl rfl) | exact Or.inr (Or.inr rfl)) (hd : (x == ("__debug__" : Str)) = false := by decide)
    (hcd : (x == ("__classdict__" : Str)) = false := by decide)
    (hs : swapsWith (.Call (.Attribute (.Name x pp) "pop" apos) [e] [] cpos) (some (.Name y py)) pos.line C.env = pure false := by rfl) (hf : C.fn y = true ∨ C.env.scope.names.lookup y = some .local := by first | exact .inl rfl | exact .inr rfl | assumption) :
    S fr C (.Assign [.Name y py] (.Call (.Attribute (.Name x pp) "pop" apos) [e] [] cpos) pos) (sPopAt j i p) := by
  obtain ⟨t, h1, h2⟩ := h.toB
  refine ⟨_, ps_set hND hj hy (hb _ _ (pe_var hN hv hd hcd) h1) hs hf, fun z X H0 H σ env G k o s hp => ?_⟩
  unfold sPopAt at hp
  split at hp
  · rename_i xs he
    obtain ⟨a, q1, ⟨vs, q5, q6⟩, q3, q4⟩ := o.own i _ he
    refine ⟨_, q1, .inl ⟨rfl, vs, SqL.of q5⟩, h2 z X H0 H σ env _ _ o (fun d v H1 e1 r1 hx => ?_) hp⟩
    cases d with
    | int n =>
      cases Is.intI r1
      obtain ⟨hn, jj, yy, g1, g2, hk⟩ := hx
      have o1 := o.go e1
      have q5' := e1.old a _ q5 q3
      have q6' := IsA.evo (fun _ q => .inl q) e1 q6
      obtain ⟨w, w1, w2⟩ := q6'.get g2
      refine ⟨a, vs, n, jj, w, rfl, rfl, q5', by omega, by omega, by rw [q6.length]; exact g1, w1, ?_⟩
      obtain ⟨o2, f2⟩ := mutL o1 he q1 q3 (q6'.eraseIdx jj)
      obtain ⟨o3, f3⟩ := o2.set (i := j) (f2.is w2)
      exact s.nx _ _ _ o3 ((o.fr e1).trans (f2.trans f3)) hk
    | _ => exact (show False from hx).elim
  · exact hp.elim
/-- x[i] = e -/
def sPut (i : Nat) (pi pe : PX) : PSt := fun env k => pe env fun y => match env[i]? with
  | some (.own (.lst xs)) => pi env fun d => match d with
    | .int n => ∃ jj, ixN xs.length n = some jj ∧ k.nx (env.set i (.own (.lst (xs.set jj y))))
    | _ => False
  | _ => False
/-! ### while -/
def whileN (c : PTs') (body : PSt) (k : PK') : Nat → List SV → Prop
  | 0, _ => False
  | n + 1, env => c env fun b => if b = true then body env { nx := whileN c body k n, rt := k.rt, bk := k.nx, ct := whileN c body k n } else k.nx env
def sWhile (c : PTs') (body : PSt) : PSt := fun env k => ∃ n, whileN c body k n env
theorem s_while {c : Expr} {body : List Stmt} {pc : PTs'} {pb : PSt} (h : T C c pc) (g : B fr C body pb) (hp : PassesOwn (model C.prog C.w) C.A C.env C.xe) : S fr C (.While c body [] pos) (sWhile pc pb) := by
  obtain ⟨t, h1, h2⟩ := h
  obtain ⟨u, g1, g2⟩ := g
  refine ⟨_, ps_while hp h1 g1, fun z X H0 H σ env G k o s hw => ?_⟩
  obtain ⟨n, hw⟩ := hw
  refine ⟨fun mm σ' H' => ∃ env', Ok z X H0 H' σ' env' ∧ Fr z X (Ms z X σ env) H (Ms z X σ' env') H' ∧ whileN pc pb k mm env', ⟨n, env, o, Fr.refl, hw⟩, ?_⟩
  rintro mm σ' H' ⟨env', o', f', hw'⟩
  cases mm with
  | zero => exact hw'.elim
  | succ mm =>
    refine h2 z X H0 H' σ' env' _ _ o' (fun b H1 e1 hx => ?_) hw'
    have o1 := o'.go e1
    have f1 := f'.trans (o'.fr e1)
    cases b with
    | true =>
      rw [if_pos rfl] at hx ⊢
      refine ⟨fun σ2 H2 => ∃ env2, Ok z X H0 H2 σ2 env2 ∧ Fr z X (Ms z X σ env) H (Ms z X σ2 env2) H2 ∧ whileN pc pb k mm env2, fun σ2 H2 q => ⟨mm, Nat.lt_succ_self _, q⟩, ?_⟩
      exact g2 z X H0 H1 σ' env' _ { nx := whileN pc pb k mm, rt := k.rt, bk := k.nx, ct := whileN pc pb k mm } o1 ⟨fun env2 σ2 H2 o2 f2 hx2 => ⟨env2, o2, f1.trans f2, hx2⟩, s.rt, fun env2 σ2 H2 o2 f2 hx2 => s.nx env2 σ2 H2 o2 (f1.trans f2) hx2, fun env2 σ2 H2 o2 f2 hx2 => ⟨env2, o2, f1.trans f2, hx2⟩, fun _ _ _ _ _ _ _ h => h.elim⟩ hx
    | false =>
      rw [if_neg Bool.false_ne_true] at hx ⊢
      exact s.nx env' σ' H1 o1 f1 hx
end
end Pu
namespace Pu
open PySem PySem.Spec PyProof.Rows L2
variable [Tbs]
section
variable {C : Cx} {tg e : Expr} {pe : PX} {m : Mode} {fr : Bool} {pos pp : Pos}
/-- a list or a tuple walked -/
def iSeqT (K : PySem.W.Frag) (tl : TE) : TI := fun σ H R => tl σ H fun x H1 => (∃ a, x = .ref a ∧ (∃ xs, SqL K H1 a xs) ∧ R (Itl K a) H1) ∨ (∃ a, x = .ref a ∧ (∃ xs, SqT K H1 a xs) ∧ R (Itt K a) H1)
theorem pi_seq {l : Expr} {tl : TE} (hl : PE C l tl) : PI C tg l (iSeqT C.K tl) := by
  refine ⟨fun pins s σ H R I h => ?_⟩
  refine thn (hl.run pins s σ H _ I h) fun v s1 ⟨x, H1, I1, r1, q1⟩ => ?_
  have hb : ∀ b ∈ [s1.heap.objs.size], FpOk C pins H1 b := fun b hb => by
    have e : b = s1.heap.objs.size := by simpa using hb
    subst e
    exact I1.fpOk (Nat.le_refl _) (I1.hok.fresh (Nat.le_refl _))
  rcases q1 with ⟨a, e, ⟨xs, hq⟩, q⟩ | ⟨a, e, ⟨xs, hq⟩, q⟩
  · subst e
    cases r1
    obtain ⟨its, rv, p, hz⟩ := I1.list hq
    refine wpAny_pyIter_list p.isList ?_
    exact ⟨s1.heap.objs.size, [s1.heap.objs.size], _, _, H1, rfl, I1.kept (t' := s1.toks) fun b o e => Heap.get?_push_of_some _ e, turn_list a _, ⟨_, Heap.get?_push_size _ rfl, rfl, rfl⟩, hb, q⟩
  · subst e
    cases r1
    obtain ⟨its, rv, p, hz⟩ := I1.tuple hq
    refine wpAny_pyIter_tuple (show s1.heap.IsTuple a its.toArray from p) ?_
    exact ⟨s1.heap.objs.size, [s1.heap.objs.size], _, _, H1, rfl, I1.kept (t' := s1.toks) fun b o e => Heap.get?_push_of_some _ e, turn_tuple a _, ⟨_, Heap.get?_push_size _ rfl, rfl, rfl⟩, hb, q⟩
theorem i_seq (h : E .e C e pe) : I C tg e (iSeq pe) := by
  obtain ⟨t, h1, h2⟩ := h
  refine ⟨_, pi_seq h1, fun z X H0 H σ env R k o c hp => h2 z X H0 H σ env _ _ o (fun d v H1 e1 r1 hx => ?_) hp⟩
  cases (show Is z _ H1 v d from r1) with
  | lst e n r => exact .inl ⟨_, rfl, ⟨_, SqL.of e⟩, c _ _ H1 e1 (yl_lst e n r) hx⟩
  | tup e n r => exact .inr ⟨_, rfl, ⟨_, SqT.of e⟩, c _ _ H1 e1 (yl_tup e n r) hx⟩
  | _ => exact (show False from hx).elim
/-- what a slot owns is changed no more -/
def frz (i : Nat) (env : List SV) : List SV := match env[i]? with
  | some (.own d) => env.set i (.val d)
  | _ => env
theorem Ok.frz {z : Zn} {X : AP} {H0 H : Hp} {σ : Sl} {env : List SV} (o : Ok z X H0 H σ env) (i : Nat) : Ok z X H0 H σ (frz i env) ∧ Fr z X (Ms z X σ env) H (Ms z X σ (Pu.frz i env)) H := by
  unfold Pu.frz
  split
  · rename_i d hd
    have hl : i < env.length := (List.getElem?_eq_some_iff.mp hd).1
    obtain ⟨a, ha, hc, hz, hx, h0⟩ := o.own i d hd
    have sub : ∀ b, Ms z X σ (env.set i (.val d)) b → Ms z X σ env b ∧ b ≠ a := by
      rintro b (h | h | ⟨j, e, h1, h2⟩)
      · exact ⟨.inl h, fun q => hz (by rw [← q]; exact h)⟩
      · exact ⟨.inr (.inl h), fun q => hx (by rw [← q]; exact h)⟩
      · obtain ⟨hj, h1⟩ := set_own h1
        refine ⟨.inr (.inr ⟨j, e, h1, h2⟩), fun q => hj ?_⟩
        rw [q] at h2
        exact o.inj j i a e d h1 hd h2 ha
    have old : ∀ b u, H b = some u → ¬ Ms z X σ env b → H b = some u ∧ ¬ Ms z X σ (env.set i (.val d)) b := fun b u q n => ⟨q, fun y => n (sub b y).1⟩
    refine ⟨⟨by simp [o.len], o.evo, o.zal, o.xal, fun j e h => ?_, fun j e h => ?_, fun j l b e f h1 h2 h3 h4 => ?_, o.tab⟩, ⟨old, fun _ h => h, fun _ h => h⟩⟩
    · by_cases hj : i = j
      · subst hj
        rw [List.getElem?_set_self hl] at h
        cases h
        exact ⟨_, ha, (hc.gen (fun _ q => q) old fun _ h => h).is fun q => (sub a q).2 rfl⟩
      · rw [List.getElem?_set_ne hj] at h
        obtain ⟨v, h1, h2⟩ := o.val j e h
        exact ⟨v, h1, h2.gen old fun _ h => h⟩
    · obtain ⟨hj, h⟩ := set_own h
      obtain ⟨b, h1, h2, h3⟩ := o.own j e h
      exact ⟨b, h1, h2.gen (fun _ q => q) old fun _ h => h, h3⟩
    · exact o.inj j l b e f (set_own h1).2 (set_own h2).2 h3 h4
  · exact ⟨o, Fr.refl⟩
def sFrz (i : Nat) (p : PSt) : PSt := fun env k => p (frz i env) k
theorem b_frz (i : Nat) {sts : List Stmt} {p : PSt} (h : B fr C sts p) : B fr C sts (sFrz i p) := by
  obtain ⟨t, h1, h2⟩ := h
  refine ⟨t, h1, fun z X H0 H σ env G k o s hp => ?_⟩
  obtain ⟨o2, f2⟩ := o.frz i
  exact h2 z X H0 H σ _ G k o2 (s.go f2) hp
/-- t[::-1] of a list -/
theorem e_revL {kk : Nat} {p1 p2 p3 : Pos} (h : E .c C e pe) : E .f C (.Subscript e (.Slice none none (some (.UnaryOp .USub (.Constant (.int 1) kk p1) p2)) p3) pos) (eUn dRevL pe) := by
  obtain ⟨t, h1, h2⟩ := h
  refine ⟨_, pe_revL h1, fun z X H0 H σ env Q k o c hp => h2 z X H0 H σ env _ _ o (fun d v H1 e1 r1 hx => ?_) hp⟩
  cases d with
  | lst xs =>
    obtain ⟨a, vs, rfl, q1, q2, n⟩ := r1.conL
    exact ⟨a, vs, rfl, SqL.of q1, fun q hq => c _ _ _ (e1.new hq) (Rel.newL (e1.fresh hq) hq q2.reverse) hx⟩
  | _ => exact (show False from hx).elim
end
/-! ### a law by its deck and the rest of its body -/
section
variable {P : Program} {w : World} {K : PySem.W.Frag} {mg : Str → Option Value} {base : Heap}
def sp_lawT (K : PySem.W.Frag) (tb : List Addr) : Sp := fun vs H Q _ => ∃ (a : Addr) (ns : List Int), vs = [.ref a] ∧ SqL K H a (ns.map V.int) ∧ ns.length ≤ 63 ∧ (∀ P ∈ tb, GxR.TabG H P) ∧ ∀ H', Q (.bl true) H'
/-- the rest of a deck's making, behind the cells' copy: [cells, seed, 0, 0] -/
theorem rest_deck {t : TS} {p : PSt} (h : RS false t p) {N : List Str} {a q : Addr} {H : Hp} {cs : List Int} (hl : 2 ≤ N.length) (hc : H q = some (.lst (cs.map V.int))) (hT : Tabs H) {Q : VK} {R : D → Prop} (k : ∀ H' v d, R d → Is Zn.none (fun _ => False) H' v d → Tabs H' → Q v H')
    (hp : p (SV.no :: SV.val (.lst (cs.map D.int)) :: List.replicate (N.length - 2) SV.no) { nx := fun _ => False, rt := R }) :
    t { nx := fun _ H' => Q .non H', rt := Q } ((L2.start N [V.ref a]).set 1 (some (.ref q))) H := by
  have hst : (L2.start N [V.ref a]).set 1 (some (.ref q)) = some (V.ref a) :: some (.ref q) :: List.replicate (N.length - 2) none := by
    unfold L2.start
    obtain ⟨m, hm⟩ : ∃ m, N.length = m + 2 := ⟨N.length - 2, by omega⟩
    rw [hm]
    simp [List.replicate_succ]
  rw [hst]
  have zz : ∀ b, Zn.none.Z b → b ∈ Tbs.tb := fun b w => w.elim (fun w => absurd rfl w.1) fun w => w
  have zq : ¬ Zn.none.Z q := fun w => by
    obtain ⟨ps, e, _⟩ := hT q (zz q w)
    rw [hc] at e
    cases e
  have hrep : ∀ (i : Nat) (d : SV), (SV.no :: SV.val (.lst (cs.map D.int)) :: List.replicate (N.length - 2) SV.no)[i]? = some d → d = .no ∨ (i = 1 ∧ d = .val (.lst (cs.map D.int))) := fun i d h => by
    match i, h with
    | 0, h => simp at h; exact .inl h.symm
    | 1, h => simp at h; exact .inr ⟨rfl, h.symm⟩
    | j + 2, h =>
      simp only [List.getElem?_cons_succ, List.getElem?_replicate] at h
      split at h
      · cases h; exact .inl rfl
      · cases h
  have hia : ∀ (M : AP) (ns : List Int), IsA Zn.none M H (ns.map V.int) (ns.map D.int) := fun M ns => by
    induction ns with
    | nil => exact .nil
    | cons n ns ih => exact .cons (.int n) ih
  have hms : ¬ Ms Zn.none (fun _ => False) (some (V.ref a) :: some (.ref q) :: List.replicate (N.length - 2) none) (SV.no :: SV.val (.lst (cs.map D.int)) :: List.replicate (N.length - 2) SV.no) q := fun w => by
    rcases w with w | w | ⟨i, d, w, _⟩
    · exact zq w
    · exact w
    · rcases hrep i _ w with q | ⟨_, q⟩ <;> cases q
  have o : Ok Zn.none (fun _ => False) H H (some (V.ref a) :: some (.ref q) :: List.replicate (N.length - 2) none) (SV.no :: SV.val (.lst (cs.map D.int)) :: List.replicate (N.length - 2) SV.no) := by
    refine ⟨by simp, Evo.refl _ _, fun b w => hT.at (zz b w), fun _ q => q.elim, fun i d h => ?_, fun i d h => ?_, fun i j b d e h _ _ _ => ?_, hT⟩
    · rcases hrep i _ h with q | ⟨rfl, q⟩
      · cases q
      · cases q
        exact ⟨.ref _, rfl, Is.lst hc hms (hia _ cs)⟩
    · rcases hrep i _ h with q | ⟨rfl, q⟩ <;> cases q
    · rcases hrep i _ h with q | ⟨rfl, q⟩ <;> cases q
  refine h Zn.none (fun _ => False) H H _ _ _ { nx := fun _ => False, rt := R } o ⟨fun _ _ _ _ _ q => q.elim, fun d v H' ev r _ w => ?_, fun _ _ _ _ _ q => q.elim, fun _ _ _ _ _ q => q.elim, fun _ _ _ _ _ _ _ q => q.elim⟩ hp
  exact k H' v d w (r.gen (fun b o e _ => ⟨e, fun w => w⟩) fun _ w => w) (ev.tab hT)
end
end Pu
namespace Pu
open PySem PySem.Spec PyProof.Rows L2
variable [Tbs]
theorem E.conv {C : Cx} {m : Mode} {e : Expr} {p p' : PX} (h : E m C e p) (f : ∀ env k, p' env k → p env k) : E m C e p' := by
  obtain ⟨t, h1, h2⟩ := h
  exact ⟨t, h1, fun z X H0 H σ env Q k o c hp => h2 z X H0 H σ env Q k o c (f env k hp)⟩
/-- a written power -/
theorem e_powC {C : Cx} {i1 i2 : Nat} {p1 p2 pos : Pos} (b e r : Int) (hc : CPow b e := by exact ⟨by decide, by decide, by decide⟩) (hr : b ^ e.toNat = r := by rfl) : E .e C (.BinOp (.Constant (.int b) i1 p1) .Pow (.Constant (.int e) i2 p2) pos) (eC (.int r)) :=
  (e_op op_pow opd_pow e_int.toB e_int.toB).conv fun env k h => ⟨hc, by show k (.int (b ^ e.toNat)); rw [hr]; exact h⟩
def tPS (fr : Bool) (p : PSt) : TS := fun G σ H => ∃ z X H0 env k, Ok z X H0 H σ env ∧ Sim fr z X H0 (Ms z X σ env) H G k ∧ p env k
theorem B.pss {fr : Bool} {C : Cx} {sts : List Stmt} {p : PSt} (h : B fr C sts p) : PSs C sts (tPS fr p) := by
  obtain ⟨t, h1, h2⟩ := h
  exact ⟨fun pins s σ H G I ⟨z, X, H0, env, k, o, c, hp⟩ => h1.run pins s σ H G I (h2 z X H0 H σ env G k o c hp)⟩
theorem rs_tPS {fr : Bool} {p : PSt} : RS fr (tPS fr p) p := fun z X H0 H σ env G k o c hp => ⟨z, X, H0, env, k, o, c, hp⟩
end Pu
namespace Pu
open PySem PySem.Spec PyProof.Rows L2
variable [Tbs]
section
variable {C : Cx} {e tg : Expr} {p q : PX} {m : Mode} {fr : Bool} {pos pp : Pos}
/-- a statement that is never come to -/
def sNever : PSt := fun _ _ => False
theorem s_never {st : Stmt} : S fr C st sNever := ⟨_, ps_never, fun _ _ _ _ _ _ _ _ _ _ h => h.elim⟩
/-! enumerate -/
def enumD (j : Int) (xs : List D) : List D := (List.range xs.length).map fun i => .tup [.int (j + (i : Nat)), (xs[i]?).getD .non]
def enK (d s : D) (k : List D → Prop) : Prop := match d, s with
  | .tup xs, .int j => (-100000 < j ∧ j < 100000) ∧ k (enumD j xs)
  | _, _ => False
def iEnumS (p q : PX) : PIt := fun env k => p env fun d => q env fun s => enK d s k
/-- reversed(range(n)) -/
def revD (n : Nat) : List D := (List.range n).map fun i => .int ((n : Int) - 1 - (i : Nat))
def rvK (d : D) (k : List D → Prop) : Prop := match d with
  | .int j => (-100000 < j ∧ j < 100000) ∧ k (revD j.toNat)
  | _ => False
def iRev1 (p : PX) : PIt := fun env k => p env fun d => rvK d k
/-- x += e, whole numbers -/
def sAug (i : Nat) (p : PX) : PSt := fun env k => match env[i]? with
  | some (.val (.int a)) => p env fun d => inK d fun b => k.nx (env.set i (.val (.int (a + b))))
  | _ => False
end
end Pu
namespace Pu
open PySem PySem.Spec PyProof.Rows L2
variable [Tbs]
section
variable {C : Cx} {e tg : Expr} {p q : PX} {m : Mode} {fr : Bool} {pos pp : Pos}
def en0K (d : D) (k : List D → Prop) : Prop := match d with
  | .tup xs => k (enumD 0 xs)
  | .lst xs => k (enumD 0 xs)
  | _ => False
def iEnum0 (p : PX) : PIt := fun env k => p env fun d => en0K d k
/-- x.insert(i, e) -/
def sInsert (i : Nat) (pi pe : PX) : PSt := fun env k => match env[i]? with
  | some (.own (.lst xs)) => pi env fun d => pe env fun y => inK d fun n => (0 ≤ n ∧ n < 100000 ∧ xs.length ≤ 100000) ∧ k.nx (env.set i (.own (.lst (xs.take n.toNat ++ [y] ++ xs.drop n.toNat))))
  | _ => False
end
end Pu
namespace Pu
open PySem PySem.Spec PyProof.Rows L2
variable [Tbs]
/-! min of a list of tuples of whole numbers -/
theorem isa_ints {z : Zn} {M : AP} {H : Hp} : ∀ {vs : List V} {es : List Int}, IsA z M H vs (es.map D.int) → vs = es.map V.int
  | [], [], _ => rfl
  | v :: vs, e :: es, h => by
    cases h with
    | cons h1 h2 =>
      cases h1
      rw [isa_ints h2]
      rfl
/-! ### expressions that change what a slot owns -/
abbrev PMX := List SV → (List SV → D → Prop) → Prop
abbrev PMA := List SV → (List SV → List D → Prop) → Prop
section
variable {C : Cx} {fr : Bool} {m : Mode} {e : Expr} {es : List Expr} {p : PX} {pos pp : Pos}
def mE (p : PX) : PMX := fun env k => p env fun d => k env d
def mNil : PMA := fun env k => k env []
def mCons (p : PMX) (q : PMA) : PMA := fun env k => p env fun env1 d => q env1 fun env2 ds => k env2 (d :: ds)
def mLst (q : PMA) : PMX := fun env k => q env fun env1 ds => ds.length ≤ 100000 ∧ k env1 (.lst ds)
def mTup (q : PMA) : PMX := fun env k => q env fun env1 ds => ds.length ≤ 100000 ∧ k env1 (.tup ds)
def sSetM (i : Nat) (p : PMX) : PSt := fun env k => p env fun env1 d => k.nx (env1.set i (.val d))
/-- x.pop(e), x.pop() -/
def mPop (i : Nat) (p : PX) : PMX := fun env k => match env[i]? with
  | some (.own (.lst xs)) => p env fun d => inK d fun n => (-100000 < n ∧ n < 100000) ∧ ∃ jj y, seqIndex? n xs.length = some jj ∧ xs[jj]? = some y ∧ k (env.set i (.own (.lst (xs.eraseIdx jj)))) y
  | _ => False
def mPop0 (i : Nat) : PMX := fun env k => match env[i]? with
  | some (.own (.lst xs)) => ∃ y, xs[xs.length - 1]? = some y ∧ k (env.set i (.own (.lst xs.dropLast))) y
  | _ => False
theorem sSeq_setM {i : Nat} {p : PMX} {Q : PSt} {env : List SV} {K : PK'} (h : sSetM i p env { K with nx := fun env' => Q env' K }) : sSeq (sSetM i p) Q env K := h
theorem sSetM_i {i : Nat} {p : PMX} {env : List SV} {K : PK'} (h : p env fun env1 d => K.nx (env1.set i (.val d))) : sSetM i p env K := h
theorem mE_i {p : PX} {env : List SV} {k : List SV → D → Prop} (h : p env fun d => k env d) : mE p env k := h
theorem mNil_i {env : List SV} {k : List SV → List D → Prop} (h : k env []) : mNil env k := h
theorem mCons_i {p : PMX} {q : PMA} {env : List SV} {k : List SV → List D → Prop} (h : p env fun env1 d => q env1 fun env2 ds => k env2 (d :: ds)) : mCons p q env k := h
theorem mLst_i {q : PMA} {env : List SV} {k : List SV → D → Prop} (h : q env fun env1 ds => ds.length ≤ 100000 ∧ k env1 (.lst ds)) : mLst q env k := h
theorem mTup_i {q : PMA} {env : List SV} {k : List SV → D → Prop} (h : q env fun env1 ds => ds.length ≤ 100000 ∧ k env1 (.tup ds)) : mTup q env k := h
theorem mPop_i {i : Nat} {p : PX} {env : List SV} {xs : List D} {k : List SV → D → Prop} (e : env[i]? = some (.own (.lst xs))) (h : p env fun d => inK d fun n => (-100000 < n ∧ n < 100000) ∧ ∃ jj y, seqIndex? n xs.length = some jj ∧ xs[jj]? = some y ∧ k (env.set i (.own (.lst (xs.eraseIdx jj)))) y) : mPop i p env k := by unfold mPop; rw [e]; exact h
theorem mPop0_i {i : Nat} {env : List SV} {xs : List D} {k : List SV → D → Prop} (e : env[i]? = some (.own (.lst xs))) (h : ∃ y, xs[xs.length - 1]? = some y ∧ k (env.set i (.own (.lst xs.dropLast))) y) : mPop0 i env k := by unfold mPop0; rw [e]; exact h
end
/-! ### zip of two lists, of two tuples -/
def zipD (xs ys : List D) : List D := (xs.zip ys).map fun p => .tup [p.1, p.2]
theorem zipD_get {xs ys : List D} {i : Nat} {d : D} (h : (zipD xs ys)[i]? = some d) : ∃ x y, xs[i]? = some x ∧ ys[i]? = some y ∧ d = .tup [x, y] := by
  unfold zipD at h
  rw [List.getElem?_map] at h
  cases q : (xs.zip ys)[i]? with
  | none => rw [q] at h; cases h
  | some p =>
    rw [q] at h
    cases h
    obtain ⟨h1, h2⟩ := List.getElem?_zip_eq_some.mp q
    exact ⟨p.1, p.2, h1, h2, rfl⟩
theorem zipD_len {xs ys : List D} : (zipD xs ys).length = min xs.length ys.length := by simp [zipD]
theorem pair2_is {z : Zn} {M : AP} {H : Hp} {T : Addr} {x y : V} {d e : D} (hT : H T = none) (hM : ¬ M T) (h : Is z M H x d) (g : Is z M H y e) : Is z M (upd H T (.tup [x, y])) (.ref T) (.tup [d, e]) :=
  .tup upd_same hM (.cons (h.new hT) (.cons (g.new hT) .nil))
theorem yl_zipL {z : Zn} {X : AP} {M : AP} {H : Hp} {K : PySem.W.Frag} {a b : Addr} {vs us : List V} {ds es : List D} (h : H a = some (.lst vs)) (n : ¬ M a) (r : IsA z M H vs ds) (h2 : H b = some (.lst us)) (n2 : ¬ M b) (r2 : IsA z M H us es) : Yields z X M H (Itz K a b) (zipD ds es) := fun M' H' f => by
  have h' := (f.old a _ h n).1
  have r' := f.isA r
  have h2' := (f.old b _ h2 n2).1
  have r2' := f.isA r2
  have hl := r'.length
  have hl2 := r2'.length
  refine ⟨⟨vs, us, SqL.of h', SqL.of h2', by rw [hl, hl2, zipD_len]; omega⟩, fun i d hd => ?_⟩
  obtain ⟨x, y, hx, hy, rfl⟩ := zipD_get hd
  obtain ⟨v, q1, q2⟩ := r'.get hx
  obtain ⟨u, p1, p2⟩ := r2'.get hy
  refine ⟨⟨vs, us, v, u, SqL.of h', SqL.of h2', q1, p1⟩, fun w H2 yy => ?_⟩
  obtain ⟨T, x', y', rfl, hT, rfl, hx', hy'⟩ := yy
  have e := hx' vs (SqL.of h')
  rw [q1] at e
  cases e
  have e := hy' us (SqL.of h2')
  rw [p1] at e
  cases e
  exact ⟨(Evo.refl _ _).new hT, fun _ fm => pair2_is hT (fm T hT) q2 p2⟩
/-! ### sum, max, min of a list or a tuple of whole numbers -/
/-! ### (x,) * n -/
end Pu
namespace Pu
open PySem PySem.Spec PyProof.Rows L2
variable [Tbs]
/-! ### dicts by whole numbers, owned -/
def valD (kvs : List (Key × D)) (k : Key) : Option D := (kvs.find? fun kv => decide (kv.1 = k)).map (·.2)
def putD (kvs : List (Key × D)) (k : Key) (d : D) : List (Key × D) :=
  if (kvs.any fun kv => decide (kv.1 = k)) = true then kvs.map (fun kv => if kv.1 = k then (kv.1, d) else kv) else kvs ++ [(k, d)]
section
variable {z : Zn} {M : AP} {H : Hp}
theorem IsK.len : ∀ {vs : List (Key × V)} {ds : List (Key × D)}, IsK z M H vs ds → vs.length = ds.length
  | _, _, .nil => rfl
  | _, _, .cons _ t => congrArg Nat.succ (IsK.len t)
theorem IsK.val (k : Key) : ∀ {vs : List (Key × V)} {ds : List (Key × D)}, IsK z M H vs ds → (valD ds k = none → valV vs k = none) ∧ (∀ d, valD ds k = some d → ∃ v, valV vs k = some v ∧ Is z M H v d)
  | _, _, .nil => ⟨fun _ => rfl, fun d h => by cases h⟩
  | _, _, .cons (k := k') (v := v) (d := d) (vs := vs) (ds := ds) h t => by
    have ih := IsK.val k t
    by_cases e : k' = k
    · rw [valV_pos (p := (k', v)) (r := vs) e, show valD ((k', d) :: ds) k = some d by simp [valD, List.find?_cons, e]]
      refine ⟨fun q => (by cases q), fun d' q => ?_⟩
      cases q
      exact ⟨v, rfl, h⟩
    · rw [valV_neg (p := (k', v)) (r := vs) e, show valD ((k', d) :: ds) k = valD ds k by simp [valD, List.find?_cons, e]]
      exact ih
theorem IsK.any (k : Key) : ∀ {vs : List (Key × V)} {ds : List (Key × D)}, IsK z M H vs ds → (vs.any fun kv => decide (kv.1 = k)) = ds.any fun kv => decide (kv.1 = k)
  | _, _, .nil => rfl
  | _, _, .cons h t => by rw [List.any_cons, List.any_cons, IsK.any k t]
theorem IsK.mapP {k : Key} {v : V} {d : D} (hv : Is z M H v d) : ∀ {vs : List (Key × V)} {ds : List (Key × D)}, IsK z M H vs ds → IsK z M H (vs.map fun kv => if kv.1 = k then (kv.1, v) else kv) (ds.map fun kv => if kv.1 = k then (kv.1, d) else kv)
  | _, _, .nil => .nil
  | _, _, .cons (k := k') h t => by
    rw [List.map_cons, List.map_cons]
    by_cases e : k' = k
    · rw [if_pos e, if_pos e]
      exact .cons hv (IsK.mapP hv t)
    · rw [if_neg e, if_neg e]
      exact .cons h (IsK.mapP hv t)
theorem IsK.snoc {k : Key} {v : V} {d : D} (hv : Is z M H v d) : ∀ {vs : List (Key × V)} {ds : List (Key × D)}, IsK z M H vs ds → IsK z M H (vs ++ [(k, v)]) (ds ++ [(k, d)])
  | _, _, .nil => .cons hv .nil
  | _, _, .cons h t => .cons h (IsK.snoc hv t)
theorem IsK.put {k : Key} {v : V} {d : D} {vs : List (Key × V)} {ds : List (Key × D)} (h : IsK z M H vs ds) (hv : Is z M H v d) : IsK z M H (putK vs k v) (putD ds k d) := by
  unfold putK putD
  rw [h.any k]
  split
  · exact h.mapP hv
  · exact h.snoc hv
end
section
variable {C : Cx} {fr : Bool} {m : Mode} {e a b : Expr} {p q : PX} {pos pp : Pos}
def eDic0 : PX := fun _ k => k (.dic [])
theorem e_dic0 : E .f C (.Dict [] [] pos) eDic0 := ⟨_, pe_dnewK, fun z X H0 H σ env Q k o c hp => fun q hq => c (.dic []) (.ref q) _ ((Evo.refl _ _).new hq) ⟨q, rfl, hq, [], upd_same, .nil⟩ hp⟩
/-- x[i] = e, x a dict -/
def sDput (i : Nat) (pi pe : PX) : PSt := fun env k => pe env fun y => match env[i]? with
  | some (.own (.dic kvs)) => pi env fun d => inK d fun n => kvs.length ≤ 100000 ∧ k.nx (env.set i (.own (.dic (putD kvs (.inl n) y))))
  | _ => False
theorem s_dput (i : Nat) {x : Str} {ix : Expr} {spos : Pos} (hu : C.A.units + 1 < cLine) (he : E .e C e p) (hi : E m C ix q) (hN : C.N[i]? = some x := by rfl) (hv : Vis C.env.scope x := by first | exact Or.inl rfl | exact Or.inr (Or.inl rfl) | exact Or.inr (Or.inr rfl)) (hd : (x == ("__debug__" : Str)) = false := by decide)
    (hcd : (x == ("__classdict__" : Str)) = false := by decide) (hs : swapsWith e (some (.Subscript (.Name x pp) ix spos)) pos.line C.env = pure false := by rfl) : S fr C (.Assign [.Subscript (.Name x pp) ix spos] e pos) (sDput i q p) := by
  obtain ⟨t, h1, h2⟩ := he
  obtain ⟨u, g1, g2⟩ := hi.toB
  refine ⟨_, ps_dput hu (pe_var hN hv hd hcd) g1 h1 hs, fun z X H0 H σ env G k o s hp => ?_⟩
  refine h2 z X H0 H σ env _ _ o (fun y v H1 e1 r1 hx => ?_) hp
  have o1 := o.go e1
  split at hx
  · rename_i kvs hk
    obtain ⟨ad, q1, ⟨vs, q5, q6⟩, q3, q4⟩ := o1.own i _ hk
    refine ⟨_, q1, g2 z X H0 H1 σ env _ _ o1 (fun d w H2 e2 r2 hy => ?_) hx⟩
    cases d with
    | int n =>
      cases Is.intI r2
      obtain ⟨hl, hy⟩ := hy
      have o2 := o1.go e2
      have q5' := e2.old ad _ q5 q3
      have q6' : IsK z (Ms z X σ env) H2 vs kvs := q6.gen (fun b ob qb nb => ⟨e2.old b ob qb fun w => nb (.inl w), nb⟩) e2.dk
      have r1' : Is z (Ms z X σ env) H2 v y := Is.evo (fun _ q => .inl q) e2 r1
      have hlen := q6.len
      refine ⟨ad, _, rfl, DPut.k (k := Sum.inl n) q5' (by rw [hlen, sizeLine_eq]; omega), ?_⟩
      have ia : Ms z X σ env ad := .inr (.inr ⟨i, _, hk, q1⟩)
      obtain ⟨o3, f3⟩ := o2.mut (d' := .dic (putD kvs (.inl n) y)) (o := .dK (putK vs (.inl n) v)) hk q1 ⟨_, upd_same, (q6'.put r1').gen (fun b u hb nb => ⟨by rw [upd_ne (fun w => nb (by rw [w]; exact ia))]; exact hb, nb⟩) fun b hb => ok_mut q3 hb⟩
      exact s.nx _ _ _ o3 ((o.fr (e1.trans e2)).trans f3) hy
    | _ => exact (show False from hy).elim
  · exact hx.elim
/-- x[k], k in x, x an owned dict -/
def dDget : D → D → (D → Prop) → Prop := fun x y k => match x, y with
  | .dic kvs, .int n => ∃ d, valD kvs (.inl n) = some d ∧ k d
  | _, _ => False
def dDin : D → D → (D → Prop) → Prop := fun x y k => match x, y with
  | .int n, .dic kvs => k (.bl (valD kvs (.inl n)).isSome)
  | _, _ => False
theorem Rel.conD {z : Zn} {X : AP} {H H' : Hp} {σ : Sl} {env : List SV} {v : V} {xs : List (Key × D)} (h : Rel .c z X H H' σ env v (.dic xs)) : ∃ a vs, v = .ref a ∧ H' a = some (.dK vs) ∧ IsK z (Ms z X σ env) H' vs xs := by
  rcases h with h | ⟨a, rfl, ⟨vs, e, r⟩, n, md⟩
  · cases h with
    | dic e n r => exact ⟨_, _, rfl, e, r⟩
  · exact ⟨a, vs, rfl, e, r⟩
theorem e_dgetO (hu : C.A.units + 1 < cLine) (ha : E .c C a p) (hb : E .c C b q) (hs : NoSl b := by exact fun _ _ => rfl) : E .e C (.Subscript a b pos) (eOp dDget p q) := by
  obtain ⟨ta, a1, a2⟩ := ha
  obtain ⟨tb, b1, b2⟩ := hb
  refine ⟨_, pe_dget hu a1 b1 hs, fun z X H0 H σ env Q k o c hp => a2 z X H0 H σ env _ _ o (fun x v H1 e1 r1 hp1 => b2 z X H0 H1 σ env _ _ (o.go e1) (fun y u H2 e2 r2 hp2 => ?_) hp1) hp⟩
  have r1' := r1.evo o e2 e1
  cases x with
  | dic kvs =>
    cases y with
    | int n =>
      obtain ⟨d, hd, hk⟩ := hp2
      obtain ⟨ad, vs, rfl, h1, h2⟩ := Rel.conD r1'
      obtain ⟨w, hw, iw⟩ := (h2.val (.inl n)).2 d hd
      cases r2.intC
      exact ⟨ad, w, rfl, hw ▸ DGet.k (k := Sum.inl n) h1, c d w H2 (e1.trans e2) iw hk⟩
    | _ => exact (show False from hp2).elim
  | _ => exact (show False from hp2).elim
theorem dDget_i {kvs : List (Key × D)} {n : Int} {d : D} {k : D → Prop} (e : valD kvs (.inl n) = some d) (h : k d) : dDget (.dic kvs) (.int n) k := ⟨d, e, h⟩
theorem dDin_i {kvs : List (Key × D)} {n : Int} {k : D → Prop} (h : k (.bl (valD kvs (.inl n)).isSome)) : dDin (.int n) (.dic kvs) k := h
theorem eO_d {i : Nat} {env : List SV} {kvs : List (Key × D)} {k : D → Prop} (e : env[i]? = some (.own (.dic kvs))) (h : k (.dic kvs)) : eO i env k := by unfold eO; rw [e]; exact h
theorem sDput_i {i : Nat} {pi pe : PX} {env : List SV} {kvs : List (Key × D)} {K : PK'} (e : env[i]? = some (.own (.dic kvs))) (h : pe env fun y => pi env fun d => inK d fun n => kvs.length ≤ 100000 ∧ K.nx (env.set i (.own (.dic (putD kvs (.inl n) y))))) : sDput i pi pe env K := by
  unfold sDput
  rw [e]
  exact h
end
/-! ### a statement by its reading, between statements by hand -/
/-! ### sorted(set(t)), t a tuple of whole numbers -/
end Pu
namespace Pu
open PySem PySem.Spec PyProof.Rows L2
variable [Tbs]
/-! ### going through a reading, step by step -/
section
variable {env : List SV} {k : D → Prop} {K : PK'} {p q r : PX} {s t : PTs'} {P Q : PSt} {d : D} {ds xs ys : List D} {i n : Nat} {a b c : Int} {g : PAs}
theorem sSeq_i (h : P env { K with nx := fun env' => Q env' K }) : sSeq P Q env K := h
theorem sSeq_mid (Mid : List SV → Prop) (h : ∀ N : List SV → Prop, (∀ e, Mid e → N e) → P env { K with nx := N }) (h2 : ∀ e, Mid e → Q e K) : sSeq P Q env K := h _ h2
theorem sSeq_set (h : sSet i p env { K with nx := fun env' => Q env' K }) : sSeq (sSet i p) Q env K := h
theorem sSeq_own (h : sOwn i p env { K with nx := fun env' => Q env' K }) : sSeq (sOwn i p) Q env K := h
theorem sSeq_asg {gt : PGt} (h : sAsg p gt env { K with nx := fun env' => Q env' K }) : sSeq (sAsg p gt) Q env K := h
theorem sSeq_par {j : Nat} (h : sPar i j g env { K with nx := fun env' => Q env' K }) : sSeq (sPar i j g) Q env K := h
theorem sSeq_app (h : sAppend i p env { K with nx := fun env' => Q env' K }) : sSeq (sAppend i p) Q env K := h
theorem sSeq_put (h : sPut i p q env { K with nx := fun env' => Q env' K }) : sSeq (sPut i p q) Q env K := h
theorem sSeq_pop {j : Nat} (h : sPopAt j i p env { K with nx := fun env' => Q env' K }) : sSeq (sPopAt j i p) Q env K := h
theorem sSeq_drop (h : sDrop p env { K with nx := fun env' => Q env' K }) : sSeq (sDrop p) Q env K := h
theorem sSeq_for {it : PIt} {gt : PGt} (h : sFor it gt P env { K with nx := fun env' => Q env' K }) : sSeq (sFor it gt P) Q env K := h
theorem sSeq_ifr (h : sIf s (sRet p) sNext env { K with nx := fun env' => Q env' K }) : sSeq (sIf s (sRet p) sNext) Q env K := h
theorem sSeq_ifn (h : sIf s sRetN sNext env { K with nx := fun env' => Q env' K }) : sSeq (sIf s sRetN sNext) Q env K := h
theorem sNext_i (h : K.nx env) : sNext env K := h
theorem sSet_i (h : p env fun d => K.nx (env.set i (.val d))) : sSet i p env K := h
theorem sOwn_i (h : p env fun d => i < env.length ∧ K.nx (env.set i (.own d))) : sOwn i p env K := h
theorem sRet_i (h : p env K.rt) : sRet p env K := h
theorem sRetO_i (e : env[i]? = some (.own d)) (h : K.rt d) : sRetO i env K := by unfold sRetO; rw [e]; exact h
theorem sRetN_i (h : K.rt .non) : sRetN env K := h
theorem sDrop_i (h : p env fun _ => K.nx env) : sDrop p env K := h
theorem sIf_i (h : s env fun b => if b = true then P env K else Q env K) : sIf s P Q env K := h
theorem sAsg_i {gt : PGt} (h : p env fun d => gt d env K.nx) : sAsg p gt env K := h
theorem sPar_i {j : Nat} (h : g env fun ds => prK ds fun c d => K.nx ((env.set i (.val c)).set j (.val d))) : sPar i j g env K := h
theorem prK_i {e : D} {k : D → D → Prop} (h : k d e) : prK [d, e] k := h
theorem nx_i {f f' f'' : List SV → Prop} {g : D → Prop} (h : f env) : PK'.nx { nx := f, rt := g, bk := f', ct := f'' } env := h
theorem bk_i {f f' f'' : List SV → Prop} {g : D → Prop} (h : f' env) : PK'.bk { nx := f, rt := g, bk := f', ct := f'' } env := h
theorem ct_i {f f' f'' : List SV → Prop} {g : D → Prop} (h : f'' env) : PK'.ct { nx := f, rt := g, bk := f', ct := f'' } env := h
theorem rt_i {f f' f'' : List SV → Prop} {g : D → Prop} (h : g d) : PK'.rt { nx := f, rt := g, bk := f', ct := f'' } d := h
theorem blK_i {b : Bool} {k : Bool → Prop} (h : k b) : blK (.bl b) k := h
theorem inK_i {k : Int → Prop} (h : k a) : inK (.int a) k := h
theorem sqK_t {k : List D → Prop} (h : k xs) : sqK (.tup xs) k := h
theorem sqK_l {k : List D → Prop} (h : k xs) : sqK (.lst xs) k := h
theorem sFrz_i (e : env[i]? = some (.own d)) (h : P (env.set i (.val d)) K) : sFrz i P env K := by unfold sFrz frz; rw [e]; exact h
theorem sFor_i {it : PIt} {gt : PGt} (h : it env fun ds => forP gt P ds env K) : sFor it gt P env K := h
theorem sAppend_i (e : env[i]? = some (.own (.lst xs))) (h : p env fun d => xs.length ≤ 100000 ∧ K.nx (env.set i (.own (.lst (xs ++ [d]))))) : sAppend i p env K := by unfold sAppend; rw [e]; exact h
theorem eC_i (h : k d) : eC d env k := h
theorem eV_i (e : env[i]? = some (.val d)) (h : k d) : eV i env k := by unfold eV; rw [e]; exact h
theorem eO_i (e : env[i]? = some (.own (.lst xs))) (h : k (.lst xs)) : eO i env k := by unfold eO; rw [e]; exact h
theorem eOp_i {o : D → D → (D → Prop) → Prop} (h : p env fun x => q env fun y => o x y k) : eOp o p q env k := h
theorem eUn_i {o : D → (D → Prop) → Prop} (h : p env fun x => o x k) : eUn o p env k := h
theorem eChain_i {o o' : D → D → (D → Prop) → Prop} (h : p env fun x => q env fun y => o x y fun w => bCase w (r env fun u => o' y u k) (k (.bl false))) : eChain o o' p q r env k := h
theorem bCase_t {A B : Prop} (h : A) : bCase (.bl true) A B := h
theorem bCase_f {A B : Prop} (h : B) : bCase (.bl false) A B := h
theorem eAnd_i (h : p env fun x => bCase x (q env k) (k (.bl false))) : eAnd p q env k := h
theorem eOr_i (h : p env fun x => bCase x (k (.bl true)) (q env k)) : eOr p q env k := h
theorem eIf_i (h : s env fun x => if x = true then p env k else q env k) : eIf s p q env k := h
theorem eTup_i (h : g env fun xs => xs.length ≤ 100000 ∧ k (.tup xs)) : eTup g env k := h
theorem eLst_i (h : g env fun xs => xs.length ≤ 100000 ∧ k (.lst xs)) : eLst g env k := h
theorem eCall_i {o : List D → (D → Prop) → Prop} (h : g env fun ds => o ds k) : eCall o g env k := h
theorem aNil_i {k : List D → Prop} (h : k []) : aNil env k := h
theorem aCons_i {k : List D → Prop} (h : p env fun x => g env fun xs => k (x :: xs)) : aCons p g env k := h
theorem tOf_i {k : Bool → Prop} (h : p env fun d => blK d k) : tOf p env k := h
theorem tAndP_i {k : Bool → Prop} (h : s env fun x => if x = true then t env k else k false) : tAndP s t env k := h
theorem tOrP_i {k : Bool → Prop} (h : s env fun x => if x = true then k true else t env k) : tOrP s t env k := h
theorem tNotP_i {k : Bool → Prop} (h : s env fun x => k (!x)) : tNotP s env k := h
theorem dI0_i {f : Int → Int → D} (h : k (f a b)) : dI0 f (.int a) (.int b) k := h
theorem dII_i {C : Int → Int → Prop} {f : Int → Int → D} (c : C a b) (h : k (f a b)) : dII C f (.int a) (.int b) k := ⟨c, h⟩
theorem dAdd_i (h : k (.int (a + b))) : dAdd (.int a) (.int b) k := h
theorem dAdd_t (hl : xs.length + ys.length ≤ 100000) (h : k (.tup (xs ++ ys))) : dAdd (.tup xs) (.tup ys) k := ⟨hl, h⟩
theorem dAdd_l (hl : xs.length + ys.length ≤ 100000) (h : k (.lst (xs ++ ys))) : dAdd (.lst xs) (.lst ys) k := ⟨hl, h⟩
theorem dIx_t (e : atI xs a = some d) (h : k d) : dIx (.tup xs) (.int a) k := ⟨d, e, h⟩
theorem dIx_l (e : atI xs a = some d) (h : k d) : dIx (.lst xs) (.int a) k := ⟨d, e, h⟩
theorem dIx_in (h0 : 0 ≤ a) (h1 : a < xs.length) (h : ∀ d ∈ xs, k d) : dIx (.lst xs) (.int a) k := by
  have hl : a.toNat < xs.length := by omega
  refine ⟨xs[a.toNat], ?_, h _ (List.getElem_mem hl)⟩
  unfold atI ixN
  rw [if_pos h0, if_pos h1]
  exact List.getElem?_eq_getElem hl
theorem dNeg_i (h : k (.int (-a))) : dNeg (.int a) k := h
theorem dNot_i {c : Bool} (h : k (.bl (!c))) : dNot (.bl c) k := h
theorem dTuple_l (h : k (.tup xs)) : dTuple (.lst xs) k := h
theorem dTuple_t (h : k (.tup xs)) : dTuple (.tup xs) k := h
theorem dList_l (h : k (.lst xs)) : dList (.lst xs) k := h
theorem dList_t (h : k (.lst xs)) : dList (.tup xs) k := h
theorem dRevL_i (h : k (.lst xs.reverse)) : dRevL (.lst xs) k := h
theorem gMax_2 (h : k (.int (max a b))) : gMaxN [.int a, .int b] k := h
theorem gMax_3 (h : k (.int (max a (max b c)))) : gMaxN [.int a, .int b, .int c] k := h
theorem gMax_4 {d : Int} (h : k (.int (max a (max b (max c d))))) : gMaxN [.int a, .int b, .int c, .int d] k := h
theorem gMax_5 {d e : Int} (h : k (.int (max a (max b (max c (max d e)))))) : gMaxN [.int a, .int b, .int c, .int d, .int e] k := h
theorem gMin_2 (h : k (.int (min a b))) : gMinN [.int a, .int b] k := h
theorem gMin_3 (h : k (.int (min a (min b c)))) : gMinN [.int a, .int b, .int c] k := h
theorem gMin_4 {d : Int} (h : k (.int (min a (min b (min c d))))) : gMinN [.int a, .int b, .int c, .int d] k := h
theorem gAbs_i (h : k (.int (max a (-a)))) : gAbs [.int a] k := by
  show k (.int (if a < 0 then -a else a))
  rw [show (if a < 0 then -a else a) = max a (-a) by split <;> omega]
  exact h
theorem gLen_t (h : k (.int xs.length)) : gLen [.tup xs] k := h
theorem gLen_l (h : k (.int xs.length)) : gLen [.lst xs] k := h
theorem gInt_i (h : k (.int a)) : gInt [.int a] k := h
theorem gInt_b {c : Bool} (h : k (.int (if c then 1 else 0))) : gInt [.bl c] k := h
theorem gIsi_i {n t : String} {c : Bool} (e1 : tyD d = some t) (e2 : isB t n = some c) (h : k (.bl c)) : gIsi [d, .ty n] k := ⟨t, c, e1, e2, h⟩
theorem gMaxL_i {ns : List Int} (e : intsD xs = some ns) (hn : ns ≠ []) (h : k (.int (maxI ns))) : gMaxL [.lst xs] k := ⟨xs, ns, rfl, e, hn, h⟩
theorem gMinL_i {ns : List Int} (e : intsD xs = some ns) (hn : ns ≠ []) (h : k (.int (minI ns))) : gMinL [.lst xs] k := ⟨xs, ns, rfl, e, hn, h⟩
theorem gSum_i {ns : List Int} (e : intsD xs = some ns) (h : k (.int ns.sum)) : gSum [.lst xs] k := ⟨xs, ns, rfl, e, h⟩
theorem gtName_i {k : List SV → Prop} (h : k (env.set i (.val d))) : gtName i d env k := h
theorem gtTup_i {k : List SV → Prop} {gs : PGs'} (hn : ds.length = n) (h : gs ds env k) : gtTup n gs (.tup ds) env k := ⟨hn, h⟩
theorem gtCons_i {k : List SV → Prop} {gt : PGt} {gs : PGs'} (h : gt d env fun env' => gs ds env' k) : gtCons gt gs (d :: ds) env k := h
theorem gtNil_i {k : List SV → Prop} (h : k env) : gtNil [] env k := h
theorem iRange1_i {k : List D → Prop} (h : g env fun ds => rgK1 ds k) : iRange1 g env k := h
theorem iRange2_i {k : List D → Prop} (h : g env fun ds => rgK2 ds k) : iRange2 g env k := h
theorem rgK1_i {k : List D → Prop} (h1 : -100000 < a) (h2 : a < 100000) (h : k (rangeD 0 a.toNat)) : rgK1 [.int a] k := ⟨h1, h2, h⟩
theorem rgK2_i {k : List D → Prop} (h1 : -100000 < a ∧ a < 100000 ∧ -100000 < b ∧ b < 100000) (h : k (rangeD a (b - a).toNat)) : rgK2 [.int a, .int b] k := ⟨h1, h⟩
theorem iSeq_i {k : List D → Prop} (h : p env fun d => sqK d k) : iSeq p env k := h
theorem iEnumS_i {k : List D → Prop} (h : p env fun d => q env fun s => enK d s k) : iEnumS p q env k := h
theorem iEnum0_i {k : List D → Prop} (h : p env fun d => en0K d k) : iEnum0 p env k := h
theorem en0K_t {k : List D → Prop} (h : k (enumD 0 xs)) : en0K (.tup xs) k := h
theorem en0K_l {k : List D → Prop} (h : k (enumD 0 xs)) : en0K (.lst xs) k := h
theorem iRev1_i {k : List D → Prop} (h : p env fun d => rvK d k) : iRev1 p env k := h
theorem sAug_i (e : env[i]? = some (.val (.int a))) (h : p env fun d => inK d fun b => K.nx (env.set i (.val (.int (a + b))))) : sAug i p env K := by unfold sAug; rw [e]; exact h
theorem sInsert_i (e : env[i]? = some (.own (.lst xs))) (h : p env fun d => q env fun y => inK d fun n => (0 ≤ n ∧ n < 100000 ∧ xs.length ≤ 100000) ∧ K.nx (env.set i (.own (.lst (xs.take n.toNat ++ [y] ++ xs.drop n.toNat))))) : sInsert i p q env K := by unfold sInsert; rw [e]; exact h
theorem sPopAt_i {j : Nat} (e : env[i]? = some (.own (.lst xs))) (h : p env fun d => inK d fun n => (-100000 < n ∧ n < 100000) ∧ ∃ jj y, seqIndex? n xs.length = some jj ∧ xs[jj]? = some y ∧ K.nx ((env.set i (.own (.lst (xs.eraseIdx jj)))).set j (.val y))) : sPopAt j i p env K := by unfold sPopAt; rw [e]; exact h
theorem sSeq_ins (h : sInsert i p q env { K with nx := fun env' => Q env' K }) : sSeq (sInsert i p q) Q env K := h
theorem sSeq_aug (h : sAug i p env { K with nx := fun env' => Q env' K }) : sSeq (sAug i p) Q env K := h
theorem eSl_i {lo hi : PO'} (h : p env fun x => lo env fun i => hi env fun j => dSl x i j k) : eSl p lo hi env k := h
theorem oNo_i {k : Option Int → Prop} (h : k none) : oNo env k := h
theorem oPart_i {k : Option Int → Prop} (h : p env fun d => inK d fun i => k (some i)) : oPart p env k := h
theorem dSl_t {lo hi : Option Int} (h : k (.tup (cutD xs lo hi))) : dSl (.tup xs) lo hi k := h
theorem dSl_l {lo hi : Option Int} (h : k (.lst (cutD xs lo hi))) : dSl (.lst xs) lo hi k := h
theorem eRg1_i {f : List D → D} (h : p env fun x => dRg f (.int 0) x k) : eRg1 f p env k := h
theorem dRg_i {f : List D → D} (hb : 0 ≤ a ∧ a < 100000 ∧ 0 ≤ b ∧ b < 100000) (h : k (f (rangeD a (b - a).toNat))) : dRg f (.int a) (.int b) k := ⟨hb, h⟩
theorem dEq_i (hx : pln 60 d = true) {e : D} (he : pln 60 e = true) (h : ∀ c : Bool, (c = true ↔ d = e) → k (.bl c)) : dEq d e k := ⟨_, ⟨pln_shp _ _ hx, pln_shp _ _ he, rfl⟩, h _ (eqvD_iff hx he)⟩
theorem dNe_i (hx : pln 60 d = true) {e : D} (he : pln 60 e = true) (h : ∀ c : Bool, (c = true ↔ d = e) → k (.bl (!c))) : dNe d e k := ⟨_, ⟨pln_shp _ _ hx, pln_shp _ _ he, rfl⟩, h _ (eqvD_iff hx he)⟩
theorem dEq_int (h : k (.bl (decide (a = b)))) : dEq (.int a) (.int b) k := by
  refine ⟨_, ⟨rfl, rfl, rfl⟩, ?_⟩
  have e : eqvD (.int a) (.int b) = decide (a = b) := by
    unfold eqvD
    simp only [pd, PyData.eqv]
    by_cases h : a = b <;> simp [h]
  rw [e]; exact h
theorem dNe_int (h : k (.bl (!decide (a = b)))) : dNe (.int a) (.int b) k := by
  refine ⟨_, ⟨rfl, rfl, rfl⟩, ?_⟩
  have e : eqvD (.int a) (.int b) = decide (a = b) := by
    unfold eqvD
    simp only [pd, PyData.eqv]
    by_cases h : a = b <;> simp [h]
  rw [e]; exact h
theorem dNe_nil (hx : plnA 59 xs = true) (h : k (.bl (!decide (xs = [])))) : dNe (.lst xs) (.lst []) k := by
  refine dNe_i (by simp only [pln]; exact hx) rfl fun c hc => ?_
  rw [show c = decide (xs = []) from ?_]
  · exact h
  · rw [D.lst.injEq] at hc
    by_cases e : xs = []
    · rw [decide_eq_true e]; exact hc.mpr e
    · rw [decide_eq_false e]; cases c with
      | true => exact absurd (hc.mp rfl) e
      | false => rfl
theorem ite_d {c : Prop} [Decidable c] {A B : Prop} (h1 : c → A) (h2 : ¬ c → B) : if decide c = true then A else B := by
  by_cases h : c
  · rw [if_pos (decide_eq_true h)]; exact h1 h
  · rw [if_neg (by rw [decide_eq_false h]; exact Bool.false_ne_true)]; exact h2 h
theorem ite_n {c : Prop} [Decidable c] {A B : Prop} (h1 : ¬ c → A) (h2 : c → B) : if (!decide c) = true then A else B := by
  by_cases h : c
  · rw [if_neg (by rw [decide_eq_true h]; exact Bool.false_ne_true)]; exact h2 h
  · rw [if_pos (by rw [decide_eq_false h]; rfl)]; exact h1 h
theorem ite_t {A B : Prop} (h : A) : if true = true then A else B := h
theorem ite_f {A B : Prop} (h : B) : if false = true then A else B := h
theorem ite_nt {A B : Prop} (h : B) : if (!true) = true then A else B := h
theorem ite_nf {A B : Prop} (h : A) : if (!false) = true then A else B := h
theorem and_le {n m : Nat} {A : Prop} (e : Nat.ble n m = true) (h : A) : n ≤ m ∧ A := ⟨Nat.le_of_ble_eq_true e, h⟩
theorem and_lt {n m : Nat} {A : Prop} (e : Nat.ble (n + 1) m = true) (h : A) : n < m ∧ A := ⟨Nat.le_of_ble_eq_true e, h⟩
theorem and_rfl {n m : Nat} {A : Prop} (e : n = m) (h : A) : n = m ∧ A := ⟨e, h⟩
end
/-! loops -/
theorem forP_i {gt : PGt} {body : PSt} {K : PK'} (Inv : Nat → List SV → Prop) : ∀ (ds : List D) (n : Nat) {env : List SV}, Inv n env →
    (∀ i d env, ds[i]? = some d → Inv (n + i) env → ∀ N : List SV → Prop, (∀ e, Inv (n + i + 1) e → N e) → gt d env fun env1 => body env1 { nx := N, rt := K.rt, bk := K.nx, ct := N }) →
    (∀ env, Inv (n + ds.length) env → K.nx env) → forP gt body ds env K
  | [], n, env, h0, _, hd => hd env (by simpa using h0)
  | d :: ds, n, env, h0, hs, hd => by
    unfold forP
    refine hs 0 d env rfl (by simpa using h0) _ fun e he => ?_
    exact forP_i Inv ds (n + 1) (by simpa using he) (fun i d' env' hi hI N hN => by
        refine hs (i + 1) d' env' hi (by rw [show n + (i + 1) = n + 1 + i by omega]; exact hI) N fun e h => hN e ?_
        rw [show n + 1 + i + 1 = n + (i + 1) + 1 by omega]; exact h) (fun env' h => hd env' (by rw [List.length_cons, show n + (ds.length + 1) = n + 1 + ds.length by omega]; exact h))
/-- each item by a function -/
theorem lcP_m {α : Type} {pg : PGt} {pt : PTs'} {pe : PX} {env : List SV} {k : List D → Prop} (e : α → D) (f : α → D) (xs : List α) (hl : xs.length ≤ 100000)
    (hs : ∀ x ∈ xs, ∀ (A : D → Prop) (B : Prop), A (f x) → pg (e x) env fun env1 => pt env1 fun b => if b = true then pe env1 A else B) (hk : k (xs.map f)) : lcP pg pt pe env (xs.map e) [] k := by
  have go : ∀ (xs : List α) (acc : List D), acc.length + xs.length ≤ 100000 → (∀ x ∈ xs, ∀ (A : D → Prop) (B : Prop), A (f x) → pg (e x) env fun env1 => pt env1 fun b => if b = true then pe env1 A else B) → k (acc ++ xs.map f) → lcP pg pt pe env (xs.map e) acc k := by
    intro xs
    induction xs with
    | nil => intro acc _ _ hk; simp only [List.map_nil, lcP]; simpa using hk
    | cons x xs ih =>
      intro acc hl hs hk
      rw [List.map_cons]
      unfold lcP
      have hl' : acc.length + (xs.length + 1) ≤ 100000 := by simpa using hl
      refine hs x List.mem_cons_self _ _ ⟨by omega, ih _ (by rw [List.length_append, List.length_singleton]; omega) (fun y h => hs y (List.mem_cons_of_mem _ h)) (by simpa using hk)⟩
  exact go xs [] (by simpa using hl) hs (by simpa using hk)
/-- some of the items -/
theorem lcP_flt {α : Type} {pg : PGt} {pt : PTs'} {pe : PX} {env : List SV} {k : List D → Prop} (e : α → D) (c : α → Bool) (f : α → D) (xs : List α) (hl : xs.length ≤ 100000)
    (hs : ∀ x ∈ xs, ∀ (A : D → Prop) (B : Prop), (c x = true → A (f x)) → (c x = false → B) → pg (e x) env fun env1 => pt env1 fun b => if b = true then pe env1 A else B) (hk : k ((xs.filter c).map f)) : lcP pg pt pe env (xs.map e) [] k := by
  have go : ∀ (xs : List α) (acc : List D), acc.length + xs.length ≤ 100000 → (∀ x ∈ xs, ∀ (A : D → Prop) (B : Prop), (c x = true → A (f x)) → (c x = false → B) → pg (e x) env fun env1 => pt env1 fun b => if b = true then pe env1 A else B) → k (acc ++ (xs.filter c).map f) → lcP pg pt pe env (xs.map e) acc k := by
    intro xs
    induction xs with
    | nil => intro acc _ _ hk; simp only [List.map_nil, lcP]; simpa using hk
    | cons x xs ih =>
      intro acc hl hs hk
      rw [List.map_cons]
      unfold lcP
      have hl' : acc.length + (xs.length + 1) ≤ 100000 := by simpa using hl
      refine hs x List.mem_cons_self _ _ (fun hc => ⟨by omega, ih _ (by rw [List.length_append, List.length_singleton]; omega) (fun y h => hs y (List.mem_cons_of_mem _ h)) ?_⟩) (fun hc => ih _ (by omega) (fun y h => hs y (List.mem_cons_of_mem _ h)) ?_)
      · rw [List.filter_cons_of_pos hc] at hk; simpa using hk
      · rw [List.filter_cons_of_neg (by rw [hc]; exact Bool.false_ne_true)] at hk; exact hk
  exact go xs [] (by simpa using hl) hs (by simpa using hk)
theorem eLc_i {vs : List Nat} {pi : PIt} {pg : PGt} {pt : PTs'} {pe : PX} {env : List SV} {k : D → Prop} (h : pi env fun ds => noOwn env vs ∧ lcP pg pt pe (wipeE env vs) ds [] fun r => k (.lst r)) : eLc vs pi pg pt pe env k := h
theorem eLc2_i {vs vs1 : List Nat} {pi : PIt} {pg : PGt} {pt : PTs'} {pi1 : PIt} {pg1 : PGt} {pt1 : PTs'} {pe : PX} {env : List SV} {k : D → Prop} (h : pi env fun ds => noOwn env vs ∧ lcP2 vs1 pg pt pi1 pg1 pt1 pe (wipeE env vs) ds [] fun r => k (.lst r)) : eLc2 vs vs1 pi pg pt pi1 pg1 pt1 pe env k := h
theorem maxI_congr {xs ys : List Int} (h : ∀ x, x ∈ xs ↔ x ∈ ys) : maxI xs = maxI ys := by
  by_cases hx : xs = []
  · subst hx
    cases ys with
    | nil => rfl
    | cons y r => exact absurd ((h y).mpr List.mem_cons_self) (by simp)
  · exact maxI_eq ((h _).mp (maxI_mem hx)) fun y hy => maxI_le ((h y).mpr hy)
end Pu
namespace Pu
open PySem PySem.Spec PyProof.Rows L2
/-! ### defs whose last parameters have the default None -/
end Pu
namespace Pu
open PySem PySem.Spec PyProof.Rows L2
/-! ### repr of nested tuples and lists, where nothing is being shown yet -/
/-! ### which things are shown -/
end Pu
namespace Pu
open PySem PySem.Spec PyProof.Rows L2
/-! ### the law run from its one caller: nothing is being shown there -/
theorem hu65 {A : Around} {k : Nat} (hr : Room k A) : A.units + 65 < cLine := by have := hr.un; omega
end Pu
namespace Pu
open PySem PySem.Spec PyProof.Rows L2
variable [Tbs]
/-! zip of a tuple and a list -/
theorem mem5 {c z TI TO i1 i2 : Addr} (h : c ∈ [z, TI, TO, i1, i2]) : c = z ∨ c = TI ∨ c = TO ∨ c = i1 ∨ c = i2 := by simpa using h
theorem out5 {c z TI TO i1 i2 : Addr} (h : c ∉ [z, TI, TO, i1, i2]) : c ≠ z ∧ c ≠ TI ∧ c ≠ TO ∧ c ≠ i1 ∧ c ≠ i2 := by simpa using h
end Pu
namespace Pu
open PySem PySem.Spec PyProof.Rows L2
variable [Tbs]
/-! zip of a list and a tuple -/
def ItMy (K : PySem.W.Frag) (a b : Addr) : It where
  go := fun i H => ∃ (xs ys : List V) (x y : V), (SqL K H a xs ∧ SqT K H b ys) ∧ xs[i]? = some x ∧ ys[i]? = some y
  yld := fun i H v H' => ∃ T x y, v = .ref T ∧ H T = none ∧ H' = upd H T (.tup [x, y]) ∧ (∀ l, SqL K H a l → l[i]? = some x) ∧ ∀ l, SqT K H b l → l[i]? = some y
  stop := fun i H => ∃ xs ys : List V, (SqL K H a xs ∧ SqT K H b ys) ∧ i = min xs.length ys.length
def tnMy (z TI TO i1 i2 a b : Addr) (i : Nat) (h : Heap) : Prop :=
  (IsZip h z TI TO .none ∧ IsTupOf2 h TI (.ref i1) (.ref i2) ∧ ∃ x y, IsTupOf2 h TO x y) ∧ h.IsListIter i1 a i ∧ h.IsTupleIter i2 b i
theorem live5y {z TI TO i1 i2 a b : Addr} {i : Nat} {h : Heap} (st : tnMy z TI TO i1 i2 a b i h) {c : Addr} (hc : c ∈ [z, TI, TO, i1, i2]) : ∃ o, h.get? c = some o ∧ ∀ v, o.data ≠ .cell v := by
  obtain ⟨⟨hz, hTI, x, y, hTO⟩, ⟨o1, e1, q1, d1⟩, o2, e2, q2, d2⟩ := st
  rcases mem5 hc with rfl | rfl | rfl | rfl | rfl
  · exact ⟨_, hz, fun v q => nomatch q⟩
  · exact ⟨_, hTI, fun v q => nomatch q⟩
  · exact ⟨_, hTO, fun v q => nomatch q⟩
  · exact ⟨o1, e1, fun v q => by rw [d1] at q; cases q⟩
  · exact ⟨o2, e2, fun v q => by rw [d2] at q; cases q⟩
theorem turn_my {P : Program} {w : World} {K : PySem.W.Frag} {elts : List Expr} {kk : Nat} {tpos : Pos} {a b z TI TO i1 i2 : Addr} (S : ZipSep2 z TI TO i1 i2 [i1, a] [i2, b]) :
    Turn P w K (.Tuple elts kk tpos) (ItMy K a b) [z, TI, TO, i1, i2] z (tnMy z TI TO i1 i2 a b) := by
  have nea : a ≠ i1 ∨ True := .inr trivial
  refine ⟨by simp, fun i h st c hc => live5y st hc, fun i h h' st k => ?_, ?_, ?_, fun A i s Q E st h => wpAny_pyIter_zip st.1.1 h⟩
  · obtain ⟨⟨hz, hTI, x, y, hTO⟩, h1, h2⟩ := st
    exact ⟨⟨k z (by simp) _ hz, k TI (by simp) _ hTI, x, y, k TO (by simp) _ hTO⟩, h1.at fun o q => k i1 (by simp) o q, h2.at fun o q => k i2 (by simp) o q⟩
  · intro X hP hw hK hc i pins s σ H E I hf st hg
    have lv : ∀ c, c ∈ [z, TI, TO, i1, i2] → c < s.heap.objs.size := fun c hcm => by
      obtain ⟨o, ho, _⟩ := live5y st hcm
      exact Heap.lt_size ho
    obtain ⟨⟨hz, hTI, x0, y0, hTO⟩, h1, h2⟩ := st
    obtain ⟨xs, ys, x, y, ⟨hqx, hqy⟩, hx, hy⟩ := hg
    subst hP hw hK
    obtain ⟨its, rv, p, _⟩ := I.list hqx
    obtain ⟨its2, rv2, p2, _⟩ := I.tuple hqy
    obtain ⟨u, hu, ru⟩ := rv.get hx
    obtain ⟨u2, hu2, ru2⟩ := rv2.get hy
    have na : a ≠ i1 := fun q => by
      obtain ⟨o, n, ho, hcl, _⟩ := id p
      obtain ⟨o1, ho1, hcl1, _⟩ := id h1
      rw [q, ho1] at ho
      cases ho
      rw [hcl] at hcl1
      injection hcl1 with e
      exact absurd e (by decide)
    have nb : b ≠ i2 := fun q => by
      obtain ⟨o, ho, hcl, _⟩ := id p2
      obtain ⟨o1, ho1, hcl1, _⟩ := id h2
      rw [q, ho1] at ho
      cases ho
      rw [hcl] at hcl1
      injection hcl1 with e
      exact absurd e (by decide)
    have hd : X.A.in1.handled = none := I.ok.hd hc
    refine wpAny_pyNext_zipD2_item S (Draws.list hd i1 a na its.toArray) (Draws.tuple hd i2 b nb its2.toArray) hz hTI hTO ⟨h1, p.isList⟩ ⟨h2, p2⟩ ?_ ?_ fun x1 x2 h' tk y1 y2 z' TO' d1 d2 hT hsz hk => ?_
    · obtain ⟨q, _⟩ := List.getElem?_eq_some_iff.mp hu
      simpa using q
    · obtain ⟨q, _⟩ := List.getElem?_eq_some_iff.mp hu2
      simpa using q
    · have e1 : x1 = u := by
        have q : its[i]? = some x1 := by simpa using y1
        rw [hu] at q
        cases q
        rfl
      have e2 : x2 = u2 := by
        have q : its2[i]? = some x2 := by simpa using y2
        rw [hu2] at q
        cases q
        rfl
      subst e1 e2
      have hzl := lv z (by simp)
      refine ⟨_, rfl, wpAny_letOwnedTupleGo_zip (s := { s with heap := h', toks := tk }) z' fun h'' z'' sb => ?_⟩
      have ob : h''.get? s.heap.objs.size = some { cls := .type "tuple", data := .seq #[x1, x2] } := (sb.2 _ (Nat.ne_of_gt hzl)).trans hT
      have J : Inv X pins σ (upd H s.heap.objs.size (.tup [x, y])) { s with heap := h'', toks := tk } := by
        refine I.turnedNew (ch := [z, TI, TO, i1, i2]) (fun c o hb q => ?_) hf (Nat.le_refl _) ⟨by show 2 ≤ sizeLine; decide, [x1, x2], .cons ru (.cons ru2 .nil), ⟨_, ob, rfl, _, rfl⟩⟩
        obtain ⟨n1, n2, n3, n4, n5⟩ := out5 hb
        exact (sb.2 c n1).trans (hk c o n1 n3 n4 n5 q)
      refine ⟨.ref s.heap.objs.size, _, J, rfl, ⟨_, x, y, rfl, I.hok.fresh (Nat.le_refl _), rfl, fun l hl => by rw [I.list_inj hl hqx]; exact hx, fun l hl => by rw [I.tuple_inj hl hqy]; exact hy⟩, ⟨⟨z'', ?_, x1, x2, ?_⟩, ?_, ?_⟩, fun c hcm => ?_⟩
      · exact (sb.2 _ S.TIz).trans (hk _ _ S.TIz S.TITO S.TIi1 S.TIi2 hTI)
      · exact (sb.2 _ S.TOz).trans TO'
      · exact d1.1.at fun o q => (sb.2 _ S.zi1.symm).trans q
      · exact d2.1.at fun o q => (sb.2 _ S.zi2.symm).trans q
      · rw [upd_ne (Nat.ne_of_lt (lv c hcm))]
        exact (hf c hcm).1
  · intro X hP hw hK hc i pins s σ H E I hf st hg
    obtain ⟨⟨hz, hTI, x0, y0, hTO⟩, h1, h2⟩ := st
    obtain ⟨xs, ys, ⟨hqx, hqy⟩, rfl⟩ := hg
    subst hP hw hK
    obtain ⟨its, rv, p, _⟩ := I.list hqx
    obtain ⟨its2, rv2, p2, _⟩ := I.tuple hqy
    have l1 := rv.length
    have l2 := rv2.length
    have na : a ≠ i1 := fun q => by
      obtain ⟨o, n, ho, hcl, _⟩ := id p
      obtain ⟨o1, ho1, hcl1, _⟩ := id h1
      rw [q, ho1] at ho
      cases ho
      rw [hcl] at hcl1
      injection hcl1 with e
      exact absurd e (by decide)
    have nb : b ≠ i2 := fun q => by
      obtain ⟨o, ho, hcl, _⟩ := id p2
      obtain ⟨o1, ho1, hcl1, _⟩ := id h2
      rw [q, ho1] at ho
      cases ho
      rw [hcl] at hcl1
      injection hcl1 with e
      exact absurd e (by decide)
    have hd : X.A.in1.handled = none := I.ok.hd hc
    refine wpAny_pyNext_zipD2_end S (Draws.list hd i1 a na its.toArray) (Draws.tuple hd i2 b nb its2.toArray) hz hTI hTO ⟨h1, p.isList⟩ ⟨h2, p2⟩ ?_ ?_ ?_ fun h' tk hk => ⟨rfl, I.turnedL (ch := [z, TI, TO, i1, i2]) (fun c o hb q => ?_) hf⟩
    · simp; omega
    · simp; omega
    · simp; omega
    · obtain ⟨n1, n2, n3, n4, n5⟩ := out5 hb
      exact hk c o n1 n3 n4 n5 q
def iZipY (K : PySem.W.Frag) (ta : TA) : TI := fun σ H R => ta σ H fun vs H1 => ∃ a b xs ys, vs = [.ref a, .ref b] ∧ ((SqL K H1 a xs ∧ SqL K H1 b ys ∧ R (Itz K a b) H1) ∨ (SqL K H1 a xs ∧ SqT K H1 b ys ∧ R (ItMy K a b) H1))
theorem pi_zipY {X : Cx} {e e2 : Expr} {ta : TA} {p pos tpos : Pos} {elts : List Expr} {kk : Nat} (hg : Gl X "zip") (hm : X.mg "zip" = none) (ha : PA X [e, e2] ta)
    (hs : starEach [e, e2] X.env = (false, eval e X.env) :: starEach [e2] X.env) (hpl : (backTo pos (starEach [e2] X.env)).any (·.1) = false) :
    PI X (.Tuple elts kk tpos) (.Call (.Name "zip" p) [e, e2] [] pos) (iZipY X.K ta) := by
  refine ⟨fun pins s σ H R I h => ?_⟩
  refine Call_ (ld_blt I hg hm boot_zip (callWith_type1 (thn (ha.run pos pins s σ H _ I h) fun us s1 ⟨vs, H1, I1, r1, q1⟩ => ?_) hs hpl))
  obtain ⟨a, b, xs, ys, ex, q1⟩ := q1
  subst ex
  cases r1 with
  | cons r rr =>
    cases rr with
    | cons r' rr =>
      cases rr
      cases r
      cases r'
      have nw : ∀ c, c ∈ [s1.heap.objs.size + 4, s1.heap.objs.size + 2, s1.heap.objs.size + 3, s1.heap.objs.size, s1.heap.objs.size + 1] → FpOk X pins H1 c := fun c hcm => by
        have hle : s1.heap.objs.size ≤ c := by
          rcases mem5 hcm with q | q | q | q | q <;> rw [q] <;> first | exact Nat.le_add_right _ _ | exact Nat.le_refl _
        exact I1.fpOk hle (I1.hok.fresh hle)
      rcases q1 with ⟨hqx, hqy, q⟩ | ⟨hqx, hqy, q⟩
      · obtain ⟨its, rv, p1, _⟩ := I1.list hqx
        obtain ⟨its2, rv2, p2, _⟩ := I1.list hqy
        refine call_zip_2 p1.isList p2.isList fun h' hz hTI hTO h1 h2 hsz hk => wpAny_pyIter_zip hz ?_
        exact ⟨_, _, _, _, H1, rfl, I1.kept (t' := s1.toks) hk, turn_zip (PySem.W.ktu_apart s1.heap.objs.size a b p1.lt p2.lt), ⟨hz, hTI, ⟨_, _, hTO⟩, h1, h2⟩, nw, q⟩
      · obtain ⟨its, rv, p1, _⟩ := I1.list hqx
        obtain ⟨its2, rv2, p2, _⟩ := I1.tuple hqy
        have lb : b < s1.heap.objs.size := by
          obtain ⟨o1, ho1, _⟩ := id p2
          exact Heap.lt_size ho1
        have la : a < s1.heap.objs.size := p1.lt
        refine zip_begins2 (begins_list a its.toArray) (begins_tuple b its2.toArray) p1.isList p2 fun h' hz hTI hTO h1 h2 hsz hk => wpAny_pyIter_zip hz ?_
        refine ⟨_, _, _, _, H1, rfl, I1.kept (t' := s1.toks) hk, turn_my (zip_sep2 (fp1 := [a]) (fp2 := [b]) ?_ ?_), ⟨⟨hz, hTI, _, _, hTO⟩, ⟨_, h1, rfl, rfl⟩, _, h2, rfl, rfl⟩, nw, q⟩
        · intro c hcm; rw [List.mem_singleton.mp hcm]; exact la
        · intro c hcm; rw [List.mem_singleton.mp hcm]; exact lb
theorem yl_zipY {z : Zn} {X : AP} {M : AP} {H : Hp} {K : PySem.W.Frag} {a b : Addr} {vs us : List V} {ds es : List D} (h : H a = some (.lst vs)) (n : ¬ M a) (r : IsA z M H vs ds) (h2 : H b = some (.tup us)) (n2 : ¬ M b) (r2 : IsA z M H us es) : Yields z X M H (ItMy K a b) (zipD ds es) := fun M' H' f => by
  have h' := (f.old a _ h n).1
  have r' := f.isA r
  have h2' := (f.old b _ h2 n2).1
  have r2' := f.isA r2
  have hl := r'.length
  have hl2 := r2'.length
  refine ⟨⟨vs, us, ⟨SqL.of h', SqT.of h2'⟩, by rw [hl, hl2, zipD_len]⟩, fun i d hd => ?_⟩
  obtain ⟨x, y, hx, hy, rfl⟩ := zipD_get hd
  obtain ⟨v, q1, q2⟩ := r'.get hx
  obtain ⟨u, p1, p2⟩ := r2'.get hy
  refine ⟨⟨vs, us, v, u, ⟨SqL.of h', SqT.of h2'⟩, q1, p1⟩, fun w H2 yy => ?_⟩
  obtain ⟨T, x', y', rfl, hT, rfl, hx', hy'⟩ := yy
  have e := hx' vs (SqL.of h')
  rw [q1] at e
  cases e
  have e := hy' us (SqT.of h2')
  rw [p1] at e
  cases e
  exact ⟨(Evo.refl _ _).new hT, fun _ fm => pair2_is hT (fm T hT) q2 p2⟩
def zipKY (d e : D) (k : List D → Prop) : Prop := match d, e with
  | .lst xs, .lst ys => k (zipD xs ys)
  | .lst xs, .tup ys => k (zipD xs ys)
  | _, _ => False
def iZipPY (p q : PX) : PIt := fun env k => p env fun d => q env fun e => zipKY d e k
theorem i_zipY {C : Cx} {e e2 : Expr} {p q : PX} {tpos pp pos : Pos} {elts : List Expr} {kk : Nat} (h : E .e C e p) (g : E .e C e2 q) (hg : Gl C "zip") (hm : C.mg "zip" = none) (hs : starEach [e, e2] C.env = (false, eval e C.env) :: starEach [e2] C.env := by rfl) (hs2 : starEach [e2] C.env = (false, eval e2 C.env) :: starEach [] C.env := by rfl)
    (hpl : (backTo pos (starEach [e2] C.env)).any (·.1) = false := by rfl) : I C (.Tuple elts kk tpos) (.Call (.Name "zip" pp) [e, e2] [] pos) (iZipPY p q) := by
  obtain ⟨t, h1, h2⟩ := h
  obtain ⟨u, g1, g2⟩ := g
  refine ⟨_, pi_zipY hg hm (pa_cons h1 (pa_cons g1 pa_nil hs2) hs) hs hpl, fun z X H0 H σ env R k o c hp => h2 z X H0 H σ env _ _ o (fun d v H1 e1 r1 hx => g2 z X H0 H1 σ env _ _ (o.go e1) (fun d2 v2 H2 e2 r2 hy => ?_) hx) hp⟩
  have r1' : Is z (Ms z X σ env) H2 v d := Is.evo (fun _ q => .inl q) e2 r1
  cases r1' with
  | lst a1 n1 b1 =>
    cases (show Is z (Ms z X σ env) H2 v2 d2 from r2) with
    | lst a2 n2 b2 => exact ⟨_, _, _, _, rfl, .inl ⟨SqL.of a1, SqL.of a2, c _ _ H2 (e1.trans e2) (yl_zipL a1 n1 b1 a2 n2 b2) hy⟩⟩
    | tup a2 n2 b2 => exact ⟨_, _, _, _, rfl, .inr ⟨SqL.of a1, SqT.of a2, c _ _ H2 (e1.trans e2) (yl_zipY a1 n1 b1 a2 n2 b2) hy⟩⟩
    | _ => exact (show False from hy).elim
  | _ => exact (show False from hy).elim
theorem iZipPY_i {p q : PX} {env : List SV} {k : List D → Prop} (h : p env fun d => q env fun e => zipKY d e k) : iZipPY p q env k := h
theorem zipKY_t {xs ys : List D} {k : List D → Prop} (h : k (zipD xs ys)) : zipKY (.lst xs) (.tup ys) k := h
end Pu
namespace Pu
open PySem PySem.Spec PyProof.Rows L2
/-! sorted(t), t a tuple of whole numbers -/
/-! {k: v}, whole numbers -/
/-! a def that shows things: run where nothing is being shown -/
end Pu
namespace Pu
open PySem PySem.Spec PyProof.Rows L2
variable [Tbs]
/-! a comprehension whose elements are popped from a list of the def's own -/
def RMK (t : TE) (p : PMX) : Prop := ∀ (z : Zn) (X : AP) (H0 H : Hp) (σ : Sl) (env : List SV) (Q : VK) (k : List SV → D → Prop), Ok z X H0 H σ env → (∀ d v H' env', Ok z X H0 H' σ env' → Fr z X (Ms z X σ env) H (Ms z X σ env') H' → (∀ b, X b → H' b = H b) → Is z (Ms z X σ env') H' v d → k env' d → Q v H') → p env k → t σ H Q
structure MK (C : Cx) (e : Expr) (p : PMX) : Prop where
  ex : ∃ t, PE C e t ∧ RMK t p
def tMK (p : PMX) : TE := fun σ H Q => ∃ (z : Zn) (X : AP) (H0 : Hp) (env : List SV) (k : List SV → D → Prop), Ok z X H0 H σ env ∧ (∀ d v H' env', Ok z X H0 H' σ env' → Fr z X (Ms z X σ env) H (Ms z X σ env') H' → (∀ b, X b → H' b = H b) → Is z (Ms z X σ env') H' v d → k env' d → Q v H') ∧ p env k
theorem MK.pe {C : Cx} {e : Expr} {p : PMX} (h : MK C e p) : PE C e (tMK p) := by
  obtain ⟨t, h1, h2⟩ := h
  exact ⟨fun pins s σ H Q I ⟨z, X, H0, env, k, o, c, hp⟩ => h1.run pins s σ H Q I (h2 z X H0 H σ env Q k o c hp)⟩
/-! d.get(k, e), a dict by whole numbers -/
end Pu
namespace Pu
open PySem PySem.Spec PyProof.Rows L2
variable [Tbs]
/-! dicts by pairs of whole numbers -/
def valT (ds : List (List Int × Int)) (k : List Int) : Option Int := (ds.find? fun q => decide (q.1 = k)).map (·.2)
def putT (ds : List (List Int × Int)) (k : List Int) (v : Int) : List (List Int × Int) :=
  if (ds.any fun q => decide (q.1 = k)) = true then ds.map (fun q => if q.1 = k then (q.1, v) else q) else ds ++ [(k, v)]
theorem inl_map : ∀ {a b : List Int}, (a.map (Sum.inl : Int → Key)) = b.map Sum.inl ↔ a = b
  | [], [] => by simp
  | [], _ :: _ => by simp
  | _ :: _, [] => by simp
  | x :: a, y :: b => by
    simp only [List.map_cons, List.cons.injEq]
    rw [inl_map (a := a) (b := b)]
    constructor
    · rintro ⟨h, h2⟩
      exact ⟨Sum.inl.inj h, h2⟩
    · rintro ⟨h, h2⟩
      exact ⟨by rw [h], h2⟩
theorem val_dtV (k : List Int) : ∀ ds : List (List Int × Int), valV (dtV ds) (k.map Sum.inl) = (valT ds k).map V.int
  | [] => rfl
  | q :: ds => by
    have ih := val_dtV k ds
    unfold valV valT dtV at *
    rw [List.map_cons, List.find?_cons, List.find?_cons]
    by_cases h : q.1 = k
    · rw [decide_eq_true (show q.1.map (Sum.inl : Int → Key) = k.map Sum.inl by rw [h]), decide_eq_true h]
      rfl
    · rw [decide_eq_false (fun w => h (inl_map.mp w)), decide_eq_false h]
      exact ih
theorem any_dtV (k : List Int) : ∀ ds : List (List Int × Int), ((dtV ds).any fun q => decide (q.1 = k.map Sum.inl)) = ds.any fun q => decide (q.1 = k)
  | [] => rfl
  | q :: ds => by
    have ih := any_dtV k ds
    unfold dtV at *
    rw [List.map_cons, List.any_cons, List.any_cons, ih]
    congr 1
    exact decide_eq_decide.mpr inl_map
theorem put_dtV (k : List Int) (v : Int) (ds : List (List Int × Int)) : putK (dtV ds) (k.map Sum.inl) (.int v) = dtV (putT ds k v) := by
  unfold putK putT
  rw [any_dtV]
  split
  · unfold dtV
    rw [List.map_map, List.map_map]
    apply List.map_congr_left
    intro q _
    show (if q.1.map (Sum.inl : Int → Key) = k.map Sum.inl then (q.1.map Sum.inl, V.int v) else (q.1.map Sum.inl, V.int q.2)) = _
    by_cases h : q.1 = k
    · rw [if_pos (by rw [h])]
      show _ = ((if q.1 = k then (q.1, v) else q).1.map Sum.inl, V.int (if q.1 = k then (q.1, v) else q).2)
      rw [if_pos h]
    · rw [if_neg (fun w => h (inl_map.mp w))]
      show _ = ((if q.1 = k then (q.1, v) else q).1.map Sum.inl, V.int (if q.1 = k then (q.1, v) else q).2)
      rw [if_neg h]
  · unfold dtV
    rw [List.map_append]
    rfl
theorem valT_put {ds : List (List Int × Int)} {k k' : List Int} {v : Int} : valT (putT ds k v) k' = if k' = k then some v else valT ds k' := by
  induction ds with
  | nil =>
    show valT [(k, v)] k' = _
    unfold valT
    by_cases e : k' = k
    · rw [if_pos e, e]
      simp
    · rw [if_neg e]
      have : ¬ k = k' := fun w => e w.symm
      simp [this]
  | cons q ds ih =>
    unfold putT at ih ⊢
    rw [List.any_cons]
    by_cases h : q.1 = k
    · rw [decide_eq_true h, Bool.true_or, if_pos rfl, List.map_cons, if_pos h]
      by_cases e : k' = k
      · rw [if_pos e]
        unfold valT
        rw [List.find?_cons, decide_eq_true (show q.1 = k' by rw [h, e])]
        rfl
      · rw [if_neg e]
        unfold valT
        have e' : ¬ q.1 = k' := fun w => e (by rw [← w, h])
        rw [List.find?_cons, List.find?_cons, decide_eq_false e']
        simp only
        have hm : ∀ l : List (List Int × Int), ((l.map fun q => if q.1 = k then (q.1, v) else q).find? fun q => decide (q.1 = k')) = l.find? fun q => decide (q.1 = k') := fun l => by
          induction l with
          | nil => rfl
          | cons w l ih =>
            rw [List.map_cons, List.find?_cons, List.find?_cons]
            by_cases hw : w.1 = k
            · rw [if_pos hw]
              have : ¬ w.1 = k' := fun u => e (by rw [← u, hw])
              simp only [decide_eq_false this]
              exact ih
            · rw [if_neg hw]
              by_cases hw' : w.1 = k'
              · simp [hw']
              · simp only [decide_eq_false hw']
                exact ih
        rw [hm]
    · rw [decide_eq_false h, Bool.false_or]
      have st : ∀ (l : List (List Int × Int)), valT (q :: l) k' = if q.1 = k' then some q.2 else valT l k' := fun l => by
        unfold valT
        rw [List.find?_cons]
        by_cases w : q.1 = k'
        · rw [if_pos w, decide_eq_true w]; rfl
        · rw [if_neg w, decide_eq_false w]
      split
      · rename_i ha
        rw [if_pos ha] at ih
        rw [List.map_cons, if_neg h, st, st, ih]
        by_cases w : q.1 = k'
        · rw [if_pos w, if_pos w, if_neg (fun u => h (by rw [w, u]))]
        · rw [if_neg w, if_neg w]
      · rename_i ha
        rw [if_neg ha] at ih
        rw [List.cons_append, st, st, ih]
        by_cases w : q.1 = k'
        · rw [if_pos w, if_pos w, if_neg (fun u => h (by rw [w, u]))]
        · rw [if_neg w, if_neg w]
theorem putT_len (ds : List (List Int × Int)) (k : List Int) (v : Int) : (putT ds k v).length ≤ ds.length + 1 := by
  unfold putT
  split
  · rw [List.length_map]; omega
  · simp
section
variable {C : Cx} {fr : Bool} {m : Mode} {e a b : Expr} {p q : PX} {pos pp : Pos}
theorem Rel.conP {z : Zn} {X : AP} {H H' : Hp} {σ : Sl} {env : List SV} {v : V} {xs : List (List Int × Int)} (h : Rel .c z X H H' σ env v (.dpr xs)) : ∃ a, v = .ref a ∧ H' a = some (.dT (dtV xs)) := by
  rcases h with h | ⟨a, rfl, e, n, md⟩
  · cases h with
    | dpr e n => exact ⟨_, rfl, e⟩
  · exact ⟨a, rfl, e⟩
end
theorem eO_p {i : Nat} {env : List SV} {ds : List (List Int × Int)} {k : D → Prop} (e : env[i]? = some (.own (.dpr ds))) (h : k (.dpr ds)) : eO i env k := by unfold eO; rw [e]; exact h
/-! a look only, and a tuple of whole numbers comes of it: it is plain -/
end Pu
namespace Pu
open PySem PySem.Spec PyProof.Rows L2
variable [Tbs]
/-! loops over a list of the def's own: the slot q stays -/
structure SimQ (q : Nat) (w : Option (Option V)) (fr : Bool) (z : Zn) (X : AP) (H0 : Hp) (M : AP) (H : Hp) (G : Ends) (k : PK') : Prop where
  nx : ∀ env' σ' H', Ok z X H0 H' σ' env' → Fr z X M H (Ms z X σ' env') H' → σ'[q]? = w → k.nx env' → G.nx σ' H'
  rt : ∀ d v H', Evo z H0 H' → Is z (Zx z X) H' v d → (fr = true → ∃ a, v = .ref a ∧ H0 a = none ∧ Con z (Zx z (X.or a)) H' a d) → k.rt d → G.rt v H'
  bk : ∀ env' σ' H', Ok z X H0 H' σ' env' → Fr z X M H (Ms z X σ' env') H' → σ'[q]? = w → k.bk env' → G.bk σ' H'
  ct : ∀ env' σ' H', Ok z X H0 H' σ' env' → Fr z X M H (Ms z X σ' env') H' → σ'[q]? = w → k.ct env' → G.ct σ' H'
theorem SimQ.go {q : Nat} {w : Option (Option V)} {fr : Bool} {z : Zn} {X : AP} {H0 : Hp} {M M1 : AP} {H H1 : Hp} {G : Ends} {k : PK'} (s : SimQ q w fr z X H0 M H G k) (f : Fr z X M H M1 H1) : SimQ q w fr z X H0 M1 H1 G k :=
  ⟨fun e σ H' o g c h => s.nx e σ H' o (f.trans g) c h, s.rt, fun e σ H' o g c h => s.bk e σ H' o (f.trans g) c h, fun e σ H' o g c h => s.ct e σ H' o (f.trans g) c h⟩
theorem Sim.q {q : Nat} {w : Option (Option V)} {fr : Bool} {z : Zn} {X : AP} {H0 : Hp} {M : AP} {H : Hp} {G : Ends} {k : PK'} (s : Sim fr z X H0 M H G k) : SimQ q w fr z X H0 M H G k :=
  ⟨fun e σ H' o g _ h => s.nx e σ H' o g h, s.rt, fun e σ H' o g _ h => s.bk e σ H' o g h, fun e σ H' o g _ h => s.ct e σ H' o g h⟩
def RSq (q : Nat) (fr : Bool) (t : TS) (p : PSt) : Prop := ∀ (z : Zn) (X : AP) (H0 H : Hp) (σ : Sl) (env : List SV) (G : Ends) (k : PK'), Ok z X H0 H σ env → SimQ q σ[q]? fr z X H0 (Ms z X σ env) H G k → p env k → t G σ H
structure SQ (q : Nat) (fr : Bool) (C : Cx) (st : Stmt) (p : PSt) : Prop where
  ex : ∃ t, PS C st t ∧ RSq q fr t p
section
variable {C : Cx} {fr : Bool} {q : Nat} {st : Stmt} {rest : List Stmt} {p r : PSt} {e : Expr} {pe pi : PX} {m : Mode} {pos pp : Pos}
theorem SQ.s (h : SQ q fr C st p) : S fr C st p := by
  obtain ⟨t, h1, h2⟩ := h
  exact ⟨t, h1, fun z X H0 H σ env G k o s hp => h2 z X H0 H σ env G k o s.q hp⟩
end
/-! a comprehension over a list of the def's own -/
end Pu
set_option maxHeartbeats 1000000
/-! all(.. for .. in ..), any(..): the generator's frame, its turns, who asks it -/
namespace GnX
open PySem PySem.Spec PyProof.Rows L2 GenW GxR
/-- the code of a generator's turns, the around in it -/
abbrev gCode (elt tg iter : Expr) (scope : Scope) (gpos : Pos) (it : Addr) (cenv : Env) : Code := .compLoop (.GeneratorExp elt [⟨tg, iter, [], 0⟩] scope gpos) 0 (.ref it) .none cenv
def gA (A : Around) (cenv : Env) : Around := A.in1.in1.deeper cenv
theorem over_gen {A : Around} {elt tg iter : Expr} {scope : Scope} {gpos : Pos} {it : Addr} {cenv : Env} : A.in1.in1.over (gCode elt tg iter scope gpos it cenv) [] = gA A cenv := by
  unfold gA
  first
    | rfl
    | (obtain ⟨hd, d, fr, gs, u⟩ := A; simp [Around.over, Around.deeper, marksOver, frameCount, unitsOf, envsOf, guardsOf, pushEnvs, pushGuards, Code.envs, Code.env?, Code.isFrame, Code.guards, Code.isGuard, Code.weight, Code.frames, Code.isCreation, Code.isCaller, Code.cUnits])
theorem room_gen {k : Nat} {A : Around} (r : Room (k + 1) A) (env : Env) : Room k (gA A env) :=
  ⟨r.hd, by have := r.dp; show A.depth + 1 + 3 * k + 5 < _; omega, by have := r.un; show A.units + 1 + 1 + 3 + 16 * k + 200 < _; omega⟩
/-- the context of a generator's frame: made at s, its iterator's objects at fp, its own object in pn -/
abbrev genCx (X : Cx) (s : Shared) (H : Hp) (cenv : Env) (fp : List Addr) (pn : List (Addr × Obj)) : Cx :=
  { X with s_0 := s, H_0 := H, env := cenv, A := gA X.A cenv, outer := X.stack, stack := cenv :: X.stack, ex := fp, fn := fun _ => false, pn := pn, xe := fun _ _ => False }
/-- the frame's environment -/
abbrev genE (X : Cx) (scope : Scope) (C : Addr) (code : Value) : Env := genEnv scope (cloFrom X.env.cells scope.names []) C code builtinsNs X.env
section
variable {X : Cx} {pins : List (Addr × Obj)} {σ : L2.St} {H : Hp} {s : Shared}
theorem gen_start {scope : Scope} {own : List (Str × Nat)} {fp : List Addr} {code : Value} {h' : Heap} {m0 : Str → Option Value} {go : Obj} {G : Array GenState} {tk : Nat} (I : Inv X pins σ H s) (ok : BlkOk X.N X.env.scope scope own) (hcell : ∀ y ∈ scope.names, y.2 ≠ .cell) (hN : X.N.Nodup)
    (hfp : ∀ b ∈ fp, FpOk X pins H b ∧ b < s.heap.objs.size) (hn : h'.Ns s.heap.objs.size m0) (sb : Heap.SameBut s.heap.objs.size (s.heap.push { cls := .type "frame", data := .dict #[] }) h') (hgo : ∀ v, go.data ≠ .cell v) (hgp : (h'.push go).get? h'.objs.size = some go) (hG : AllBare G) :
    Inv (genCx X s H (genE X scope s.heap.objs.size code) fp [(h'.objs.size, go)]) [] (wipe σ (own.map (·.2))) H { s with gens := G, toks := tk, heap := h'.push go } := by
  have hfree : ∀ y ∈ scope.names, y.2 = .free → ∃ c, X.env.cells.lookup y.1 = some c := fun y hy e => by
    rcases ok.free y hy e with k | k
    · exact I.ok.has _ (.inl k)
    · exact I.ok.has _ (.inr k)
  generalize hcenv : genE X scope s.heap.objs.size code = cenv
  have hsz : h'.objs.size = s.heap.objs.size + 1 := by rw [sb.1, Heap.size_push]
  have kp : ∀ b o, s.heap.get? b = some o → (h'.push go).get? b = some o := fun b o e => Heap.get?_push_of_some _ (sb.extBut b o (Nat.ne_of_lt (Heap.lt_size e)) (Heap.get?_push_of_some _ e))
  have hL : cenv.locals = s.heap.objs.size := by rw [← hcenv]; rfl
  have hcl : cenv.cells = cloFrom X.env.cells scope.names [] := by rw [← hcenv]; rfl
  have hsc : cenv.scope = scope := by rw [← hcenv]; rfl
  have hfr : cenv.frame = some s.heap.objs.size := by rw [← hcenv]; rfl
  have cm : ∀ {y c}, (y, c) ∈ cloFrom X.env.cells scope.names [] → X.env.cells.lookup y = some c ∧ c < s.heap.objs.size := fun {y c} hm => by
    rcases cloFrom_mem hm with hm | ⟨h1, rfl⟩
    · cases hm
    · obtain ⟨c, hc⟩ := hfree _ h1 rfl
      rw [hc]
      obtain ⟨w, z⟩ := I.cell _ _ hc
      exact ⟨rfl, z.lt⟩
  have mem : ∀ {y c}, cenv.cells.lookup y = some c → X.env.cells.lookup y = some c ∧ c < s.heap.objs.size := fun {y c} e => by
    rw [hcl] at e
    exact cm (PySem.mem_of_lookup e)
  have look : ∀ {y}, scope.names.lookup y = some .free → ∃ c, cenv.cells.lookup y = some c ∧ X.env.cells.lookup y = some c := fun {y} hl => by
    have hy : (y, NameKind.free) ∈ scope.names := PySem.mem_of_lookup hl
    obtain ⟨c', e'⟩ := mem_lookup (cloFrom_has (cells := X.env.cells) (acc := []) hy)
    rw [← hcl] at e'
    exact ⟨c', e', (mem e').1⟩
  have nocell : ∀ y, scope.names.lookup y ≠ some .cell := fun y e => hcell _ (PySem.mem_of_lookup e) rfl
  have okB : (genCx X s H cenv fp [(h'.objs.size, go)]).Ok := by
    refine ⟨I.ok.mod, by show cenv.scope.kind = _; rw [hsc]; exact ok.kind, by show cenv.globals = _; rw [← hcenv]; exact I.ok.glob, by show cenv.builtins = _; rw [← hcenv]; rfl, by show s.heap.objs.size ≤ cenv.locals; rw [hL]; exact Nat.le_refl _,
      fun y z c e1 e2 => ?_, fun y hy => ?_, fun y c z e => ?_, I.ok.hd, ?_, .inr ⟨rfl, by show cenv.frame = some cenv.locals; rw [hfr, hL]⟩, fun b hb => ⟨?_, fun y c e z => ?_⟩, I.bs, Nat.le_trans I.ok.bsz I.sz, fun b o e hb => ?_, fun b hb z => ?_, I.stack, I.stkFree⟩
    · exact I.ok.inj y z c (mem e1).1 (mem e2).1
    · show ∃ c, cenv.cells.lookup y = some c
      have hy : scope.names.lookup y = some .cell ∨ scope.names.lookup y = some .free := by
        have hy : cenv.scope.names.lookup y = some .cell ∨ cenv.scope.names.lookup y = some .free := hy
        rw [hsc] at hy
        exact hy
      rcases hy with hy | hy
      · exact absurd hy (nocell y)
      · obtain ⟨c, h1, _⟩ := look hy
        exact ⟨c, h1⟩
    · exact absurd (show false = true from z) (by simp)
    · show (gA X.A cenv).frames = some (cenv :: X.stack)
      show X.A.frames.map (cenv :: ·) = _
      rw [I.ok.frames]
      rfl
    · show b ≠ cenv.locals
      rw [hL]; exact Nat.ne_of_lt (hfp b hb).2
    · have e : cenv.cells.lookup y = some c := e
      exact (hfp b hb).1.2.2.2.2.1 y c (mem e).1 z
    · rcases (hfp b hb).1.2.2.2.1 with z | z
      · exact I.ok.noex b o e z
      · exact absurd (Nat.lt_of_lt_of_le (Heap.lt_size e) (Nat.le_trans I.ok.bsz z)) (Nat.lt_irrefl _)
    · rcases List.mem_cons.mp (I.stkSub b z) with z | z
      · exact (hfp b hb).1.2.1 z
      · exact (hfp b hb).1.2.2.1 z
  have nfs : h'.objs.size ∉ frs X.stack := fun z => by
    rcases List.mem_cons.mp (I.stkSub _ z) with z | z
    · have := I.lt
      rw [← z, hsz] at this
      exact absurd (Nat.lt_trans (Nat.lt_succ_self _) this) (Nat.lt_irrefl _)
    · exact I.nofs (a := h'.objs.size) (by omega) z
  refine ⟨okB, rfl, hG, Un.kept kp, ⟨m0, ?_, fun i y av e1 e2 e3 => ?_⟩, fun y c e => ?_, ?_, fun y c e => ?_, fun p hp => ?_, I.hok.kept kp, by rw [wipe_length]; exact I.len⟩
  · show Heap.Ns _ cenv.locals _
    rw [hL]
    exact hn.push _
  · obtain ⟨e2, hne⟩ := wipe_some e2
    have e3 : Vis scope y := by
      have e3 : Vis cenv.scope y := e3
      rw [hsc] at e3
      exact e3
    have hfr : scope.names.lookup y = some .free := by
      have no : ∀ k', scope.names.lookup y = some k' → ¬ (k' = .local ∨ k' = .cell) := fun k' e hh => by
        rcases ok.own _ (PySem.mem_of_lookup e) hh with e' | e'
        · obtain ⟨p, hp, hpy⟩ := List.mem_map.mp e'
          have e3 := ok.ix p hp
          have : p.1 = y := hpy
          rw [this] at e3
          exact hne (List.mem_map.mpr ⟨p, hp, nodup_ix hN e3 e1⟩)
        · exact e' (List.mem_of_getElem? e1)
      rcases e3 with e3 | e3 | e3
      · exact absurd (.inl rfl) (no _ e3)
      · exact absurd (.inr rfl) (no _ e3)
      · exact e3
    obtain ⟨m, hn, hl⟩ := I.loc
    have hvis : Vis X.env.scope y := (ok.free _ (PySem.mem_of_lookup hfr) rfl).elim (fun k => .inr (.inl k)) (fun k => .inr (.inr k))
    obtain ⟨w, r, q⟩ := hl i y av e1 e2 hvis
    refine ⟨w, r, .inr ⟨.inr (by show cenv.scope.names.lookup y = _; rw [hsc]; exact hfr), ?_⟩⟩
    obtain ⟨c, h1, h2⟩ := look hfr
    rcases q with ⟨k, _⟩ | ⟨_, c', e', z⟩
    · have k : X.env.scope.names.lookup y = some .local := k
      rcases ok.free _ (PySem.mem_of_lookup hfr) rfl with k' | k' <;> rw [show X.env.scope.names.lookup y = _ from k'] at k <;> cases k
    · rw [h2] at e'; cases e'
      exact ⟨c, h1, z.keeps kp⟩
  · have e : cenv.cells.lookup y = some c := e
    obtain ⟨w, z⟩ := I.cell y c (mem e).1
    exact ⟨w, z.keeps kp⟩
  · show H cenv.locals = none
    rw [hL]; exact I.hok.fresh (Nat.le_refl _)
  · have e : cenv.cells.lookup y = some c := e
    exact I.freeC y c (mem e).1
  · have hp : p ∈ [(h'.objs.size, go)] ++ [] := hp
    rw [List.append_nil] at hp
    rw [List.mem_singleton.mp hp]
    refine ⟨hgp, I.hok.fresh (by omega), ?_, nfs, hgo⟩
    show h'.objs.size ≠ cenv.locals
    rw [hL]; omega
end
/-! ### the turns -/
/-- while it sleeps nothing that stands is changed -/
structure Slp (s s' : Shared) : Prop where
  os : s'.os = s.os
  bare : AllBare s'.gens
  keep : ∀ b o, s.heap.get? b = some o → s'.heap.get? b = some o
/-- a truth comes out: fin: it goes on; else it is over -/
def gY (X : Cx) (fin : Bool) (Q : VK) : Protocol := fun _ _ v s kap =>
  ∃ (b : Bool) (σ : L2.St) (H : Hp), v = .bool b ∧ Inv X [] σ H s ∧ ((b = fin ∧ ∀ s', Slp s s' → kap (.send .none) s') ∨ (b ≠ fin ∧ Q (.bl b) H))
def gP (X : Cx) (fin : Bool) (Q : VK) (s : Shared) : Prop := ∃ (σ : L2.St) (H : Hp), Inv X [] σ H s ∧ Q (.bl fin) H
abbrev gR (X : Cx) (fin : Bool) (Q : VK) : GenEnd := fun _ _ r s => r = .ok .next ∧ gP X fin Q s
theorem inv_slp {X : Cx} {pins : List (Addr × Obj)} {σ : L2.St} {H : Hp} {s s' : Shared} (I : Inv X pins σ H s) (z : Slp s s') : Inv X pins σ H s' :=
  I.call' (ch := []) z.os (Un.kept z.keep) (I.hok.kept z.keep) z.bare fun b hb => absurd hb (by simp)
section
variable {X : Cx} {s3 : Shared} {H3 : Hp} {cenv : Env} {fp : List Addr} {pn : List (Addr × Obj)} {elt tg iter : Expr} {scope : Scope} {gpos : Pos} {it : Addr} {J : It} {tn : Nat → Heap → Prop} {g : TG} {te : TE} {σ0 : L2.St} {vs : List Nat} {fin : Bool} {Q : VK} {W : Nat → Nat → Hp → Prop}
theorem seg_loop (hc : X.calm = true) (T : Turn X.prog X.w X.K tg J fp it tn) (pg : PG (genCx X s3 H3 cenv fp pn) tg g) (pe : PE (genCx X s3 H3 cenv fp pn) elt te) (hco : cenv.scope.isCoroutine = false) (hpn : ∀ p ∈ pn, p.1 ∉ fp)
    (turn : ∀ i m H, W i m H → (J.stop i H ∧ Q (.bl fin) H) ∨ (J.go i H ∧ ∃ Nx : Hp → Prop, (∀ H', Nx H' → ∃ m', m' < m ∧ W (i + 1) m' H') ∧ ∀ x H', J.yld i H x H' → g x σ0 H' fun σ2 H2 => wipe σ2 vs = σ0 ∧ te σ2 H2 fun y H4 => ∃ b : Bool, y = .bl b ∧ ((b = fin ∧ Nx H4) ∨ (b ≠ fin ∧ Q (.bl b) H4)))) :
    ∀ (n m i : Nat) (H : Hp) (s₀ s : Shared), m < n → W i m H → Inv (genCx X s3 H3 cenv fp pn) [] σ0 H s → tn i s.heap → (∀ b ∈ fp, H b = none) →
      Seg (model X.prog X.w) X.A.in1.in1 (gR (genCx X s3 H3 cenv fp pn) fin Q) (gY (genCx X s3 H3 cenv fp pn) fin Q) n s₀ (gCode elt tg iter scope gpos it cenv) ((model X.prog X.w).den (gCode elt tg iter scope gpos it cenv)) [] s := by
  have stat : ∀ {σ' : L2.St} {H' : Hp} {s' : Shared}, Inv (genCx X s3 H3 cenv fp pn) [] σ' H' s' → (∀ b ∈ fp, H' b = none) → ∀ b ∈ fp, FpOk (genCx X s3 H3 cenv fp pn) [] H' b := fun {σ' H' s'} I' hn b hb =>
    ⟨hn b hb, (I'.ok.exf b hb).1, I'.ok.exfs b hb, .inl hb, fun x c e => (I'.ok.exf b hb).2 x c e, fun p hp e => by
      have hp : p ∈ pn ++ [] := hp
      rw [List.append_nil] at hp
      exact hpn p hp (by rw [e]; exact hb)⟩
  intro n
  induction n with
  | zero => intro m i H s₀ s hm; exact absurd hm (Nat.not_lt_zero _)
  | succ n ih =>
    intro m i H s₀ s hm w I st hn
    show Seg _ X.A.in1.in1 _ _ _ s₀ _ ((compTurn (.GeneratorExp elt [⟨tg, iter, [], 0⟩] scope gpos) 0 (.ref it) .none cenv).onRaise (leaving cenv)) [] s
    rw [compTurn_gen, Sem.onRaise_eq_wrap]
    refine seg_bind_wrap (wpAny_standAt ?_)
    rcases turn i m H w with ⟨stop, qq⟩ | ⟨go, Nx, hNx, step⟩
    · have td := T.done (genCx X s3 H3 cenv fp pn) rfl rfl rfl hc i [] s σ0 H (fun _ _ => False) I (stat I hn) st stop
      refine seg_bind_wrap ?_
      rw [over_gen]
      refine wpAny_mono td (fun r s6 ⟨hr, I6⟩ => ?_) fun _ _ z => z.elim
      subst hr
      exact seg_end (.ok .next) ⟨rfl, σ0, H, I6, qq⟩
    · have ti := T.item (genCx X s3 H3 cenv fp pn) rfl rfl rfl hc i [] s σ0 H (fun _ _ => False) I (stat I hn) st go
      refine seg_bind_wrap ?_
      rw [over_gen]
      refine wpAny_mono ti (fun r s6 ⟨u, hr, h6⟩ => ?_) fun _ _ z => z.elim
      subst hr
      refine seg_bind_wrap ?_
      rw [over_gen]
      refine wpAny_mono h6 (fun _ s7 ⟨x, H7, I7, r7, y7, st7, n7⟩ => ?_) fun _ _ z => z.elim
      have I7' := I7.pinned (stat I7 n7) (T.obj _ _ st7)
      refine seg_bind_wrap ?_
      rw [over_gen]
      refine wpAny_mono (pg.run _ s7 _ H7 x u _ I7' r7 (step x H7 y7)) (fun _ s8 ⟨σ8, H8, I8, hw8, q8⟩ => ?_) fun _ _ z => (show False from z).elim
      refine seg_bind_wrap ?_
      simp only [List.forIn_nil]
      refine wpAny_pure ?_
      simp only [if_true]
      have hy : ∀ v, yieldOut cenv v = yieldValue v := fun v => by simp only [yieldOut, hco, Bool.false_eq_true, if_false]
      simp only [hy]
      rw [Sem.bind_eq_wrap', Sem.bind_eq_wrap', Sem.wrap_wrap, Sem.wrap_wrap]
      refine seg_wrap ?_
      rw [over_gen]
      refine wpAny_mono (pe.run _ s8 σ8 H8 _ I8 q8) (fun v s10 ⟨yv, H10, I10, r10, b, eb, q10⟩ => ?_) fun _ _ z => (show False from z).elim
      subst eb
      obtain rfl : v = Value.bool b := r10
      refine seg_at (seg_yield rfl rfl rfl ⟨b, σ8, H10, rfl, I10.unpinned (pins := []), ?_⟩)
      rcases q10 with ⟨e, nx⟩ | ⟨e, q⟩
      · refine .inl ⟨e, fun s'' z => ?_⟩
        obtain ⟨m', hm', w'⟩ := hNx H10 nx
        have pin' : ∀ b ∈ fp, ∀ o, s7.heap.get? b = some o → s10.heap.get? b = some o ∧ H10 b = none := fun b hb o e =>
          let z := I10.pin (b, o) (List.mem_append_right _ (List.mem_append_right _ (mem_pinsAt hb e)))
          ⟨z.1, z.2.1⟩
        have hl : σ0.length = σ8.length := by rw [← hw8, wipe_length]
        have I11 : Inv (genCx X s3 H3 cenv fp pn) [] σ0 H10 s10 := (I10.unpinned (pins := [])).weak hl fun j v e => by
          rw [← hw8] at e
          exact (wipe_some e).1
        refine seg_again rfl (ih m' (i + 1) H10 s'' s'' (by omega) w' (inv_slp I11 z) (T.keep _ _ _ st7 fun b hb o e => z.keep b o (pin' b hb o e).1) fun b hb => ?_)
        obtain ⟨o, e, _⟩ := T.obj _ _ st7 b hb
        exact (pin' b hb o e).2
      · exact .inr ⟨e, q⟩
theorem seg_begin {n : Nat} {s₀ s : Shared} (T : Turn X.prog X.w X.K tg J fp it tn) (st : tn 0 s.heap)
    (loop : Seg (model X.prog X.w) X.A.in1.in1 (gR (genCx X s3 H3 cenv fp pn) fin Q) (gY (genCx X s3 H3 cenv fp pn) fin Q) n s₀ (gCode elt tg iter scope gpos it cenv) ((model X.prog X.w).den (gCode elt tg iter scope gpos it cenv)) [] s) :
    Seg (model X.prog X.w) X.A.in1.in1 (gR (genCx X s3 H3 cenv fp pn) fin Q) (gY (genCx X s3 H3 cenv fp pn) fin Q) n s₀ (.compStart (.GeneratorExp elt [⟨tg, iter, [], 0⟩] scope gpos) 0 (.ref it) .none cenv)
      ((model X.prog X.w).den (.compStart (.GeneratorExp elt [⟨tg, iter, [], 0⟩] scope gpos) 0 (.ref it) .none cenv)) [] s := by
  show Seg _ X.A.in1.in1 _ _ _ s₀ _ ((compStart (.GeneratorExp elt [⟨tg, iter, [], 0⟩] scope gpos) 0 (.ref it) .none cenv).onRaise (leaving cenv)) [] s
  unfold compStart
  rw [Sem.onRaise_eq_wrap]
  show Seg _ X.A.in1.in1 _ _ _ s₀ _ ((ask >>= _).wrap _ _ _ _) [] s
  refine seg_bind_wrap (wpAny_askSetting ?_)
  split
  · exact seg_again rfl loop
  · first
      | exact seg_bind_wrap (wpAny_rule (seg_bind_wrap (wpAny_standAt (seg_bind_wrap (T.self _ 0 s _ _ st (seg_again rfl loop))))))
      | (refine seg_bind_wrap (wpAny_rule ?_); show Seg _ X.A.in1.in1 _ _ _ s₀ _ ((standAt iter.pos >>= _).wrap _ _ _ _) [] s; exact seg_bind_wrap (wpAny_standAt (seg_bind_wrap (T.self _ 0 s _ _ st (seg_again rfl loop)))))
end
/-! ### who asks -/
section
variable {X : Cx} {s3 : Shared} {H3 : Hp} {cenv : Env} {fp : List Addr} {pn : List (Addr × Obj)} {Q : VK} {R : Result → Shared → Prop} {a : Addr} {g : Nat}
theorem all_loop (hh : X.A.handled = none) (hroom : X.A.depth < recursionLimit) (hgen : ∀ σ H s, Inv (genCx X s3 H3 cenv fp pn) [] σ H s → s.heap.IsGen a g)
    (hR : ∀ b σ H s, Inv (genCx X s3 H3 cenv fp pn) [] σ H s → Q (.bl b) H → R (.ok (.ret (.bool b))) s) :
    ∀ (n : Nat) (s : Shared), s.heap.IsGen a g → s.heap.NoLimit → (∃ gs, s.gens[g]? = some gs ∧ gs.Goes (model X.prog X.w) X.A.in1.in1 (gR (genCx X s3 H3 cenv fp pn) true Q) (gY (genCx X s3 H3 cenv fp pn) true Q) n (.send .none) (s.setGen g .running)) →
      codeAny (model X.prog X.w) X.A (.builtin "all.loop" ⟨[.ref a], []⟩) R s := by
  intro n
  induction n with
  | zero =>
    rintro s hg hl ⟨gs, hgs, hgo⟩
    refine codeAny_builtin F.entry_all_loop ?_
    rw [Around.under_plainId F.plain_all_loop _]
    show wpAny _ X.A.in1 (pyNext (.ref a) >>= _) _ _ s
    refine wpAny_bind (wpAny_pyNext_genexpQ (A := X.A.in1) (P := fun _ _ s₁ => gP (genCx X s3 H3 cenv fp pn) true Q s₁) hh hl hroom hg hgs hgo (fun v s₁ gs' hb hv => ?_) (fun s₁ hp h' hk => ?_))
    · obtain ⟨b, σ, H, rfl, I, ⟨e, k⟩ | ⟨e, q⟩⟩ := hv
      · exact (show False from k (s₁.setGen g gs') ⟨rfl, allBare_setGen I.bare hb, fun _ _ e => e⟩).elim
      · refine wpAny_bind (wpAny_holding (wpAny_truthy_bool ?_))
        refine wpAny_bind (wpAny_letGo ?_)
        have eb : b = false := by cases b <;> simp_all
        subst eb
        simp only [if_true, if_false, Bool.false_eq_true]
        refine wpAny_bind (wpAny_rule (wpAny_pure ?_))
        exact hR false σ H _ (inv_slp I ⟨rfl, allBare_setGen I.bare hb, fun _ _ e => e⟩) q
    · obtain ⟨σ, H, I, q⟩ := hp
      exact wpAny_bind (wpAny_rule (wpAny_pure (hR true σ H _ (inv_slp I ⟨rfl, allBare_setGen I.bare rfl, hk⟩) q)))
  | succ n ih =>
    rintro s hg hl ⟨gs, hgs, hgo⟩
    refine codeAny_builtin F.entry_all_loop ?_
    rw [Around.under_plainId F.plain_all_loop _]
    show wpAny _ X.A.in1 (pyNext (.ref a) >>= _) _ _ s
    refine wpAny_bind (wpAny_gsz (n := g + 1) (Array.getElem?_eq_some_iff.mp hgs).1 ?_)
    refine wpAny_mono (wpAny_pyNext_genexpQ (E := fun _ _ => False) (Q := fun r s' => g + 1 ≤ s'.gens.size → _) (A := X.A.in1) (P := fun _ _ s₁ => gP (genCx X s3 H3 cenv fp pn) true Q s₁) hh hl hroom hg hgs hgo (fun v s₁ gs' hb hv hsz => ?_) (fun s₁ hp h' hk hsz => ?_)) (fun _ _ z => z) fun _ _ z => z.elim
    · obtain ⟨b, σ, H, rfl, I, ⟨e, k⟩ | ⟨e, q⟩⟩ := hv
      · refine wpAny_bind (wpAny_holding (wpAny_truthy_bool ?_))
        refine wpAny_bind (wpAny_letGo ?_)
        subst e
        simp only [if_true, if_false, Bool.false_eq_true]
        refine wpAny_pure ⟨plainId_quiet F.plain_all_loop _, ?_⟩
        rw [setGen_size] at hsz
        have hI2 : Inv (genCx X s3 H3 cenv fp pn) [] σ H (s₁.setGen g gs') := inv_slp I ⟨rfl, allBare_setGen I.bare hb, fun _ _ e => e⟩
        refine ih _ (hgen σ H _ hI2) hI2.nolimit ⟨gs', setGen_at hsz, ?_⟩
        exact k _ ⟨rfl, allBare_setGen hI2.bare rfl, fun _ _ e => e⟩
      · refine wpAny_bind (wpAny_holding (wpAny_truthy_bool ?_))
        refine wpAny_bind (wpAny_letGo ?_)
        have eb : b = false := by cases b <;> simp_all
        subst eb
        simp only [if_true, if_false, Bool.false_eq_true]
        refine wpAny_bind (wpAny_rule (wpAny_pure ?_))
        exact hR false σ H _ (inv_slp I ⟨rfl, allBare_setGen I.bare hb, fun _ _ e => e⟩) q
    · obtain ⟨σ, H, I, q⟩ := hp
      exact wpAny_bind (wpAny_rule (wpAny_pure (hR true σ H _ (inv_slp I ⟨rfl, allBare_setGen I.bare rfl, hk⟩) q)))
theorem any_loop (hh : X.A.handled = none) (hroom : X.A.depth < recursionLimit) (hgen : ∀ σ H s, Inv (genCx X s3 H3 cenv fp pn) [] σ H s → s.heap.IsGen a g)
    (hR : ∀ b σ H s, Inv (genCx X s3 H3 cenv fp pn) [] σ H s → Q (.bl b) H → R (.ok (.ret (.bool b))) s) :
    ∀ (n : Nat) (s : Shared), s.heap.IsGen a g → s.heap.NoLimit → (∃ gs, s.gens[g]? = some gs ∧ gs.Goes (model X.prog X.w) X.A.in1.in1 (gR (genCx X s3 H3 cenv fp pn) false Q) (gY (genCx X s3 H3 cenv fp pn) false Q) n (.send .none) (s.setGen g .running)) →
      codeAny (model X.prog X.w) X.A (.builtin "any.loop" ⟨[.ref a], []⟩) R s := by
  intro n
  induction n with
  | zero =>
    rintro s hg hl ⟨gs, hgs, hgo⟩
    refine codeAny_builtin F.entry_any_loop ?_
    rw [Around.under_plainId F.plain_any_loop _]
    show wpAny _ X.A.in1 (pyNext (.ref a) >>= _) _ _ s
    refine wpAny_bind (wpAny_pyNext_genexpQ (A := X.A.in1) (P := fun _ _ s₁ => gP (genCx X s3 H3 cenv fp pn) false Q s₁) hh hl hroom hg hgs hgo (fun v s₁ gs' hb hv => ?_) (fun s₁ hp h' hk => ?_))
    · obtain ⟨b, σ, H, rfl, I, ⟨e, k⟩ | ⟨e, q⟩⟩ := hv
      · exact (show False from k (s₁.setGen g gs') ⟨rfl, allBare_setGen I.bare hb, fun _ _ e => e⟩).elim
      · refine wpAny_bind (wpAny_holding (wpAny_truthy_bool ?_))
        refine wpAny_bind (wpAny_letGo ?_)
        have eb : b = true := by cases b <;> simp_all
        subst eb
        simp only [if_true, if_false, Bool.false_eq_true]
        refine wpAny_bind (wpAny_rule (wpAny_pure ?_))
        exact hR true σ H _ (inv_slp I ⟨rfl, allBare_setGen I.bare hb, fun _ _ e => e⟩) q
    · obtain ⟨σ, H, I, q⟩ := hp
      exact wpAny_bind (wpAny_rule (wpAny_pure (hR false σ H _ (inv_slp I ⟨rfl, allBare_setGen I.bare rfl, hk⟩) q)))
  | succ n ih =>
    rintro s hg hl ⟨gs, hgs, hgo⟩
    refine codeAny_builtin F.entry_any_loop ?_
    rw [Around.under_plainId F.plain_any_loop _]
    show wpAny _ X.A.in1 (pyNext (.ref a) >>= _) _ _ s
    refine wpAny_bind (wpAny_gsz (n := g + 1) (Array.getElem?_eq_some_iff.mp hgs).1 ?_)
    refine wpAny_mono (wpAny_pyNext_genexpQ (E := fun _ _ => False) (Q := fun r s' => g + 1 ≤ s'.gens.size → _) (A := X.A.in1) (P := fun _ _ s₁ => gP (genCx X s3 H3 cenv fp pn) false Q s₁) hh hl hroom hg hgs hgo (fun v s₁ gs' hb hv hsz => ?_) (fun s₁ hp h' hk hsz => ?_)) (fun _ _ z => z) fun _ _ z => z.elim
    · obtain ⟨b, σ, H, rfl, I, ⟨e, k⟩ | ⟨e, q⟩⟩ := hv
      · refine wpAny_bind (wpAny_holding (wpAny_truthy_bool ?_))
        refine wpAny_bind (wpAny_letGo ?_)
        subst e
        simp only [if_true, if_false, Bool.false_eq_true]
        refine wpAny_pure ⟨plainId_quiet F.plain_any_loop _, ?_⟩
        rw [setGen_size] at hsz
        have hI2 : Inv (genCx X s3 H3 cenv fp pn) [] σ H (s₁.setGen g gs') := inv_slp I ⟨rfl, allBare_setGen I.bare hb, fun _ _ e => e⟩
        refine ih _ (hgen σ H _ hI2) hI2.nolimit ⟨gs', setGen_at hsz, ?_⟩
        exact k _ ⟨rfl, allBare_setGen hI2.bare rfl, fun _ _ e => e⟩
      · refine wpAny_bind (wpAny_holding (wpAny_truthy_bool ?_))
        refine wpAny_bind (wpAny_letGo ?_)
        have eb : b = true := by cases b <;> simp_all
        subst eb
        simp only [if_true, if_false, Bool.false_eq_true]
        refine wpAny_bind (wpAny_rule (wpAny_pure ?_))
        exact hR true σ H _ (inv_slp I ⟨rfl, allBare_setGen I.bare hb, fun _ _ e => e⟩) q
    · obtain ⟨σ, H, I, q⟩ := hp
      exact wpAny_bind (wpAny_rule (wpAny_pure (hR false σ H _ (inv_slp I ⟨rfl, allBare_setGen I.bare rfl, hk⟩) q)))
end
/-! ### the expression -/
/-- all (fin = true) or any (fin = false) of truths handed out; P: the running def's table -/
def tAskG (P : Addr) (fin : Bool) (wi : TI) (g : TG) (te : TE) (vs : List Nat) : TE := fun σ H Q => wi σ H fun J H1 => TabG H1 P ∧ ∀ H2, Tabbed P H1 H2 → ∃ W : Nat → Nat → Hp → Prop, (∃ m, W 0 m H2) ∧ ∀ i m H, W i m H →
  (J.stop i H ∧ Q (.bl fin) H) ∨ (J.go i H ∧ ∃ Nx : Hp → Prop, (∀ H', Nx H' → ∃ m', m' < m ∧ W (i + 1) m' H') ∧ ∀ x H', J.yld i H x H' → g x (wipe σ vs) H' fun σ2 H3 => wipe σ2 vs = wipe σ vs ∧ te σ2 H3 fun y H4 => ∃ b : Bool, y = .bl b ∧ ((b = fin ∧ Nx H4) ∨ (b ≠ fin ∧ Q (.bl b) H4)))
section
variable {X : Cx} {c P : Addr} {elt tg iter : Expr} {scope : Scope} {own : List (Str × Nat)} {gpos : Pos} {wi : TI} {g : TG} {te : TE} {k : Nat} {pins : List (Addr × Obj)} {σ : L2.St} {H : Hp} {s : Shared} {Q : VK} {fin : Bool} {Q' : Value → Shared → Prop}
/-- the generator is made -/
theorem made (hr : Room (k + 1) X.A) (hc : X.calm = true) (hN : X.N.Nodup) (TB : TabB X.base X.mg c P) (hcode : X.env.code = .ref c) (ok : BlkOk X.N X.env.scope scope own) (hcell : ∀ y ∈ scope.names, y.2 ≠ .cell) (h0 : scope.names.lookup (".0" : Str) = some NameKind.local) (hco : scope.isCoroutine = false)
    (hi : PI X tg iter wi) (hg : ∀ (s : Shared) (H : Hp) (C : Addr) (code : Value) (fp : List Addr) (pn : List (Addr × Obj)), PG (genCx X s H (genE X scope C code) fp pn) tg g) (he : ∀ (s : Shared) (H : Hp) (C : Addr) (code : Value) (fp : List Addr) (pn : List (Addr × Obj)), PE (genCx X s H (genE X scope C code) fp pn) elt te)
    (hs : ∀ v, genFold iter X.env v = pure v) (I : Inv X pins σ H s) (h : tAskG P fin wi g te (own.map (·.2)) σ H Q)
    (hQ : ∀ (a : Addr) (gn : Nat) (n : Nat) (s3 : Shared) (H3 : Hp) (cenv : Env) (fp : List Addr) (pn : List (Addr × Obj)) (s5 : Shared), s5.heap.IsGen a gn → s5.heap.NoLimit → (∀ σ' H' s', Inv (genCx X s3 H3 cenv fp pn) [] σ' H' s' → s'.heap.IsGen a gn) →
      (∀ σ' H' s', Inv (genCx X s3 H3 cenv fp pn) [] σ' H' s' → Inv X pins σ H' s') →
      (∃ gs, s5.gens[gn]? = some gs ∧ gs.Goes (model X.prog X.w) X.A.in1.in1 (gR (genCx X s3 H3 cenv fp pn) fin Q) (gY (genCx X s3 H3 cenv fp pn) fin Q) n (.send .none) (s5.setGen gn .running)) → Q' (.ref a) s5) :
    wpAny (model X.prog X.w) X.A (eval (.GeneratorExp elt [⟨tg, iter, [], 0⟩] scope gpos) X.env) Q' X.xe s := by
  have hfree : ∀ y ∈ scope.names, y.2 = .free → ∃ c, X.env.cells.lookup y.1 = some c := fun y hy e => by
    rcases ok.free y hy e with k | k
    · exact I.ok.has _ (.inl k)
    · exact I.ok.has _ (.inr k)
  refine wpAny_GeneratorExp_make hco (closure_ok hfree) hcell h0 ok.kind hr.depth ?_ hs
  refine thn (hi.run pins s σ H _ I h) fun xv s1 hx => thn hx fun itv s2 h2 => ?_
  obtain ⟨it, fp, tn, J, H2, e, I2, T, st2, f2, ⟨ps, hP, ht⟩, q⟩ := h2
  subst e
  have hPs : s2.heap.get? P = some { cls := .none, data := .fields ps } := I2.hok P _ hP
  have cd : PySem.W.CodeHd s2.heap c P := TB.code.keeps I2.bk
  have fpP : ∀ b ∈ fp, b ≠ P := fun b hb e => by
    have := (f2 b hb).1
    rw [e, hP] at this
    cases this
  have cont : ∀ (code : Value) (h3 : Heap) (tk : Nat) (ps' : Array Value), Heap.ExtBut P s2.heap h3 → s2.heap.objs.size ≤ h3.objs.size → h3.get? P = some { cls := .none, data := .fields ps' } → (∃ more, ps' = ps ++ more) → TriplesOk ps'.toList →
      wpAny (model X.prog X.w) X.A (builtinsFor X.env.globals X.env.builtins) (fun bi s₄ =>
        ∀ h', h'.Ns s₄.heap.objs.size (fun y => if y = ".0" then some (.ref it) else none) → Heap.SameBut s₄.heap.objs.size (s₄.heap.push { cls := .type "frame", data := .dict #[] }) h' →
          Q' (.ref h'.objs.size) { s₄ with
            gens := s₄.gens.push (.fresh (.compStart (.GeneratorExp elt [⟨tg, iter, [], 0⟩] scope gpos) 0 (.ref it) .none (genEnv scope (cloFrom X.env.cells scope.names []) s₄.heap.objs.size code bi X.env))),
            toks := s₄.toks + 1 + 1 + 1,
            heap := h'.push { cls := .type "generator", data := .fields #[.int s₄.gens.size 0, .str "<genexpr>" (s₄.toks + 1), .str (X.env.qual ++ "<genexpr>") (s₄.toks + 1 + 1)] } }) X.xe { s2 with heap := h3, toks := tk } := by
    intro code h3 tk ps' hx hsz hP3 hmore ht3
    obtain ⟨more, em⟩ := hmore
    obtain ⟨bm, ob, e1, e2, e3, e4, e5, e6, e7, e8⟩ := TB.bm
    have keep3 : ∀ b u, b ≠ P → s2.heap.get? b = some u → h3.get? b = some u := fun b u hb e => hx b u hb e
    refine wpAny_builtinsFor (m := X.mg) (by rw [I2.ok.glob]; exact ((I2.mod.glob.keeps I2.bk)).extBut hx TB.gP) e1 e2 (keep3 _ _ e4 (I2.bk _ _ e5)) e6 e7 e8 ?_
    have I3 : Inv X pins σ (upd H2 P (.tbl (ps ++ more))) { s2 with heap := h3, toks := tk } := inv_tab (more := more) (g' := s2.gens) (d' := s2.drawn) (t' := tk) I2 hP keep3 (by rw [← em]; exact hP3) I2.bare
    have tb : Tabbed P H2 (upd H2 P (.tbl (ps ++ more))) := ⟨⟨ps ++ more, upd_same, by rw [← em]; exact ht3⟩, fun b hb => upd_ne hb⟩
    obtain ⟨W, ⟨m0, w0⟩, turn⟩ := q _ tb
    have lt2 : ∀ b ∈ fp, b < s2.heap.objs.size := fun b hb => by
      obtain ⟨o, e, _⟩ := T.obj _ _ st2 b hb
      exact Heap.lt_size e
    have f3 : ∀ b ∈ fp, FpOk X pins (upd H2 P (.tbl (ps ++ more))) b ∧ b < h3.objs.size := fun b hb => by
      refine ⟨⟨?_, (f2 b hb).2⟩, Nat.lt_of_lt_of_le (lt2 b hb) hsz⟩
      rw [upd_ne (fpP b hb)]
      exact (f2 b hb).1
    generalize hs3 : ({ s2 with heap := h3, toks := tk } : Shared) = s3 at I3 ⊢
    have h33 : s3.heap = h3 := by rw [← hs3]
    rw [← h33] at f3
    intro h' hn' hs'
    have I5 := gen_start (code := code) (G := s3.gens.push (.fresh (.compStart (.GeneratorExp elt [⟨tg, iter, [], 0⟩] scope gpos) 0 (.ref it) .none (genE X scope s3.heap.objs.size code)))) (tk := s3.toks + 1 + 1 + 1)
      (go := { cls := .type "generator", data := .fields #[.int s3.gens.size 0, .str "<genexpr>" (s3.toks + 1), .str (X.env.qual ++ "<genexpr>") (s3.toks + 1 + 1)] }) I3 ok hcell hN f3 hn' hs' (fun v z => by cases z) (Heap.get?_push_size _ rfl) (AllBare.push I3.bare rfl)
    have hsz' : h'.objs.size = s3.heap.objs.size + 1 := by rw [hs'.1, Heap.size_push]
    have isgen : ∀ σ' H' s', Inv (genCx X s3 (upd H2 P (.tbl (ps ++ more))) (genE X scope s3.heap.objs.size code) fp [(h'.objs.size, { cls := .type "generator", data := .fields #[.int s3.gens.size 0, .str "<genexpr>" (s3.toks + 1), .str (X.env.qual ++ "<genexpr>") (s3.toks + 1 + 1)] })]) [] σ' H' s' → s'.heap.IsGen h'.objs.size s3.gens.size := fun σ' H' s' J' =>
      ⟨_, _, _, (J'.pin (h'.objs.size, _) (List.mem_append_left _ (List.mem_singleton.mpr rfl))).1, rfl, rfl, rfl⟩
    have keep5 : ∀ b o, s3.heap.get? b = some o → (h'.push { cls := .type "generator", data := .fields #[.int s3.gens.size 0, .str "<genexpr>" (s3.toks + 1), .str (X.env.qual ++ "<genexpr>") (s3.toks + 1 + 1)] }).get? b = some o := fun b o e => Heap.get?_push_of_some _ (hs'.extBut b o (Nat.ne_of_lt (Heap.lt_size e)) (Heap.get?_push_of_some _ e))
    have st3 : tn 0 s3.heap := T.keep _ _ _ st2 fun b hb o e => by rw [h33]; exact keep3 b o (fpP b hb) e
    have st5 := T.keep _ _ _ st3 fun b hb o e => keep5 b o e
    refine hQ h'.objs.size s3.gens.size (m0 + 1) s3 _ (genE X scope s3.heap.objs.size code) fp _ _ (isgen _ _ _ I5) I5.nolimit isgen (fun σ' H' s' J' => ?_) ⟨_, Array.getElem?_push_size .., rfl, ?_⟩
    · exact I3.call' (ch := fp) J'.os J'.base J'.hok J'.bare fun b hb => ⟨(f3 b hb).1.2.2.2.1, (f3 b hb).1.2.1, (f3 b hb).1.2.2.2.2.1, (f3 b hb).1.2.2.2.2.2⟩
    · refine seg_begin (J := J) T ?_ (seg_loop (W := W) hc T (hg s3 _ s3.heap.objs.size code fp _) (he s3 _ s3.heap.objs.size code fp _) hco ?_ turn (m0 + 1) m0 0 _ _ _ (Nat.lt_succ_self _) w0 (inv_slp I5 ⟨rfl, allBare_setGen I5.bare rfl, fun _ _ e => e⟩) ?_ fun b hb => (f3 b hb).1.1)
      · exact st5
      · intro p hp z
        rw [List.mem_singleton.mp hp] at z
        have := (f3 _ z).2
        rw [hsz'] at this
        exact absurd (Nat.lt_trans (Nat.lt_succ_self _) this) (Nat.lt_irrefl _)
      · exact st5
  refine ⟨I2.nolimit, ?_⟩
  cases hf : codeAmong gpos ps.toList with
  | none =>
    refine wpAny_genexprCodeX hcode (cd.code hPs ht) (cd.tab hPs) hf fun c' h' tk hx hge hlt hco' _ htab' _ => ?_
    obtain ⟨o1, vs, f1, tf, fl, tg, inF, tx, tt, op, _, _, _, _, _, _, _, _, _, htr, _⟩ := hco'
    exact cont _ h' tk _ hx (Nat.le_trans hge (Nat.le_of_lt hlt)) htab'.2 ⟨_, rfl⟩ htr
  | some cv =>
    refine wpAny_genexprCode_hit hcode (cd.code hPs ht) hf ?_
    exact cont cv s2.heap s2.toks ps (Heap.ExtBut.refl _ _) (Nat.le_refl _) hPs ⟨#[], by simp⟩ ht
end
section
variable {X : Cx} {c P : Addr} {elt tg iter : Expr} {scope : Scope} {own : List (Str × Nat)} {p pos gpos : Pos} {wi : TI} {g : TG} {te : TE} {k : Nat}
theorem pe_allG (hr : Room (k + 1) X.A) (hc : X.calm = true) (hN : X.N.Nodup) (hgl : Gl X "all") (hm : X.mg "all" = none) (TB : TabB X.base X.mg c P) (hcode : X.env.code = .ref c) (ok : BlkOk X.N X.env.scope scope own) (hcell : ∀ y ∈ scope.names, y.2 ≠ .cell) (h0 : scope.names.lookup (".0" : Str) = some NameKind.local) (hco : scope.isCoroutine = false)
    (hi : PI X tg iter wi) (hg : ∀ (s : Shared) (H : Hp) (C : Addr) (code : Value) (fp : List Addr) (pn : List (Addr × Obj)), PG (genCx X s H (genE X scope C code) fp pn) tg g) (he : ∀ (s : Shared) (H : Hp) (C : Addr) (code : Value) (fp : List Addr) (pn : List (Addr × Obj)), PE (genCx X s H (genE X scope C code) fp pn) elt te)
    (hs : ∀ v, genFold iter X.env v = pure v := by intro _; rfl)
    (hst : starEach [.GeneratorExp elt [⟨tg, iter, [], 0⟩] scope gpos] X.env = (false, eval (.GeneratorExp elt [⟨tg, iter, [], 0⟩] scope gpos) X.env) :: starEach [] X.env := by rfl) :
    PE X (.Call (.Name "all" p) [.GeneratorExp elt [⟨tg, iter, [], 0⟩] scope gpos] [] pos) (tAskG P true wi g te (own.map (·.2))) := by
  refine ⟨fun pins s σ H Q I h => ?_⟩
  refine wpAny_Call_Name_kw (ld_blt I hgl hm (u := .builtin "all") (by first | rfl | decide +kernel) ?_ (by first | decide +kernel | decide) (by first | decide +kernel | decide))
  refine PyProof.Rows.callWith_builtin1 ?_ hst (by rfl)
  rw [hst]
  show wpAny _ _ (spliced ((false, eval (.GeneratorExp elt [⟨tg, iter, [], 0⟩] scope gpos) X.env) :: backTo pos (starEach [] X.env))) _ _ s
  refine Calls.spliced_cons (made hr hc hN TB hcode ok hcell h0 hco hi hg he hs I h fun a gn n s3 H3 cenv fp pn s5 i1 i2 i3 i4 i5 => ?_)
  refine Calls.spliced_nil ?_
  refine call_function_tree F.kind_all F.plain_all F.entry_all (F.args_all1 _) ?_
  unfold Builtin.«all»
  refine wpAny_bind (m := oneArg "all" _) (wpAny_pure ?_)
  refine wpAny_bind (wpAny_pyIter_gen i1 ?_)
  exact wpAny_pure ⟨plainId_quiet F.plain_all_loop _, all_loop hr.hd hr.depth i3 (fun b σ' H' s' J' q => ⟨.bl b, H', i4 σ' H' s' J', rfl, q⟩) n s5 i1 i2 i5⟩
theorem pe_anyG (hr : Room (k + 1) X.A) (hc : X.calm = true) (hN : X.N.Nodup) (hgl : Gl X "any") (hm : X.mg "any" = none) (TB : TabB X.base X.mg c P) (hcode : X.env.code = .ref c) (ok : BlkOk X.N X.env.scope scope own) (hcell : ∀ y ∈ scope.names, y.2 ≠ .cell) (h0 : scope.names.lookup (".0" : Str) = some NameKind.local) (hco : scope.isCoroutine = false)
    (hi : PI X tg iter wi) (hg : ∀ (s : Shared) (H : Hp) (C : Addr) (code : Value) (fp : List Addr) (pn : List (Addr × Obj)), PG (genCx X s H (genE X scope C code) fp pn) tg g) (he : ∀ (s : Shared) (H : Hp) (C : Addr) (code : Value) (fp : List Addr) (pn : List (Addr × Obj)), PE (genCx X s H (genE X scope C code) fp pn) elt te)
    (hs : ∀ v, genFold iter X.env v = pure v := by intro _; rfl)
    (hst : starEach [.GeneratorExp elt [⟨tg, iter, [], 0⟩] scope gpos] X.env = (false, eval (.GeneratorExp elt [⟨tg, iter, [], 0⟩] scope gpos) X.env) :: starEach [] X.env := by rfl) :
    PE X (.Call (.Name "any" p) [.GeneratorExp elt [⟨tg, iter, [], 0⟩] scope gpos] [] pos) (tAskG P false wi g te (own.map (·.2))) := by
  refine ⟨fun pins s σ H Q I h => ?_⟩
  refine wpAny_Call_Name_kw (ld_blt I hgl hm (u := .builtin "any") (by first | rfl | decide +kernel) ?_ (by first | decide +kernel | decide) (by first | decide +kernel | decide))
  refine PyProof.Rows.callWith_builtin1 ?_ hst (by rfl)
  rw [hst]
  show wpAny _ _ (spliced ((false, eval (.GeneratorExp elt [⟨tg, iter, [], 0⟩] scope gpos) X.env) :: backTo pos (starEach [] X.env))) _ _ s
  refine Calls.spliced_cons (made hr hc hN TB hcode ok hcell h0 hco hi hg he hs I h fun a gn n s3 H3 cenv fp pn s5 i1 i2 i3 i4 i5 => ?_)
  refine Calls.spliced_nil ?_
  refine call_function_tree F.kind_any F.plain_any F.entry_any (F.args_any1 _) ?_
  unfold Builtin.«any»
  refine wpAny_bind (m := oneArg "any" _) (wpAny_pure ?_)
  refine wpAny_bind (wpAny_pyIter_gen i1 ?_)
  exact wpAny_pure ⟨plainId_quiet F.plain_any_loop _, any_loop hr.hd hr.depth i3 (fun b σ' H' s' J' q => ⟨.bl b, H', i4 σ' H' s' J', rfl, q⟩) n s5 i1 i2 i5⟩
end
end GnX
set_option maxHeartbeats 1000000
namespace Pu
open PySem PySem.Spec PyProof.Rows L2
variable [Tbs]
open GnX GxR
/-! ### all, any of a generator expression -/
def askP (fin : Bool) (pg : PGt) (pe : PX) (env : List SV) : List D → (D → Prop) → Prop
  | [], k => k (.bl fin)
  | d :: ds, k => pg d env fun env1 => pe env1 fun r => match r with
    | .bl b => if b = fin then askP fin pg pe env ds k else k (.bl b)
    | _ => False
def eAsk (fin : Bool) (vs : List Nat) (pi : PIt) (pg : PGt) (pe : PX) : PX := fun env k => pi env fun ds => noOwn env vs ∧ askP fin pg pe (wipeE env vs) ds k
theorem evo_tab {z : Zn} {H1 H2 : Hp} {P : Addr} (hP : P ∈ Tbs.tb) (ht : Tabs H1) (tb : Tabbed P H1 H2) : Evo z H1 H2 := by
  obtain ⟨ps, e, _⟩ := ht P hP
  refine ⟨fun a o q n => ?_, fun a q => ?_, fun a q => ?_, fun h R hR => ?_⟩
  · rw [tb.2 a (fun w => n (.inr (by rw [w]; exact hP)))]; exact q
  · by_cases w : a = P
    · obtain ⟨ps', e', _⟩ := tb.1
      rw [w, e']; intro q; cases q
    · rw [tb.2 a w]; exact q
  · obtain ⟨q1, q2, q3, q4⟩ := q
    obtain ⟨n1, n2⟩ := q3.notbl e
    exact ⟨q1, q2, q3.keep (fun o q => by rw [tb.2 _ n1]; exact q) (fun o q => by rw [tb.2 _ n2]; exact q), q4.keep fun o q => by rw [tb.2 _ n1]; exact q⟩
  · by_cases w : R = P
    · rw [w]; exact tb.1
    · obtain ⟨ps', e', t'⟩ := h R hR
      exact ⟨ps', by rw [tb.2 R w]; exact e', t'⟩
theorem re_ask {P : Addr} {fin : Bool} {wi : TI} {pi : PIt} {js vs : List Nat} {g : TG} {pg : PGt} {te : TE} {pe : PX} (hP : P ∈ Tbs.tb) (hi : RI wi pi) (hg : RG js g pg) (hj : ∀ i ∈ js, i ∈ vs) (he : RE .b te pe) : RE .e (tAskG P fin wi g te vs) (eAsk fin vs pi pg pe) := fun z X H0 H σ env Q k o c hp => by
  refine hi z X H0 H σ env _ _ o (fun ds J H1 e1 yl hx => ?_) hp
  obtain ⟨hn, hx⟩ := hx
  have o1 := o.go e1
  refine ⟨o1.tab P hP, fun H2 tb => ?_⟩
  have e2 : Evo z H1 H2 := evo_tab hP o1.tab tb
  refine ⟨fun i mm H' => mm = ds.length - i ∧ i ≤ ds.length ∧ Evo z H1 H' ∧ askP fin pg pe (wipeE env vs) (ds.drop i) k, ⟨ds.length, by simp, Nat.zero_le _, e2, by simpa using hx⟩, ?_⟩
  rintro i mm H' ⟨rfl, hil, e', hk⟩
  have oL := o1.go e'
  obtain ⟨y1, y2⟩ := yl _ _ (o1.fr e')
  by_cases hlt : i < ds.length
  · obtain ⟨go, y3⟩ := y2 i ds[i] (List.getElem?_eq_getElem hlt)
    rw [List.drop_eq_getElem_cons hlt] at hk
    refine .inr ⟨go, fun H2 => Evo z H1 H2 ∧ askP fin pg pe (wipeE env vs) (ds.drop (i + 1)) k, fun H2 h2 => ⟨ds.length - (i + 1), by omega, rfl, hlt, h2⟩, fun x H2 hy => ?_⟩
    obtain ⟨e3, is⟩ := y3 x H2 hy
    have oL2 := oL.go e3
    obtain ⟨oW, sub⟩ := oL2.wipe (vs := vs)
    refine hg z X H0 H2 _ _ x _ _ _ oW ((is (fun a q => .inl q) (fun b q => oL.notMs q)).weak sub) (fun env3 σ3 o3 f3 kp hx3 => ⟨wipe_eq kp hj, ?_⟩) hk
    refine he z X H0 H2 σ3 env3 _ _ o3 (fun r y H4 e4 r4 hx5 => ?_) hx3
    have e5 := e'.trans (e3.trans e4)
    cases r with
    | bl b =>
      cases (show Is z (Zx z X) H4 y (.bl b) from r4)
      refine ⟨b, rfl, ?_⟩
      replace hx5 : (if b = fin then askP fin pg pe (wipeE env vs) (ds.drop (i + 1)) k else k (.bl b)) := hx5
      by_cases hb : b = fin
      · exact .inl ⟨hb, e5, by rw [if_pos hb] at hx5; exact hx5⟩
      · exact .inr ⟨hb, c (.bl b) (.bl b) H4 (e1.trans e5) (.bl b) (by rw [if_neg hb] at hx5; exact hx5)⟩
    | _ => exact (show False from hx5).elim
  · have ei : i = ds.length := by omega
    subst ei
    rw [List.drop_length] at hk
    exact .inl ⟨y1, c (.bl fin) (.bl fin) H' (e1.trans e') (.bl fin) hk⟩
section
variable {C : Cx} {c P : Addr} {elt tg iter : Expr} {scope : Scope} {own : List (Str × Nat)} {p pos gpos : Pos} {pi : PIt} {js : List Nat} {g : TG} {pg : PGt} {pe : PX} {k : Nat}
/-- the scope of a generator expression: no cells, the walked thing at «.0» -/
def genC (scope : Scope) : Bool := (scope.names.all fun y => match y.2 with | .cell => false | _ => true) && (match scope.names.lookup (".0" : Str) with | some .local => true | _ => false) && !scope.isCoroutine
theorem genC_of (h : genC scope = true) : (∀ y ∈ scope.names, y.2 ≠ .cell) ∧ scope.names.lookup (".0" : Str) = some NameKind.local ∧ scope.isCoroutine = false := by
  unfold genC at h
  simp only [Bool.and_eq_true, List.all_eq_true, Bool.not_eq_true'] at h
  obtain ⟨⟨h1, h2⟩, h3⟩ := h
  refine ⟨fun y hy e => ?_, ?_, h3⟩
  · have := h1 y hy
    rw [e] at this
    cases this
  · split at h2
    · assumption
    · cases h2
theorem e_all (hr : Room (k + 1) C.A) (hi : I C tg iter pi) (hg : ∀ (s : Shared) (H : Hp) (Ca : Addr) (code : Value) (fp : List Addr) (pn : List (Addr × Obj)), G (genCx C s H (genE C scope Ca code) fp pn) tg js g pg)
    (he : ∀ (s : Shared) (H : Hp) (Ca : Addr) (code : Value) (fp : List Addr) (pn : List (Addr × Obj)), Room k (genCx C s H (genE C scope Ca code) fp pn).A → E .b (genCx C s H (genE C scope Ca code) fp pn) elt pe) (hc : C.calm = true) (hN : C.N.Nodup)
    (hgl : Gl C "all") (hm : C.mg "all" = none) (TB : TabB C.base C.mg c P) (hP : P ∈ Tbs.tb) (hcode : C.env.code = .ref c) (ok : BlkOk C.N C.env.scope scope own) (gc : genC scope = true) (hj : ∀ i ∈ js, i ∈ own.map (·.2)) (rg : RG js g pg) (hs : ∀ v, genFold iter C.env v = pure v := by intro _; rfl)
    (hst : starEach [.GeneratorExp elt [⟨tg, iter, [], 0⟩] scope gpos] C.env = (false, eval (.GeneratorExp elt [⟨tg, iter, [], 0⟩] scope gpos) C.env) :: starEach [] C.env := by rfl) :
    E .e C (.Call (.Name "all" p) [.GeneratorExp elt [⟨tg, iter, [], 0⟩] scope gpos] [] pos) (eAsk true (own.map (·.2)) pi pg pe) :=
  ⟨_, pe_allG hr hc hN hgl hm TB hcode ok (genC_of gc).1 (genC_of gc).2.1 (genC_of gc).2.2 hi.pi (fun s H Ca code fp pn => (hg s H Ca code fp pn).pg) (fun s H Ca code fp pn => (he s H Ca code fp pn (room_gen hr _)).pe) hs hst, re_ask hP ri_tP rg hj re_tP⟩
theorem e_any (hr : Room (k + 1) C.A) (hi : I C tg iter pi) (hg : ∀ (s : Shared) (H : Hp) (Ca : Addr) (code : Value) (fp : List Addr) (pn : List (Addr × Obj)), G (genCx C s H (genE C scope Ca code) fp pn) tg js g pg)
    (he : ∀ (s : Shared) (H : Hp) (Ca : Addr) (code : Value) (fp : List Addr) (pn : List (Addr × Obj)), Room k (genCx C s H (genE C scope Ca code) fp pn).A → E .b (genCx C s H (genE C scope Ca code) fp pn) elt pe) (hc : C.calm = true) (hN : C.N.Nodup)
    (hgl : Gl C "any") (hm : C.mg "any" = none) (TB : TabB C.base C.mg c P) (hP : P ∈ Tbs.tb) (hcode : C.env.code = .ref c) (ok : BlkOk C.N C.env.scope scope own) (gc : genC scope = true) (hj : ∀ i ∈ js, i ∈ own.map (·.2)) (rg : RG js g pg) (hs : ∀ v, genFold iter C.env v = pure v := by intro _; rfl)
    (hst : starEach [.GeneratorExp elt [⟨tg, iter, [], 0⟩] scope gpos] C.env = (false, eval (.GeneratorExp elt [⟨tg, iter, [], 0⟩] scope gpos) C.env) :: starEach [] C.env := by rfl) :
    E .e C (.Call (.Name "any" p) [.GeneratorExp elt [⟨tg, iter, [], 0⟩] scope gpos] [] pos) (eAsk false (own.map (·.2)) pi pg pe) :=
  ⟨_, pe_anyG hr hc hN hgl hm TB hcode ok (genC_of gc).1 (genC_of gc).2.1 (genC_of gc).2.2 hi.pi (fun s H Ca code fp pn => (hg s H Ca code fp pn).pg) (fun s H Ca code fp pn => (he s H Ca code fp pn (room_gen hr _)).pe) hs hst, re_ask hP ri_tP rg hj re_tP⟩
end
/-! // by a great divisor -/
/-! ### a def that holds a generator expression -/
section
variable {P : Program} {w : World} {K : PySem.W.Frag} {mg : Str → Option Value} {base : Heap}
theorem fn_okT {x qual : Str} {st : Stmt} {f c : Addr} {fd : FuncData} {N ps : List Str} {k : Nat} {fr : Bool} {p : PSt} (F : Fun K x qual st f fd) (hc : fd.code = .ref c) (S : FnScope N ps (defScope st))
    (hb : ∀ (A : Around) (outer : List Env) (s : Shared) (H : Hp) (E : XK), Room k (A.deeper (envOfC qual (defScope st) s.heap.objs.size f (.ref c))) → B fr (cxOf CX0 P w K mg base N qual (defScope st) f (.ref c) A outer s H E).nox (defBody st) p) :
    FnOk P w K mg base CX0 (k + 1) f fd ps (Sf fr ps.length (wpOf fr N.length p)) := by
  obtain ⟨oc, od, kV, doc, pm, an, cdv, ct, osl, rfl, lk, hcd⟩ := F.ex
  obtain rfl : cdv = .ref c := hc
  refine fn_of lk hcd S (fun vs H Q E h => ?_) fun A outer s H vs Q E hr h => ?_
  · obtain ⟨z, X, ds, kk, hl, _⟩ := h
    exact hl
  · obtain ⟨z, X, ds, kk, hl, hz, hx, hA, hw, c⟩ := h
    obtain ⟨t, b1, b2⟩ := hb A outer s H E hr
    refine ⟨t, b1.nox, b2 z X H H (L2.start N vs) _ _ { nx := fun _ => fr = false ∧ kk .non, rt := kk } (start_ok hz hx hA) ⟨fun env' σ' H' o' f' hk => ?_, fun d v H' e r fq hk => ?_, fun _ _ _ _ _ hk => hk.elim, fun _ _ _ _ _ hk => hk.elim, fun _ _ _ _ _ _ _ h => h.elim⟩ hw⟩
    · exact c .non .non H' o'.evo .non (fun q => by rw [hk.1] at q; cases q) hk.2
    · exact c d v H' e r fq hk
end
/-! ### readings -/
theorem eAsk_i {fin : Bool} {vs : List Nat} {pi : PIt} {pg : PGt} {pe : PX} {env : List SV} {k : D → Prop} (h : pi env fun ds => noOwn env vs ∧ askP fin pg pe (wipeE env vs) ds k) : eAsk fin vs pi pg pe env k := h
/-- each element's truth is known -/
theorem askP_i {fin : Bool} {pg : PGt} {pe : PX} {env : List SV} {k : D → Prop} {α : Type} (f : α → D) (b : α → Bool) : ∀ (l : List α), (∀ x ∈ l, ∀ k' : D → Prop, k' (.bl (b x)) → pg (f x) env fun env1 => pe env1 k') → k (.bl (if fin = true then l.all b else l.any b)) → askP fin pg pe env (l.map f) k
  | [], _, h => by cases fin <;> exact h
  | x :: l, hs, h => by
    refine hs x List.mem_cons_self _ ?_
    show (if b x = fin then askP fin pg pe env (l.map f) k else k (.bl (b x)))
    by_cases e : b x = fin
    · rw [if_pos e]
      refine askP_i f b l (fun y hy => hs y (List.mem_cons_of_mem _ hy)) ?_
      cases fin
      · rw [if_neg Bool.false_ne_true] at h ⊢
        rw [List.any_cons, e, Bool.false_or] at h
        exact h
      · rw [if_pos rfl] at h ⊢
        rw [List.all_cons, e, Bool.true_and] at h
        exact h
    · rw [if_neg e]
      cases fin
      · rw [if_neg Bool.false_ne_true, List.any_cons] at h
        have : b x = true := by cases q : b x <;> simp_all
        rw [this] at h ⊢
        exact h
      · rw [if_pos rfl, List.all_cons] at h
        have : b x = false := by cases q : b x <;> simp_all
        rw [this] at h ⊢
        exact h
/-! ### the law's end, with tables -/
omit [Tbs] in
theorem tabIn_mk {K : PySem.W.Frag} {x : Str} {f q p : Addr} {oc ec : Value} {od ed : Option Addr} {fd : FuncData} {sl es : Array (Option Value)} {ev : Array Value} (a : PySem.W.nsIn K mainGlobals x = some (some (.ref f))) (l : K.lookup f = some ⟨oc, od, .func fd, sl⟩) (hc : fd.code = .ref q)
    (u : K.lookup q = some ⟨ec, ed, .fields ev, es⟩) (w : ev[11]? = some (.ref p)) : PySem.W.tabIn K x = some (q, p) := by
  unfold PySem.W.tabIn
  simp only [a, l, hc, u, w]
omit [Tbs] in
theorem walkT {l : PySem.W.OpenLaw} {q : Program} {loose : List Str} {XP : (Str → Option Value) → Heap → Prop} {YP : World → Heap → Prop} {d : DefRec} {K : Params → PySem.W.Frag} {k : Nat} (hn : l.most = some 63) (hdf : d.params.defaults = []) (hr : Room k callerA)
    (hY : ∀ (w : World) (h : Heap), YP w h → (K w.params).In h) (names : List Str) (hrec : (names.all fun x => ((recsOf q).find? fun e => e.name == x).isSome) = true)
    (F : ∀ (w : World) (mg : Str → Option Value) (fa : Addr) (h : Heap), (K w.params).In h → h.Ns mainGlobals mg → mg d.name = some (.ref fa) →
      ∃ (fd : FuncData) (cs : List (Addr × Addr)), (∀ p ∈ cs, ∃ x ∈ names, PySem.W.tabIn (K w.params) x = some p) ∧ (∀ p ∈ cs, (K w.params).lookup p.2 = none) ∧ (∀ (s : Shared) (u : Value), BindsTo s fd ⟨[u], []⟩ [("_law_script", u)]) ∧
        ∀ base : Heap, (K w.params).In base → base.Ns mainGlobals mg → (∀ p ∈ cs, TabB base mg p.1 p.2) → FnOk l.prog w (K w.params) mg base CX0 k fa fd ["_law_script"] (sp_lawT (K w.params) (cs.map (·.2)))) :
    PySem.W.WalkO q loose XP YP l.row.toRowW d [] (fun f vs => PySem.call f vs) := by
  refine Att.attach_call hn hdf fun w s₀ s₁ mg mb fa o pm cd doc a vs ns G Y _ _ _ hmg hobj hints hlen hg => ?_
  have KX := hY w _ Y
  obtain ⟨fd, cs, hx, nT, hb, hF⟩ := F w mg fa _ KX G.T.g hmg
  have hT : ∀ p ∈ cs, PySem.W.CodeHd s₁.heap p.1 p.2 ∧ s₁.heap.get? p.2 = some (PySem.W.tabObj #[]) := fun p hp => by
    obtain ⟨x, hxn, e⟩ := hx p hp
    obtain ⟨d', hd'⟩ := Option.isSome_iff_exists.mp (List.all_eq_true.mp hrec x hxn)
    exact PySem.W.tab_of G.T KX hd' e
  refine LamX.law_callTs (CX := CX0) KX G.T.g G.T.b G.T.builtins G.T.nolimit hg (fun p hp => (hT p hp).2) nT (fun p hp => (hT p hp).1) G.T.bmain hobj hints (Nat.le_trans hlen (by decide)) hr (fun base b1 b2 TB => hF base b1 b2 fun p hp => ⟨(TB p hp).1, (TB p hp).2, (TB p hp).3⟩) hb (fun H hH hS => ⟨a, ns, rfl, hS, hlen, fun P hP => ?_, fun _ => rfl⟩) fun H e s' z => z
  obtain ⟨p, hp, rfl⟩ := List.mem_map.mp hP
  exact ⟨#[], hH p hp, by first | trivial | exact .nil | (simp [TriplesOk])⟩
end Pu
/-! == and != with an empty list or tuple, whatever the other one holds -/
namespace Pu
open PySem PySem.Spec PyProof.Rows L2
end Pu
/-! sets of whole numbers of a def's own: set(), in, add -/
namespace Pu
open PySem PySem.Spec PyProof.Rows L2
end Pu
/-! x.extend(a tuple), range(i, j, -1) -/
namespace Pu
open PySem PySem.Spec PyProof.Rows L2
/-! range(i, j, -1) -/
end Pu
namespace Pu
open PySem PySem.Spec PyProof.Rows L2
variable [Tbs]
/-! ### a list that a def borrows and changes in place -/
def mask (H : Hp) (a : Addr) : Hp := fun b => if b = a then none else H b
def zb (z : Zn) (o : Option Addr) : Zn := { z with bo := o }
section
variable {z : Zn} {X : AP} {M : AP} {H0 H H' : Hp} {σ : Sl} {env : List SV} {a : Addr} {w : Option Addr}
theorem mask_self : mask H a a = none := by unfold mask; rw [if_pos rfl]
theorem mask_ne {b : Addr} (h : b ≠ a) : mask H a b = H b := by unfold mask; rw [if_neg h]
theorem mask_old {b : Addr} {o : HO} (h : mask H a b = some o) : b ≠ a ∧ H b = some o := by
  unfold mask at h
  split at h
  · cases h
  · exact ⟨by assumption, h⟩
mutual
theorem Is.zb : ∀ {v : V} {d : D}, Is z M H v d → Is (zb z w) M H v d
  | _, _, .non => .non
  | _, _, .bl b => .bl b
  | _, _, .int i => .int i
  | _, _, .str s => .str s
  | _, _, .ty n => .ty n
  | _, _, .tup e n r => .tup e n (IsA.zb r)
  | _, _, .lst e n r => .lst e n (IsA.zb r)
  | _, _, .dic e n r => .dic e n (IsK.zb r)
  | _, _, .deck e => Is.deck (z := Pu.zb z w) e
  | _, _, .dpr e n => .dpr e n
  | _, _, .dfz e n => .dfz e n
  | _, _, .st e l n => .st e l n
  | _, _, .bor e n r => .bor e n (IsA.zb r)
  | _, _, .opq v => .opq v
  | _, _, .dpd e n q r => .dpd e n q (IsA.zb r)
theorem IsA.zb : ∀ {v : List V} {d : List D}, IsA z M H v d → IsA (zb z w) M H v d
  | _, _, .nil => .nil
  | _, _, .cons h t => .cons (Is.zb h) (IsA.zb t)
theorem IsK.zb : ∀ {v : List (Key × V)} {d : List (Key × D)}, IsK z M H v d → IsK (zb z w) M H v d
  | _, _, .nil => .nil
  | _, _, .cons h t => .cons (Is.zb h) (IsK.zb t)
end
theorem Is.unzb {v : V} {d : D} (h : Is (Pu.zb z w) M H v d) : Is z M H v d := Is.zb (z := Pu.zb z w) (w := z.bo) h
theorem IsA.unzb {v : List V} {d : List D} (h : IsA (Pu.zb z w) M H v d) : IsA z M H v d := IsA.zb (z := Pu.zb z w) (w := z.bo) h
theorem Evo.unzb (h : Evo (Pu.zb z w) H H') : Evo z H H' := ⟨h.old, h.al, h.dk, h.tab⟩
theorem evo_mask (ha : ¬ z.Z a) : Evo (Pu.zb z w) (mask H a) H :=
  ⟨fun b o h _ => (mask_old h).2, fun b h => by
    by_cases e : b = a
    · rw [e, mask_self] at h; exact absurd rfl h
    · rw [mask_ne e] at h; exact h,
   fun b h => (Pu.zb z w).keep _ _ _ h fun c o _ q => (mask_old q).2,
   fun h P hP => by
    obtain ⟨ps, e, t⟩ := h P hP
    exact ⟨ps, (mask_old e).2, t⟩⟩
theorem ok_mask (ha : ¬ z.Z a) {b : Addr} (h : z.ok H b) : z.ok (mask H a) b :=
  z.keep _ _ _ h fun c o zc q => by rw [mask_ne (fun (e : c = a) => ha (by rw [← e]; exact zc))]; exact q
theorem tab_mask (ha : ¬ z.Z a) (h : Tabs H) : Tabs (mask H a) := fun P hP => by
  obtain ⟨ps, e, t⟩ := h P hP
  exact ⟨ps, by rw [mask_ne (fun (q : P = a) => ha (.inr (by rw [← q]; exact hP)))]; exact e, t⟩
/-- what a slot owns was lent and comes back -/
theorem Ok.lend (k : Ok z X H0 H σ env) {i : Nat} {d d' : D} (hi : env[i]? = some (.own d)) (hs : σ[i]? = some (some (V.ref a))) (ev : Evo z (mask H a) H') (hc : Con z (Ms z X σ env) H' a d') :
    Ok z X H0 H' σ (env.set i (.own d')) ∧ Fr z X (Ms z X σ env) H (Ms z X σ (env.set i (.own d'))) H' := by
  have hl : i < env.length := (List.getElem?_eq_some_iff.mp hi).1
  obtain ⟨a', hs', hc0, hz, hx, h0⟩ := k.own i d hi
  have ea : a' = a := by rw [hs] at hs'; cases hs'; rfl
  subst ea
  have ms : ∀ b, Ms z X σ (env.set i (.own d')) b → Ms z X σ env b := by
    rintro b (h | h | ⟨j, f, h1, h2⟩)
    · exact .inl h
    · exact .inr (.inl h)
    · by_cases hj : i = j
      · subst hj
        exact .inr (.inr ⟨i, d, hi, h2⟩)
      · rw [List.getElem?_set_ne hj] at h1
        exact .inr (.inr ⟨j, f, h1, h2⟩)
  have ain : Ms z X σ env a' := .inr (.inr ⟨i, d, hi, hs⟩)
  have same : ∀ b u, H b = some u → b ≠ a' → ¬ z.Z b → H' b = some u := fun b u q n m => ev.old b u (by rw [mask_ne n]; exact q) m
  have old : ∀ b u, H b = some u → ¬ Ms z X σ env b → H' b = some u ∧ ¬ Ms z X σ (env.set i (.own d')) b := fun b u q n =>
    ⟨same b u q (fun e => n (by rw [e]; exact ain)) fun y => n (.inl y), fun x => n (ms b x)⟩
  have dk : ∀ b, z.ok H b → z.ok H' b := fun b h => ev.dk b (ok_mask hz h)
  have al : ∀ b, H b ≠ none → H' b ≠ none := fun b h => by
    by_cases e : b = a'
    · obtain ⟨o, ho⟩ := hc.some
      rw [e, ho]; intro q; cases q
    · exact ev.al b (by rw [mask_ne e]; exact h)
  have ne0 : ∀ b u, H0 b = some u → b ≠ a' := fun b u q e => by rw [e, h0] at q; cases q
  refine ⟨⟨by simp [k.len], ⟨fun b u q n => same b u (k.evo.old b u q n) (ne0 b u q) n, fun b h => al b (k.evo.al b h), fun b h => dk b (k.evo.dk b h), fun h => ev.tab (tab_mask hz (k.evo.tab h))⟩, fun b h => al b (k.zal b h), fun b h => ⟨al b (k.xal b h).1, (k.xal b h).2⟩, fun j f h => ?_, fun j f h => ?_, fun j l b f g h1 h2 h3 h4 => ?_, ev.tab (tab_mask hz k.tab)⟩, ⟨old, dk, al⟩⟩
  · by_cases hj : i = j
    · subst hj
      rw [List.getElem?_set_self hl] at h
      cases h
    · rw [List.getElem?_set_ne hj] at h
      obtain ⟨u, h1, h2⟩ := k.val j f h
      exact ⟨u, h1, h2.gen old dk⟩
  · by_cases hj : i = j
    · subst hj
      rw [List.getElem?_set_self hl] at h
      cases h
      exact ⟨a', hs, hc.gen (fun _ q => q) (fun b o q n => ⟨q, fun x => n (ms b x)⟩) fun _ h => h, hz, hx, h0⟩
    · rw [List.getElem?_set_ne hj] at h
      obtain ⟨b, h1, h2, h3, h4⟩ := k.own j f h
      have nb : b ≠ a' := fun e => hj (k.inj i j a' d f hi h hs (e ▸ h1))
      exact ⟨b, h1, h2.gen (fun o q => same b o q nb h3) old dk, h3, h4⟩
  · have un : ∀ (j : Nat) (f : D), (env.set i (.own d'))[j]? = some (.own f) → ∃ f', env[j]? = some (.own f') := fun j f h => by
      by_cases hj : i = j
      · subst hj; exact ⟨d, hi⟩
      · rw [List.getElem?_set_ne hj] at h; exact ⟨f, h⟩
    obtain ⟨f', q1⟩ := un j f h1
    obtain ⟨g', q2⟩ := un l g h2
    exact k.inj j l b f' g' q1 q2 h3 h4
end
/-- the promise of a def that borrows its last argument, a list -/
def SfB (n : Nat) (wp : List D → List D → (D → List D → Prop) → Prop) : Sp := fun vs H Q _ => ∃ (z : Zn) (X : AP) (a : Addr) (us : List V) (ds cs : List D) (k : D → List D → Prop), vs = us ++ [.ref a] ∧ us.length = n ∧ ((∀ b, z.Z b → H b ≠ none) ∧ Tabs H) ∧ (∀ b, X b → H b ≠ none ∧ ¬ z.Z b) ∧ ¬ z.Z a ∧ ¬ X a ∧
  IsA z (Zx z (X.or a)) H us ds ∧ Con z (Zx z (X.or a)) H a (.lst cs) ∧ wp ds cs k ∧
  ∀ d v H' cs', Evo z (mask H a) H' → Is z (Zx z (X.or a)) H' v d → Con z (Zx z (X.or a)) H' a (.lst cs') → k d cs' → Q v H'
def envB (n : Nat) (ds cs : List D) : List SV := ds.map SV.val ++ SV.own (.bor cs) :: List.replicate (n - (ds.length + 1)) SV.no
def wpB (n : Nat) (p : PSt) : List D → List D → (D → List D → Prop) → Prop := fun ds cs k => p (envB n ds cs) { nx := fun _ => False, rt := fun _ => False, re := fun env d => match env[ds.length]? with
  | some (.own (.bor cs')) => k d cs'
  | _ => False }
def sRetB (p : PX) : PSt := fun env k => p env fun d => k.re env d
section
variable {C : Cx} {fr : Bool} {e : Expr} {es : List Expr} {pe : PX} {ga : PAs} {pos pp : Pos}
theorem s_retB (h : E .e C e pe) : S fr C (.Return (some e) pos) (sRetB pe) := by
  obtain ⟨t, h1, h2⟩ := h
  exact ⟨_, ps_ret h1, fun z X H0 H σ env G k o s hp => h2 z X H0 H σ env _ _ o (fun d v H1 e1 r1 hx => s.re env σ H1 d v (o.go e1) r1 hx) hp⟩
theorem start_okB {z : Zn} {X : AP} {H : Hp} {N : List Str} {us : List V} {ds cs : List D} {a : Addr} (hz : (∀ a, z.Z a → H a ≠ none) ∧ Tabs H) (hx : ∀ a, X a → H a ≠ none ∧ ¬ z.Z a) (za : ¬ z.Z a) (xa : ¬ X a)
    (hA : IsA z (Zx z (X.or a)) H us ds) (hc : Con z (Zx z (X.or a)) H a (.lst cs)) (hN : ds.length < N.length) :
    Ok (zb z (some a)) X (mask H a) H (L2.start N (us ++ [V.ref a])) (envB N.length ds cs) := by
  have hl := hA.length
  have el : ∀ i, i < ds.length → (envB N.length ds cs)[i]? = (ds[i]?).map SV.val := fun i hi => by
    unfold envB; rw [List.getElem?_append_left (by simpa using hi), List.getElem?_map]
  have em : (envB N.length ds cs)[ds.length]? = some (.own (.bor cs)) := by
    unfold envB; rw [List.getElem?_append_right (by simp)]; simp
  have er : ∀ (i : Nat) (v : SV), ds.length < i → (envB N.length ds cs)[i]? = some v → v = .no := fun i v hi h => by
    unfold envB at h
    rw [List.getElem?_append_right (by simp; omega)] at h
    obtain ⟨m, hm⟩ : ∃ m, i - (ds.map SV.val).length = m + 1 := ⟨i - ds.length - 1, by simp; omega⟩
    rw [hm, List.getElem?_cons_succ, List.getElem?_replicate] at h
    split at h <;> cases h
    rfl
  have on : ∀ (i : Nat) (d : D), (envB N.length ds cs)[i]? = some (.own d) → i = ds.length ∧ d = .bor cs := fun i d h => by
    rcases Nat.lt_trichotomy i ds.length with q | q | q
    · rw [el i q, List.getElem?_eq_getElem q] at h; cases h
    · rw [q, em] at h; cases h; exact ⟨q, rfl⟩
    · have := er i _ q h; cases this
  have sl : ∀ i, i < us.length → (L2.start N (us ++ [V.ref a]))[i]? = (us[i]?).map some := fun i hi => by
    unfold L2.start
    rw [List.getElem?_append_left (by simp; omega), List.getElem?_map, List.getElem?_append_left hi]
  have sm : (L2.start N (us ++ [V.ref a]))[ds.length]? = some (some (.ref a)) := by
    unfold L2.start
    rw [← hl, List.getElem?_append_left (by simp), List.getElem?_map, List.getElem?_append_right (Nat.le_refl _)]
    simp
  have ms : ∀ b, Ms (zb z (some a)) X (L2.start N (us ++ [V.ref a])) (envB N.length ds cs) b → Zx z (X.or a) b := by
    rintro b (h | h | ⟨i, d, h1, h2⟩)
    · exact .inl h
    · exact .inr (.inl h)
    · obtain ⟨rfl, _⟩ := on i d h1
      rw [sm] at h2
      cases h2
      exact .inr (.inr rfl)
  refine ⟨by unfold L2.start envB; simp; omega, evo_mask za, hz.1, hx, fun i d h => ?_, fun i d h => ?_, fun i j b d e h1 h2 _ _ => (on i d h1).1.trans (on j e h2).1.symm, hz.2⟩
  · rcases Nat.lt_trichotomy i ds.length with q | q | q
    · rw [el i q] at h
      cases q2 : ds[i]? with
      | none => rw [q2] at h; cases h
      | some x =>
        rw [q2] at h
        cases h
        obtain ⟨v, h1, h2⟩ := hA.get q2
        exact ⟨v, by rw [sl i (by omega), h1]; rfl, (h2.weak ms).zb⟩
    · rw [q, em] at h; cases h
    · have := er i _ q h; cases this
  · obtain ⟨rfl, rfl⟩ := on i d h
    obtain ⟨vs, q1, q2⟩ := hc
    exact ⟨a, sm, ⟨rfl, vs, q1, (q2.weak ms).zb⟩, za, xa, mask_self⟩
end
section
variable {P : Program} {w : World} {K : PySem.W.Frag} {mg : Str → Option Value} {base : Heap}
theorem fn_okB {x qual : Str} {st : Stmt} {f : Addr} {fd : FuncData} {N ps : List Str} {k n : Nat} {p : PSt} (F : Fun K x qual st f fd) (S : FnScope N ps (defScope st)) (hn : ps.length = n + 1) (hN : n < N.length)
    (hb : ∀ (cdv : Value) (A : Around) (outer : List Env) (s : Shared) (H : Hp) (E : XK), Room k (A.deeper (envOfC qual (defScope st) s.heap.objs.size f cdv)) → B false (cxOf CX0 P w K mg base N qual (defScope st) f cdv A outer s H E).nox (defBody st) p) :
    FnOk P w K mg base CX0 (k + 1) f fd ps (SfB n (fun ds cs k => ds.length = n ∧ wpB N.length p ds cs k)) := by
  refine F.ok S (fun vs H Q E h => ?_) (fun cdv A outer s H vs Q E hr h => ?_)
  · obtain ⟨z, X, a, us, ds, cs, kk, hv, hl, _⟩ := h
    rw [hv, hn, List.length_append, hl]; rfl
  · obtain ⟨z, X, a, us, ds, cs, kk, rfl, hl, hz, hx, za, xa, hA, hc, ⟨hd, hw⟩, c⟩ := h
    obtain ⟨t, b1, b2⟩ := hb cdv A outer s H E hr
    refine ⟨t, b1, b2 (zb z (some a)) X (mask H a) H (L2.start N (us ++ [V.ref a])) _ _ { nx := fun _ => False, rt := fun _ => False, re := fun env d => match env[ds.length]? with
  | some (.own (.bor cs')) => kk d cs'
  | _ => False } (start_okB hz hx za xa hA hc (by omega)) ⟨fun _ _ _ _ _ hk => hk.elim, fun _ _ _ _ _ _ hk => hk.elim, fun _ _ _ _ _ hk => hk.elim, fun _ _ _ _ _ hk => hk.elim, fun env' σ' H' d v o' r hk => ?_⟩ hw⟩
    simp only at hk
    split at hk
    · rename_i cs' he
      obtain ⟨b, h1, ⟨h2, vs, h3, h4⟩, h5, h6, h7⟩ := o'.own _ _ he
      cases h2
      have sub : ∀ y, Zx z (X.or a) y → Ms (zb z (some a)) X σ' env' y := by
        rintro y (q | q | q)
        · exact .inl q
        · exact .inr (.inl q)
        · exact .inr (.inr ⟨_, _, he, by rw [q]; exact h1⟩)
      exact c d v H' cs' o'.evo.unzb (r.weak sub).unzb ⟨vs, h3, (h4.weak sub).unzb⟩ hk
    · exact hk.elim
end
/-! ### calls that lend a list -/
def RAB (r : Nat) (t : TA) (p : PAs) : Prop := ∀ (z : Zn) (X : AP) (H0 H : Hp) (σ : Sl) (env : List SV) (Q : List V → Hp → Prop) (k : List D → Prop) (a : Addr), Ok z X H0 H σ env → σ[r]? = some (some (.ref a)) →
  (∀ ds vs H', Evo z H H' → IsA z (Ms z X σ env) H' vs ds → k ds → Q (vs ++ [.ref a]) H') → p env k → t σ H Q
structure AB (r : Nat) (C : Cx) (es : List Expr) (p : PAs) : Prop where
  ex : ∃ t, PA C es t ∧ RAB r t p
section
variable {C : Cx} {fr : Bool} {e : Expr} {es : List Expr} {pe p : PX} {ga : PAs} {pos pp : Pos} {r : Nat} {x : Str}
theorem ab_one (r : Nat) (hN : C.N[r]? = some x := by rfl) (hv : Vis C.env.scope x := by first | exact Or.inl rfl | exact Or.inr (Or.inl rfl) | exact Or.inr (Or.inr rfl)) (hd : (x == ("__debug__" : Str)) = false := by decide)
    (hcd : (x == ("__classdict__" : Str)) = false := by decide) (hs : starEach [.Name x pp] C.env = (false, eval (.Name x pp) C.env) :: starEach [] C.env := by rfl) : AB r C [.Name x pp] aNil :=
  ⟨_, pa_cons (pe_var hN hv hd hcd) pa_nil hs, fun z X H0 H σ env Q k a o h c hp => ⟨_, h, c [] [] H (Evo.refl _ _) .nil hp⟩⟩
theorem ab_cons (h : E .e C e p) (hr : AB r C es ga) (hs : starEach (e :: es) C.env = (false, eval e C.env) :: starEach es C.env := by rfl) : AB r C (e :: es) (aCons p ga) := by
  obtain ⟨t, h1, h2⟩ := h
  obtain ⟨u, g1, g2⟩ := hr
  refine ⟨_, pa_cons h1 g1 hs, fun z X H0 H σ env Q k a o h c hp => h2 z X H0 H σ env _ _ o (fun d v H1 e1 r1 hx => ?_) hp⟩
  exact g2 z X H0 H1 σ env _ _ a (o.go e1) h (fun ds vs H2 e2 r2 hy => c (d :: ds) (v :: vs) H2 (e1.trans e2) (.cons (Is.evo (fun _ q => .inl q) e2 r1) r2) hy) hx
/-- the list of slot r is lent to a def: its answer, and what became of the list -/
def lendP (r : Nat) (wp : List D → List D → (D → List D → Prop) → Prop) (g : PAs) : List SV → (D → List SV → Prop) → Prop := fun env k => match env[r]? with
  | some (.own (.lst cs)) => g env fun ds => wp ds cs fun d cs' => k d (env.set r (.own (.lst cs')))
  | some (.own (.bor cs)) => g env fun ds => wp ds cs fun d cs' => k d (env.set r (.own (.bor cs')))
  | _ => False
theorem lend_i {t : TA} {n : Nat} {wp : List D → List D → (D → List D → Prop) → Prop} (h : RAB r t ga) (hn : ∀ ds cs k, wp ds cs k → ds.length = n) {z : Zn} {X : AP} {H0 H : Hp} {σ : Sl} {env : List SV} {Q : VK} {k : D → List SV → Prop}
    (o : Ok z X H0 H σ env) (c : ∀ d v H' env', Ok z X H0 H' σ env' → Fr z X (Ms z X σ env) H (Ms z X σ env') H' → Is z (Ms z X σ env') H' v d → k d env' → Q v H') (hp : lendP r wp ga env k) : tCall (SfB n wp) [] E0 t σ H Q := by
  have main : ∀ (c0 : D) (cs : List D) (mk : List D → D), env[r]? = some (.own c0) → (∀ (M : AP) (H : Hp) (a : Addr), Con z M H a c0 → Con z M H a (.lst cs) ∧ ∀ M' H' cs', Con z M' H' a (.lst cs') → Con z M' H' a (mk cs')) →
      (ga env fun ds => wp ds cs fun d cs' => k d (env.set r (.own (mk cs')))) → tCall (SfB n wp) [] E0 t σ H Q := fun c0 cs mk he hk hg => by
    obtain ⟨a, q1, q2, q3, q4, q5⟩ := o.own r _ he
    refine h z X H0 H σ env _ _ a o q1 (fun ds vs H1 e1 r1 hx => ?_) hg
    have o1 := o.go e1
    obtain ⟨a', q1', q2', _⟩ := o1.own r _ he
    have ea : a' = a := by rw [q1] at q1'; cases q1'; rfl
    subst ea
    obtain ⟨m1, m2⟩ := hk _ _ _ q2'
    let Y : AP := fun b => X b ∨ ∃ (i : Nat) (d : D), i ≠ r ∧ env[i]? = some (.own d) ∧ σ[i]? = some (some (V.ref b))
    have zy : ∀ b, Zx z (Y.or a') b ↔ Ms z X σ env b := fun b => by
      constructor
      · rintro (y | (y | ⟨i, d, _, y1, y2⟩) | y)
        · exact .inl y
        · exact .inr (.inl y)
        · exact .inr (.inr ⟨i, d, y1, y2⟩)
        · exact .inr (.inr ⟨r, _, he, by rw [y]; exact q1⟩)
      · rintro (y | y | ⟨i, d, y1, y2⟩)
        · exact .inl y
        · exact .inr (.inl (.inl y))
        · by_cases hi : i = r
          · rw [hi, q1] at y2; cases y2; exact .inr (.inr rfl)
          · exact .inr (.inl (.inr ⟨i, d, hi, y1, y2⟩))
    rw [List.append_nil]
    refine ⟨z, Y, a', vs, ds, cs, _, rfl, by rw [r1.length]; exact hn _ _ _ hx, ⟨o1.zal, o1.tab⟩, fun b y => o1.ox (y.elim .inl fun ⟨i, d, _, y1, y2⟩ => .inr ⟨i, d, y1, y2⟩), q3, fun y => y.elim q4 fun ⟨i, d, hi, y1, y2⟩ => hi (o.inj i r a' d _ y1 he y2 q1),
      r1.weak fun b y => (zy b).mp y, ?_, hx, fun d v H2 cs' e2 r2 hc kd => ?_⟩
    · exact m1.gen (fun _ q => q) (fun b u q n => ⟨q, fun y => n ((zy b).mp y)⟩) fun _ h => h
    · have hc' : Con z (Ms z X σ env) H2 a' (.lst cs') := hc.gen (fun _ q => q) (fun b u q n => ⟨q, fun y => n ((zy b).mpr y)⟩) fun _ h => h
      obtain ⟨o2, f2⟩ := o1.lend he q1 e2 (m2 _ _ _ hc')
      refine c d v H2 _ o2 ((o.fr e1).trans f2) (r2.weak fun b y => ?_) kd
      rcases y with y | y | ⟨j, f, y1, y2⟩
      · exact .inl y
      · exact .inr (.inl (.inl y))
      · by_cases hj : r = j
        · rw [← hj, q1] at y2; cases y2; exact .inr (.inr rfl)
        · rw [List.getElem?_set_ne hj] at y1
          exact (zy b).mpr (.inr (.inr ⟨j, f, y1, y2⟩))
  unfold lendP at hp
  split at hp
  · rename_i cs he
    exact main _ cs D.lst he (fun M H a hc => ⟨hc, fun _ _ _ h => h⟩) hp
  · rename_i cs he
    exact main _ cs D.bor he (fun M H a hc => ⟨hc.2, fun _ _ _ h => ⟨hc.1, h⟩⟩) hp
  · exact hp.elim
variable {k n i : Nat} {f : Addr} {fd : FuncData} {ps : List Str} {wp : List D → List D → (D → List D → Prop) → Prop} {y : Str}
def sLend (r : Nat) (wp : List D → List D → (D → List D → Prop) → Prop) (g : PAs) : PSt := fun env k => lendP r wp g env fun _ env' => k.nx env'
def sLendS (i r : Nat) (wp : List D → List D → (D → List D → Prop) → Prop) (g : PAs) : PSt := fun env k => lendP r wp g env fun d env' => k.nx (env'.set i (.val d))
theorem s_lend {cpos : Pos} (F : FnOk C.prog C.w C.K C.mg C.base CX0 k f fd ps (SfB n wp)) (hn : ∀ ds cs k, wp ds cs k → ds.length = n) (hr : Room k C.A) (hg : Gl C x) (hm : C.mg x = some (.ref f)) (hk : PySem.W.keepIn C.K (.ref f) = true) (hb : Binds C.K fd ps [])
    (ha : AB r C (e :: es) ga) (hdb : (x == ("__debug__" : Str)) = false := by decide) (he : starEach (e :: es) C.env = (false, eval e C.env) :: starEach es C.env := by rfl) (hpl : (backTo cpos (starEach es C.env)).any (·.1) = false := by rfl)
    (hs : swapsWith (.Call (.Name x pp) (e :: es) [] cpos) none pos.line C.env = pure false := by rfl) : S fr C (.Expr (.Call (.Name x pp) (e :: es) [] cpos) pos) (sLend r wp ga) := by
  obtain ⟨t, h1, h2⟩ := ha
  exact ⟨_, ps_expr (pe_call F hr hg hm hk hb .nil pass0 h1 hdb he hpl) hs, fun z X H0 H σ env G k o s hp => lend_i h2 hn o (fun d v H' env' o' f' _ hx => s.nx env' σ H' o' f' hx) hp⟩
theorem s_lendS {cpos yp : Pos} (F : FnOk C.prog C.w C.K C.mg C.base CX0 k f fd ps (SfB n wp)) (hn : ∀ ds cs k, wp ds cs k → ds.length = n) (hr : Room k C.A) (hg : Gl C x) (hm : C.mg x = some (.ref f)) (hk : PySem.W.keepIn C.K (.ref f) = true) (hb : Binds C.K fd ps [])
    (ha : AB r C (e :: es) ga) (hN : C.N.Nodup) (hi : C.N[i]? = some y) (hy : Loc C.env.scope y) (hdb : (x == ("__debug__" : Str)) = false := by decide) (he : starEach (e :: es) C.env = (false, eval e C.env) :: starEach es C.env := by rfl) (hpl : (backTo cpos (starEach es C.env)).any (·.1) = false := by rfl)
    (hs : swapsWith (.Call (.Name x pp) (e :: es) [] cpos) (some (.Name y yp)) pos.line C.env = pure false := by rfl) (hf : C.fn y = true ∨ C.env.scope.names.lookup y = some .local := by first | exact .inl rfl | exact .inr rfl | assumption) :
    S fr C (.Assign [.Name y yp] (.Call (.Name x pp) (e :: es) [] cpos) pos) (sLendS i r wp ga) := by
  obtain ⟨t, h1, h2⟩ := ha
  refine ⟨_, ps_set hN hi hy (pe_call F hr hg hm hk hb .nil pass0 h1 hdb he hpl) hs hf, fun z X H0 H σ env G k o s hp => lend_i h2 hn o (fun d v H' env' o' f' r' hx => ?_) hp⟩
  obtain ⟨o2, f2⟩ := o'.set (i := i) r'
  exact s.nx _ _ H' o2 (f'.trans f2) hx
/-! ### recursion, by fuel -/
variable {P : Program} {w : World} {K : PySem.W.Frag} {mg : Str → Option Value} {base : Heap}
theorem fn_bot {sp : Sp} (h : ∀ vs H Q E, ¬ sp vs H Q E) : FnOk P w K mg base CX0 k f fd ps sp := ⟨fun vs H Q E q => (h vs H Q E q).elim, fun A outer s H args us vs Q E _ _ _ _ q => (h vs H Q E q).elim⟩
theorem fn_rec (sp : Nat → Sp) (k : Nat) (h0 : ∀ vs H Q E, ¬ sp 0 vs H Q E) (hs : ∀ m, FnOk P w K mg base CX0 (k + m) f fd ps (sp m) → FnOk P w K mg base CX0 (k + m + 1) f fd ps (sp (m + 1))) (m : Nat) : FnOk P w K mg base CX0 (k + m) f fd ps (sp m) := by
  induction m with
  | zero => exact fn_bot h0
  | succ m ih => exact hs m ih
end
end Pu
namespace Pu
open PySem PySem.Spec PyProof.Rows L2
variable [Tbs]
/-! ### sorted(xs), xs a list of tuples of whole numbers -/
def lexI : List Int → List Int → Bool
  | [], [] => false
  | [], _ :: _ => true
  | _ :: _, [] => false
  | x :: r, y :: t => decide (x < y) || (!decide (y < x) && lexI r t)
theorem lexI_eq : ∀ (xs ys : List Int), PyProof.Rows.lexLt PyProof.Rows.itemOrd (xs.map Sum.inl) (ys.map Sum.inl) = lexI xs ys
  | [], [] => rfl
  | [], _ :: _ => rfl
  | _ :: _, [] => rfl
  | x :: r, y :: t => by
    show (decide (x < y) || (!decide (y < x) && PyProof.Rows.lexLt PyProof.Rows.itemOrd (r.map Sum.inl) (t.map Sum.inl))) = _
    rw [lexI_eq r t]; rfl
theorem perm_lift {α β : Type} (f : α → β) {a b : List β} (h : a.Perm b) : ∀ (ks : List α), ks.map f = b → ∃ L : List α, L.Perm ks ∧ L.map f = a := by
  induction h with
  | nil => intro ks e; exact ⟨ks, .refl _, e⟩
  | cons x p ih =>
    intro ks e
    cases ks with
    | nil => cases e
    | cons y r =>
      rw [List.map_cons] at e
      injection e with e1 e2
      obtain ⟨L, h1, h2⟩ := ih r e2
      exact ⟨y :: L, h1.cons y, by rw [List.map_cons, e1, h2]⟩
  | swap x y l =>
    intro ks e
    match ks, e with
    | u :: v :: r, e =>
      rw [List.map_cons, List.map_cons] at e
      injection e with e1 e2
      injection e2 with e2 e3
      exact ⟨v :: u :: r, List.Perm.swap u v r, by rw [List.map_cons, List.map_cons, e1, e2, e3]⟩
  | trans p q ih1 ih2 =>
    intro ks e
    obtain ⟨L, h1, h2⟩ := ih2 ks e
    obtain ⟨L2, h3, h4⟩ := ih1 L h2
    exact ⟨L2, h3.trans h1, h4⟩
abbrev rf (p : Addr × List Int) : V := V.ref p.1
abbrev rfv (p : Addr × List Int) : Value := Value.ref p.1
theorem refs_in : ∀ {ks : List (Addr × List Int)} {us : List Value}, Vals (ks.map rf) us → us = ks.map rfv
  | [], _, .nil => rfl
  | p :: ks, _, .cons r t => by
    cases r
    rw [refs_in t] <;> rfl
theorem refs_out : ∀ (ks : List (Addr × List Int)), Vals (ks.map rf) (ks.map rfv)
  | [] => .nil
  | p :: ks => .cons rfl (refs_out ks)
def shI : Nat → Bool := fun _ => false
theorem items_in : ∀ {ns : List Int} {us : List Value} (i : Nat), Vals (ns.map V.int) us → PyProof.Rows.tupItems shI i us = some (ns.map Sum.inl)
  | [], _, _, .nil => rfl
  | n :: ns, _, i, .cons r t => by
    obtain ⟨tk, rfl⟩ := r
    show (if shI i = true then none else (PyProof.Rows.tupItems shI (i + 1) _).map (Sum.inl n :: ·)) = _
    rw [items_in (i + 1) t]; rfl
def rSortedN (K : PySem.W.Frag) : List V → Hp → VK → Prop := fun vs H Q => ∃ (a : Addr) (ks : List (Addr × List Int)), vs = [V.ref a] ∧ SqL K H a (ks.map rf) ∧ (∀ p ∈ ks, SqT K H p.1 (p.2.map V.int) ∧ p.2 ≠ []) ∧
  ∀ (L : List (Addr × List Int)) (p : Addr), L.Perm ks → L.Pairwise (fun q r => lexI r.2 q.2 = false) → H p = none → Q (.ref p) (upd H p (.lst (L.map rf)))
theorem cr_sortedN {X : Cx} : CallR X (.builtin "sorted") (rSortedN X.K) := by
  intro pins s σ H vs us Q I r h
  obtain ⟨a, ks, rfl, hs, hk, q⟩ := h
  obtain ⟨its, rv, hl, hz⟩ := I.list hs
  rw [Vals.ref1 r]
  cases refs_in rv
  have key : ∀ p ∈ ks, PyProof.Rows.G.tupKeyC s.heap shI (rfv p) = some (p.2.map Sum.inl) ∧ ∃ f, PyProof.Rows.TupOf s.heap shI (rfv p) f := fun p hp => by
    obtain ⟨h1, h2⟩ := hk p hp
    obtain ⟨us, ru, ⟨o, ho, hc, n, hd⟩, _⟩ := I.tuple h1
    have hi : PyProof.Rows.tupItems shI 0 us.toArray.toList = some (p.2.map Sum.inl) := by simpa using items_in 0 ru
    refine ⟨?_, ?_⟩
    · unfold PyProof.Rows.G.tupKeyC
      have e1 : PyProof.Rows.G.isTupObj s.heap (rfv p) = true := by simp [PyProof.Rows.G.isTupObj, ho, hc]
      rw [if_pos e1]
      simp only [PyProof.Rows.tupKey, ho, hd]
      exact hi
    · obtain ⟨p1, p2⟩ := p
      cases p2 with
      | nil => exact absurd rfl h2
      | cons m ms =>
        cases ru with
        | cons r0 rt =>
          obtain ⟨tk, rfl⟩ := r0
          exact ⟨_, p1, o, _, n, rfl, ho, hc, hd, rfl, fun _ => ⟨m, tk, rfl⟩, fun w => Bool.noConfusion w⟩
  have tups : ∀ ks : List (Addr × List Int), (∀ p ∈ ks, ∃ f, PyProof.Rows.TupOf s.heap shI (rfv p) f) → ∃ fs, PyProof.Rows.TupsOf s.heap shI (ks.map rfv) fs := fun ks => by
    induction ks with
    | nil => intro _; exact ⟨[], .nil⟩
    | cons p ks ih =>
      intro h
      obtain ⟨f, hf⟩ := h p List.mem_cons_self
      obtain ⟨fs, hfs⟩ := ih fun u hu => h u (List.mem_cons_of_mem _ hu)
      exact ⟨f :: fs, .cons hf hfs⟩
  obtain ⟨fs, hfs⟩ := tups ks fun p hp => (key p hp).2
  refine PyProof.Rows.G.sorted_tups (shape := shI) hl.isList hfs (fun v hv => ?_) (by simpa using hz) fun st' hp hs' _ => ?_
  · obtain ⟨p, hp, rfl⟩ := List.mem_map.mp hv
    exact ⟨_, (key p hp).1⟩
  · have hpl : (arrOf st').toList.Perm ((ks.map rfv).zip (ks.map rfv)) := by
      have e := Array.perm_iff_toList_perm.mp hp
      rw [pairsOf_toList] at e
      exact e
    have ho : ((arrOf st').toList.map (·.2)).Perm (ks.map rfv) := by
      have e := hpl.map (·.2)
      rw [List.map_snd_zip (Nat.le_refl _)] at e
      exact e
    obtain ⟨L, l1, l2⟩ := perm_lift rfv ho ks rfl
    have hlen : L.length = (arrOf st').toList.length := by have e := congrArg List.length l2; simpa using e
    have kk : ∀ (i : Nat) (hi : i < L.length), KK (PyProof.Rows.G.tupKindC s.heap shI) (arrOf st') i = L[i].2.map Sum.inl := fun i hi => by
      have hi' : i < (arrOf st').toList.length := by omega
      have e1 : (arrOf st')[i]? = some (arrOf st').toList[i] := by rw [← Array.getElem?_toList]; exact List.getElem?_eq_getElem hi'
      have e2 : (arrOf st').toList[i].2 = rfv L[i] := by
        have e := congrArg (fun l => l[i]?) l2
        simp only [List.getElem?_map, List.getElem?_eq_getElem hi, List.getElem?_eq_getElem hi', Option.map_some] at e
        exact (Option.some.inj e).symm
      have e3 := (mem_zip_self (hpl.mem_iff.mp (List.getElem_mem hi'))).1
      have e4 : L[i] ∈ ks := l1.mem_iff.mp (List.getElem_mem hi)
      unfold KK
      rw [e1]
      show (PyProof.Rows.G.tupKeyC s.heap shI (arrOf st').toList[i].1).getD [] = _
      rw [e3, e2, (key _ e4).1]; rfl
    have pw : L.Pairwise (fun q r => lexI r.2 q.2 = false) := by
      rw [List.pairwise_iff_getElem]
      intro i j hi hj hij
      have e := hs' i j (Nat.le_of_lt hij) (by rw [pairsOf_size, List.length_map, ← l1.length_eq]; exact hj)
      rw [kk i hi, kk j hj] at e
      rw [← lexI_eq]
      exact e
    obtain ⟨ep, he'⟩ := sortedAll_at s.heap (ks.map rfv) ((arrOf st').map (·.2))
    have len : (L.map rf).length ≤ sizeLine := by
      rw [List.length_map, l1.length_eq]; simpa using hz
    have hv : Vals (L.map rf) ((arrOf st').map (·.2)).toList := by rw [Array.toList_map, ← l2]; exact refs_out L
    exact ⟨.ref _, upd H (s.heap.objs.size + 1) (.lst (L.map rf)), I.laid (t' := s.toks) (fun _ _ => sortedAll_old) (Nat.le_succ _) ⟨len, _, ep, hv, he'⟩, rfl, q L _ l1 pw (I.hok.fresh (Nat.le_succ _))⟩
def tupI (ns : List Int) : D := .tup (ns.map D.int)
def gSortedN : List D → (D → Prop) → Prop := fun ds k => ∃ xs : List (List Int), ds = [.lst (xs.map tupI)] ∧ (∀ x ∈ xs, x ≠ []) ∧ ∀ ys : List (List Int), ys.Perm xs → ys.Pairwise (fun q r => lexI r q = false) → k (.lst (ys.map tupI))
theorem tups_of {z : Zn} {M : AP} {H : Hp} : ∀ {xs : List (List Int)} {vs : List V}, IsA z M H vs (xs.map tupI) → ∃ ks : List (Addr × List Int), vs = ks.map rf ∧ ks.map (·.2) = xs ∧ ∀ p ∈ ks, H p.1 = some (.tup (p.2.map V.int)) ∧ ¬ M p.1
  | [], _, .nil => ⟨[], rfl, rfl, fun _ h => nomatch h⟩
  | x :: xs, _, .cons q t => by
    obtain ⟨ks, h1, h2, h3⟩ := tups_of t
    cases (show Is z M H _ (.tup (x.map D.int)) from q) with
    | tup e n r =>
      refine ⟨(_, x) :: ks, by rw [List.map_cons, h1], by rw [List.map_cons, h2], fun p hp => ?_⟩
      rcases List.mem_cons.mp hp with rfl | hp
      · exact ⟨by rw [e, r.ints], n⟩
      · exact h3 p hp
theorem tups_to {z : Zn} {M : AP} {H : Hp} : ∀ {ks : List (Addr × List Int)}, (∀ p ∈ ks, H p.1 = some (.tup (p.2.map V.int)) ∧ ¬ M p.1) → IsA z M H (ks.map rf) ((ks.map (·.2)).map tupI)
  | [], _ => .nil
  | p :: ks, h => .cons (.tup (h p List.mem_cons_self).1 (h p List.mem_cons_self).2 (IsA.ofInts _)) (tups_to fun u hu => h u (List.mem_cons_of_mem _ hu))
theorem cd_sortedN {K : PySem.W.Frag} : CallD true .f (rSortedN K) gSortedN := fun z X H0 H σ env vs ds Q k o h c hp => by
  obtain ⟨xs, rfl, hne, hk⟩ := hp
  obtain ⟨v, rfl, hv⟩ := h.one
  cases hv with
  | lst e n r =>
    obtain ⟨ks, rfl, h2, h3⟩ := tups_of r
    refine ⟨_, ks, rfl, SqL.of e, fun p hp => ⟨SqT.of (h3 p hp).1, hne _ (by rw [← h2]; exact List.mem_map.mpr ⟨p, hp, rfl⟩)⟩, fun L p l1 l2 hq => ?_⟩
    have e2 : (L.map (·.2)).Perm xs := by rw [← h2]; exact l1.map _
    refine c _ _ _ ((Evo.refl _ _).new hq) (Rel.newL hq hq ?_) (hk (L.map (·.2)) e2 (List.pairwise_map.mpr l2))
    rw [if_pos rfl] at h3
    exact tups_to fun u hu => h3 u (l1.mem_iff.mp hu)
theorem gSortedN_i {xs : List (List Int)} {k : D → Prop} (h1 : ∀ x ∈ xs, x ≠ []) (h2 : ∀ ys : List (List Int), ys.Perm xs → ys.Pairwise (fun q r => lexI r q = false) → k (.lst (ys.map tupI))) : gSortedN [.lst (xs.map tupI)] k := ⟨xs, rfl, h1, h2⟩
end Pu
namespace Pu
open PySem PySem.Spec PyProof.Rows L2
/-! ### statements that raise: p env says that they do -/
/-! ### a def that raises -/
/-! ### isinstance of what an except clause holds, a tuple of classes -/
end Pu
namespace Pu
open PySem PySem.Spec PyProof.Rows L2
variable [Tbs]
section
variable {C : Cx} {z : Zn} {X : AP} {H0 H H' : Hp} {σ : Sl} {env : List SV}
/-! ### isinstance(e, ..), e what the clause holds, at a -/
def TB (p : Sl → Prop) (t : TE) (b : Bool) : Prop := ∀ (z : Zn) (σ : Sl) (H : Hp) (Q : VK), p σ → (∀ H', Evo z H H' → Q (.bl b) H') → t σ H Q
theorem TB.imp {p q : Sl → Prop} {t : TE} {b : Bool} (h : TB p t b) (i : ∀ σ, q σ → p σ) : TB q t b := fun z σ H Q hp c => h z σ H Q (i σ hp) c
end
end Pu
namespace Pu
open PySem PySem.Spec PyProof.Rows L2
end Pu
namespace Pu
open PySem PySem.Spec PyProof.Rows L2
variable [Tbs]
/-! ### draws that are counted: a reading's cost n says how many draws it makes at most; the zone says how many there were -/
def lim : Nat := 4611686018427387904
def Zn.at (z : Zn) (c : Nat) : Zn := { z with ct := c }
/-- the deck stands, with its count -/
def Zn.live (z : Zn) (H : Hp) : Prop := z.ok H z.dk
structure EvoC (z : Zn) (c : Nat) (H H' : Hp) : Prop where
  old : ∀ a o, H a = some o → ¬ z.Z a → H' a = some o
  al : ∀ a, H a ≠ none → H' a ≠ none
  tab : Tabs H → Tabs H'
  live : (z.at c).live H'
section
variable {z : Zn} {c c' : Nat} {X : AP} {H0 H H1 H2 H' : Hp} {σ σ' : Sl} {env env' : List SV} {M M' : AP} {m : Mode} {v : V} {d : D}
theorem Evo.toC (e : Evo z H H') (l : z.live H) : EvoC z z.ct H H' := ⟨e.old, e.al, e.tab, e.dk _ l⟩
theorem EvoC.trans (a : EvoC z c H H1) (b : EvoC (z.at c) c' H1 H2) : EvoC z c' H H2 := ⟨fun x o h n => b.old x o (a.old x o h n) n, fun x h => b.al x (a.al x h), fun h => b.tab (a.tab h), b.live⟩
theorem EvoC.evo (a : EvoC z c H H') : Evo (z.at c) H H' := ⟨a.old, a.al, fun b h => by obtain rfl : b = (z.at c).dk := h.1; exact a.live, a.tab⟩
theorem EvoC.ok (a : EvoC z c H H') : ∀ b, z.ok H b → (z.at c).ok H' b := fun b h => by obtain rfl : b = (z.at c).dk := h.1; exact a.live
theorem EvoC.fresh (a : EvoC z c H H1) {p : Addr} (h : H1 p = none) : H p = none := a.evo.fresh h
mutual
theorem Is.at (h1 : ∀ a o, H a = some o → ¬ M a → H' a = some o ∧ ¬ M' a) (h2 : ∀ a, z.ok H a → (z.at c).ok H' a) : ∀ {v : V} {d : D}, Is z M H v d → Is (z.at c) M' H' v d
  | _, _, .non => .non
  | _, _, .bl b => .bl b
  | _, _, .int i => .int i
  | _, _, .str s => .str s
  | _, _, .ty n => .ty n
  | _, _, .tup e n r => .tup (h1 _ _ e n).1 (h1 _ _ e n).2 (IsA.at h1 h2 r)
  | _, _, .lst e n r => .lst (h1 _ _ e n).1 (h1 _ _ e n).2 (IsA.at h1 h2 r)
  | _, _, .dic e n r => .dic (h1 _ _ e n).1 (h1 _ _ e n).2 (IsK.at h1 h2 r)
  | _, _, .deck e => .deck (z := z.at c) (h2 _ e)
  | _, _, .dpr e n => .dpr (h1 _ _ e n).1 (h1 _ _ e n).2
  | _, _, .dfz e n => .dfz (h1 _ _ e n).1 (h1 _ _ e n).2
  | _, _, .st e l n => .st (h1 _ _ e n).1 l (h1 _ _ e n).2
  | _, _, .bor e n r => .bor (h1 _ _ e n).1 (h1 _ _ e n).2 (IsA.at h1 h2 r)
  | _, _, .opq v => .opq v
  | _, _, .dpd e n q r => .dpd (h1 _ _ e n).1 (h1 _ _ e n).2 q (IsA.at h1 h2 r)
theorem IsA.at (h1 : ∀ a o, H a = some o → ¬ M a → H' a = some o ∧ ¬ M' a) (h2 : ∀ a, z.ok H a → (z.at c).ok H' a) : ∀ {v : List V} {d : List D}, IsA z M H v d → IsA (z.at c) M' H' v d
  | _, _, .nil => .nil
  | _, _, .cons h t => .cons (Is.at h1 h2 h) (IsA.at h1 h2 t)
theorem IsK.at (h1 : ∀ a o, H a = some o → ¬ M a → H' a = some o ∧ ¬ M' a) (h2 : ∀ a, z.ok H a → (z.at c).ok H' a) : ∀ {v : List (Key × V)} {d : List (Key × D)}, IsK z M H v d → IsK (z.at c) M' H' v d
  | _, _, .nil => .nil
  | _, _, .cons h t => .cons (Is.at h1 h2 h) (IsK.at h1 h2 t)
end
theorem Con.at {a : Addr} (ha : ∀ o, H a = Option.some o → H' a = Option.some o) (h1 : ∀ a o, H a = Option.some o → ¬ M a → H' a = Option.some o ∧ ¬ M' a) (h2 : ∀ a, z.ok H a → (z.at c).ok H' a) (h : Con z M H a d) : Con (z.at c) M' H' a d := by
  cases d with
  | tup ds => obtain ⟨vs, e, r⟩ := h; exact ⟨vs, ha _ e, r.at h1 h2⟩
  | lst ds => obtain ⟨vs, e, r⟩ := h; exact ⟨vs, ha _ e, r.at h1 h2⟩
  | dic ds => obtain ⟨vs, e, r⟩ := h; exact ⟨vs, ha _ e, r.at h1 h2⟩
  | dpr ds => exact ha _ h
  | dpd ds => obtain ⟨vs, e, q, r⟩ := h; exact ⟨vs, ha _ e, q, r.at h1 h2⟩
  | st ns => obtain ⟨n, e, l⟩ := h; exact ⟨n, ha _ e, l⟩
  | bor ds => obtain ⟨w, vs, e, r⟩ := h; exact ⟨w, vs, ha _ e, r.at h1 h2⟩
  | _ => exact h.elim
theorem Is.goC (hM : ∀ a, z.Z a → M a) (e : EvoC z c H H') (h : Is z M H v d) : Is (z.at c) M H' v d := h.at (fun a o q n => ⟨e.old a o q fun x => n (hM a x), n⟩) e.ok
theorem IsA.goC {vs : List V} {ds : List D} (hM : ∀ a, z.Z a → M a) (e : EvoC z c H H') (h : IsA z M H vs ds) : IsA (z.at c) M H' vs ds := h.at (fun a o q n => ⟨e.old a o q fun x => n (hM a x), n⟩) e.ok
theorem Ok.goC (k : Ok z X H0 H σ env) (e : EvoC z c H H') : Ok (z.at c) X H0 H' σ env :=
  ⟨k.len, ⟨fun a o h n => e.old a o (k.evo.old a o h n) n, fun a h => e.al a (k.evo.al a h), fun b h => by obtain rfl : b = (z.at c).dk := h.1; exact e.live, fun h => e.tab (k.evo.tab h)⟩, fun a h => e.al a (k.zal a h), fun a h => ⟨e.al a (k.xal a h).1, (k.xal a h).2⟩,
   fun i d h => let ⟨v, h1, h2⟩ := k.val i d h; ⟨v, h1, h2.goC (fun _ h => .inl h) e⟩,
   fun i d h => let ⟨a, h1, h2, h3, h4⟩ := k.own i d h; ⟨a, h1, h2.at (fun o q => e.old a o q h3) (fun b o q n => ⟨e.old b o q fun x => n (.inl x), n⟩) e.ok, h3, h4⟩, k.inj, e.tab k.tab⟩
theorem Rel.goC (k : ∀ a, z.Z a → H a ≠ none) (e : EvoC z c H1 H') (h : Rel m z X H H1 σ env v d) : Rel m (z.at c) X H H' σ env v d := by
  cases m with
  | f =>
    obtain ⟨a, rfl, hn, hc⟩ := h
    exact ⟨a, rfl, hn, hc.at (fun o q => e.old a o q fun x => k a x hn) (fun b o q n => ⟨e.old b o q fun x => n (.inl x), n⟩) e.ok⟩
  | e => exact Is.goC (fun _ q => .inl q) e h
  | c =>
    rcases h with h | ⟨a, rfl, hc, n, md⟩
    · exact .inl (Is.goC (fun _ q => .inl q) e h)
    · exact .inr ⟨a, rfl, hc.at (fun o q => e.old a o q fun x => n (.inl x)) (fun b o q n => ⟨e.old b o q fun x => n (.inl x), n⟩) e.ok, n, md⟩
  | b => exact Is.goC (fun _ q => .inl q) e h
end
/-! ### expressions -/
def REc (n : Nat) (m : Mode) (t : TE) (p : PX) : Prop := ∀ (z : Zn) (X : AP) (H0 H : Hp) (σ : Sl) (env : List SV) (Q : VK) (k : D → Prop), Ok z X H0 H σ env → z.live H → z.ct + n ≤ lim →
  (∀ c d v H', c ≤ z.ct + n → EvoC z c H H' → Rel m (z.at c) X H H' σ env v d → k d → Q v H') → p env k → t σ H Q
def RTc (n : Nat) (t : TT) (p : PTs') : Prop := ∀ (z : Zn) (X : AP) (H0 H : Hp) (σ : Sl) (env : List SV) (Q : Bool → Hp → Prop) (k : Bool → Prop), Ok z X H0 H σ env → z.live H → z.ct + n ≤ lim →
  (∀ c b H', c ≤ z.ct + n → EvoC z c H H' → k b → Q b H') → p env k → t σ H Q
def RAc (n : Nat) (l : Bool) (t : TA) (p : PAs) : Prop := ∀ (z : Zn) (X : AP) (H0 H : Hp) (σ : Sl) (env : List SV) (Q : List V → Hp → Prop) (k : List D → Prop), Ok z X H0 H σ env → z.live H → z.ct + n ≤ lim →
  (∀ c ds vs H', c ≤ z.ct + n → EvoC z c H H' → IsA (z.at c) (if l = true then Ms z X σ env else Zx z X) H' vs ds → k ds → Q vs H') → p env k → t σ H Q
structure Ec (n : Nat) (m : Mode) (C : Cx) (e : Expr) (p : PX) : Prop where
  ex : ∃ t, PE C e t ∧ REc n m t p
structure Tc (n : Nat) (C : Cx) (e : Expr) (p : PTs') : Prop where
  ex : ∃ t, PT C e t ∧ RTc n t p
structure Wc (n : Nat) (C : Cx) (e : Expr) (p : PTs') : Prop where
  ex : ∃ t, PW C e t ∧ RTc n t p
structure Ac (n : Nat) (l : Bool) (C : Cx) (es : List Expr) (p : PAs) : Prop where
  ex : ∃ t, PA C es t ∧ RAc n l t p
section
variable {C : Cx} {e a b : Expr} {es : List Expr} {p q : PX} {g : PAs} {m m' : Mode} {pos pp : Pos} {n na nb : Nat} {x : Str}
theorem RE.toC {t : TE} (h : RE m t p) : REc 0 m t p := fun z X H0 H σ env Q k o l _ c hp => h z X H0 H σ env Q k o (fun d v H' ev r kd => c z.ct d v H' (Nat.le_refl _) (ev.toC l) r kd) hp
theorem RT.toC {t : TT} {p : PTs'} (h : RT t p) : RTc 0 t p := fun z X H0 H σ env Q k o l _ c hp => h z X H0 H σ env Q k o (fun b H' ev kd => c z.ct b H' (Nat.le_refl _) (ev.toC l) kd) hp
theorem RA.toC {l : Bool} {t : TA} {p : PAs} (h : RA l t p) : RAc 0 l t p := fun z X H0 H σ env Q k o lv _ c hp => h z X H0 H σ env Q k o (fun ds vs H' ev r kd => c z.ct ds vs H' (Nat.le_refl _) (ev.toC lv) r kd) hp
theorem E.cd (h : E m C e p) : Ec 0 m C e p := let ⟨t, h1, h2⟩ := h; ⟨t, h1, h2.toC⟩
theorem T.cd {p : PTs'} (h : T C e p) : Tc 0 C e p := let ⟨t, h1, h2⟩ := h; ⟨t, h1, h2.toC⟩
theorem Rel.toBC {z : Zn} {c : Nat} {X : AP} {H0 H H' : Hp} {σ : Sl} {env : List SV} {v : V} {d : D} (k : Ok z X H0 H σ env) (h : Rel m (z.at c) X H H' σ env v d) : Rel .b (z.at c) X H H' σ env v d := by
  cases m with
  | f =>
    obtain ⟨a, rfl, hn, hc⟩ := h
    exact Rel.eb ((hc.gen (fun _ q => q) (fun b o q n => ⟨q, fun x => n x.orL⟩) fun _ h => h).is (k.notMs hn))
  | e => exact h.eb
  | c => exact h.cb
  | b => exact h
theorem Ec.toB (h : Ec n m C e p) : Ec n .b C e p := by
  obtain ⟨t, h1, h2⟩ := h
  exact ⟨t, h1, fun z X H0 H σ env Q k o l w c hp => h2 z X H0 H σ env Q k o l w (fun c' d v H' hc ev r kd => c c' d v H' hc ev (r.toBC o) kd) hp⟩
theorem Rel.feC {z : Zn} {c : Nat} {X : AP} {H0 H H' : Hp} {σ : Sl} {env : List SV} {v : V} {d : D} (k : Ok z X H0 H σ env) (h : Rel .f (z.at c) X H H' σ env v d) : Rel .e (z.at c) X H H' σ env v d := by
  obtain ⟨a, rfl, hn, hc⟩ := h
  exact (hc.gen (fun _ q => q) (fun b o q n => ⟨q, fun x => n x.orL⟩) fun _ h => h).is (k.notMs hn)
theorem Ec.fe (h : Ec n .f C e p) : Ec n .e C e p := by
  obtain ⟨t, h1, h2⟩ := h
  exact ⟨t, h1, fun z X H0 H σ env Q k o l w c hp => h2 z X H0 H σ env Q k o l w (fun c' d v H' hc ev r kd => c c' d v H' hc ev (r.feC o) kd) hp⟩
theorem Ec.ec (h : Ec n .e C e p) : Ec n .c C e p := by
  obtain ⟨t, h1, h2⟩ := h
  exact ⟨t, h1, fun z X H0 H σ env Q k o l w c hp => h2 z X H0 H σ env Q k o l w (fun c' d v H' hc ev r kd => c c' d v H' hc ev r.ec kd) hp⟩
theorem Rel.earlyC {z z' : Zn} {X : AP} {H H1 H' : Hp} {σ : Sl} {env : List SV} {v : V} {d : D} (e : ∀ p, H1 p = none → H p = none) (h : Rel m z X H1 H' σ env v d) : Rel m z X H H' σ env v d := by
  cases m with
  | f => obtain ⟨a, rfl, hn, hc⟩ := h; exact ⟨a, rfl, e _ hn, hc⟩
  | e => exact h
  | c => exact h
  | b => exact h
theorem REc.op {mi mo : Mode} {r : R2} {g : D → D → (D → Prop) → Prop} {ta tb : TE} (hm : mi ≠ .f) (ho : OpD mi mo r g) (ha : REc na mi ta p) (hb : REc nb mi tb q) : REc (na + nb) mo (tOp r ta tb) (eOp g p q) := fun z X H0 H σ env Q k o l w c hp => by
  refine ha z X H0 H σ env _ _ o l (by omega) (fun c1 x v H1 hc1 e1 r1 hp1 => ?_) hp
  have o1 := o.goC e1
  have w1 : (z.at c1).ct = c1 := rfl
  refine hb (z.at c1) X H0 H1 σ env _ _ o1 e1.live (by omega) (fun c2 y u H2 hc2 e2 r2 hp2 => ?_) hp1
  have o2 := o1.goC e2
  refine ho (z.at c2) X H0 H2 σ env v u x y Q k o2 ((Rel.goC (z := z.at c1) o.zal e2 r1).later hm) (r2.later hm) (fun d w' H3 e3 r3 kd => ?_) hp2
  have e13 := (e1.trans e2).trans (e3.toC (z := z.at c2) e2.live)
  exact c c2 d w' H3 (by omega) e13 (r3.earlyC (z' := z) fun p hn => e1.fresh (e2.fresh hn)) kd
theorem ec_op {mi mo : Mode} {op : Operator} {r : R2} {g : D → D → (D → Prop) → Prop} (hr : OpR C (binaryOp op) r) (ho : OpD mi mo r g) (ha : Ec na mi C a p) (hb : Ec nb mi C b q) (hm : mi ≠ .f := by decide) : Ec (na + nb) mo C (.BinOp a op b pos) (eOp g p q) := by
  obtain ⟨ta, a1, a2⟩ := ha
  obtain ⟨tb, b1, b2⟩ := hb
  exact ⟨_, pe_op hr a1 b1, REc.op hm ho a2 b2⟩
theorem ec_cmp {mi mo : Mode} {op : CmpOp} {r : R2} {g : D → D → (D → Prop) → Prop} (hr : OpR C (compareOp op) r) (ho : OpD mi mo r g) (ha : Ec na mi C a p) (hb : Ec nb mi C b q) (hk : behindInMarks op b = false) (hm : mi ≠ .f := by decide) : Ec (na + nb) mo C (.Compare a [op] [b] pos) (eOp g p q) := by
  obtain ⟨ta, a1, a2⟩ := ha
  obtain ⟨tb, b1, b2⟩ := hb
  exact ⟨_, pe_cmpR hr a1 b1 hk, REc.op hm ho a2 b2⟩
end
end Pu
namespace Pu
open PySem PySem.Spec PyProof.Rows L2
variable [Tbs]
section
variable {C : Cx} {e a b : Expr} {es : List Expr} {p q pe : PX} {g : PAs} {m mo : Mode} {pos pp : Pos} {n na nb cost k : Nat} {x : Str} {l : Bool}
/-! ### arguments, displays -/
theorem ac_of (h : A l C es g) : Ac 0 l C es g := let ⟨t, h1, h2⟩ := h; ⟨t, h1, h2.toC⟩
theorem ac_nil : Ac 0 l C [] aNil := ac_of a_nil
theorem ac_cons (h : Ec na (lm l) C e p) (hr : Ac nb l C es g) (hs : starEach (e :: es) C.env = (false, eval e C.env) :: starEach es C.env := by rfl) : Ac (na + nb) l C (e :: es) (aCons p g) := by
  obtain ⟨t, h1, h2⟩ := h
  obtain ⟨u, g1, g2⟩ := hr
  refine ⟨_, pa_cons h1 g1 hs, fun z X H0 H σ env Q k o lv w c hp => h2 z X H0 H σ env _ _ o lv (by omega) (fun c1 d v H1 hc1 e1 r1 hx => ?_) hp⟩
  have w1 : (z.at c1).ct = c1 := rfl
  refine g2 (z.at c1) X H0 H1 σ env _ _ (o.goC e1) e1.live (by omega) (fun c2 ds vs H2 hc2 e2 r2 hy => c c2 (d :: ds) (v :: vs) H2 (by omega) (e1.trans e2) (.cons ?_ r2) hy) hx
  cases l with
  | true => exact Is.goC (z := z.at c1) (c := c2) (fun _ q => .inl q) e2 r1
  | false => exact Is.goC (z := z.at c1) (c := c2) (fun _ q => .inl q) e2 r1
theorem ec_tup {x1} (h : Ac n true C es g) : Ec n .e C (.Tuple es x1 pos) (eTup g) := by
  obtain ⟨t, h1, h2⟩ := h
  refine ⟨_, pe_tup h1, fun z X H0 H σ env Q k o lv w c hp => h2 z X H0 H σ env _ _ o lv w (fun c1 ds vs H1 hc1 e1 r1 hx => ⟨by rw [r1.length]; exact sz hx.1, fun q hq => ?_⟩) hp⟩
  have e2 := e1.trans (c' := c1) (((Evo.refl (z.at c1) H1).new (o := .tup vs) hq).toC e1.live)
  exact c c1 _ _ _ hc1 e2 (Rel.feC o (Rel.newT (e1.fresh hq) hq r1)) hx.2
theorem ec_ix (ha : Ec na .c C a p) (hb : Ec nb .c C b q) (hs : PlainIx b := by exact fun _ _ => rfl) : Ec (na + nb) .e C (.Subscript a b pos) (eOp dIx p q) := by
  obtain ⟨ta, a1, a2⟩ := ha
  obtain ⟨tb, b1, b2⟩ := hb
  exact ⟨_, pe_ix (r := rIx C.K) ix_seq a1 b1 hs, REc.op (by decide) opd_ix a2 b2⟩
/-! ### calls -/
/-- a plain def or a drawing one: its promise, with its cost -/
def Sfc (fr : Bool) (n cost : Nat) (wp : List D → (D → Prop) → Prop) : Sp := fun vs H Q _ => ∃ (z : Zn) (X : AP) (ds : List D) (k : D → Prop), vs.length = n ∧ ((∀ a, z.Z a → H a ≠ none) ∧ Tabs H) ∧ (∀ a, X a → H a ≠ none ∧ ¬ z.Z a) ∧ IsA z (Zx z X) H vs ds ∧ (z.live H ∧ z.ct + cost ≤ lim) ∧ wp ds k ∧
  ∀ c d v H', c ≤ z.ct + cost → EvoC z c H H' → Is (z.at c) (Zx z X) H' v d → (fr = true → ∃ a, v = .ref a ∧ H a = none ∧ Con (z.at c) (Zx z (X.or a)) H' a d) → k d → Q v H'
theorem rec_call {fr : Bool} {wp : List D → (D → Prop) → Prop} {t : TA} {ga : PAs} (h : RAc na true t ga) (E' : XK) (hm : mo = .e ∨ (mo = .f ∧ fr = true)) : REc (na + cost) mo (tCall (Sfc fr n cost wp) [] E' t) (eCall (fun ds k => ds.length = n ∧ wp ds k) ga) := fun z X H0 H σ env Q k o lv w c hp => by
  refine h z X H0 H σ env _ _ o lv (by omega) (fun c1 ds vs H1 hc1 e1 r1 hx => ?_) hp
  have o1 := o.goC e1
  have w1 : (z.at c1).ct = c1 := rfl
  rw [if_pos rfl] at r1
  refine ⟨z.at c1, Ox X σ env, ds, k, by rw [List.append_nil, r1.length]; exact hx.1, ⟨o1.zal, o1.tab⟩, fun a => o1.ox, by rw [List.append_nil]; exact r1.weak fun a q => (zx_ox (z := z)).mp q, ⟨e1.live, by omega⟩, hx.2, fun c2 d v H2 hc2 e2 r2 fq kd => ?_⟩
  refine c c2 d v H2 (by omega) (e1.trans e2) ?_ kd
  rcases hm with rfl | ⟨rfl, hf⟩
  · exact Is.weak (fun a q => (zx_ox (z := z)).mpr q) r2
  · obtain ⟨a, ev, ha, hc⟩ := fq hf
    refine ⟨a, ev, e1.fresh ha, hc.gen (fun _ q => q) (fun b u q n => ⟨q, fun y => n ?_⟩) fun _ h => h⟩
    rcases y with y | (y | y) | y
    · exact .inl y
    · exact .inr (.inl (.inl y))
    · exact .inr (.inr y)
    · exact .inr (.inl (.inr y))
theorem ec_calld {fr : Bool} {f : Addr} {fd : FuncData} {ps : List Str} {wp : List D → (D → Prop) → Prop} {ga : PAs} (F : FnOk C.prog C.w C.K C.mg C.base CX0 k f fd ps (Sfc fr n cost wp)) (hr : Room k C.A) (hg : Gl C x) (hm : C.mg x = some (.ref f)) (hk : PySem.W.keepIn C.K (.ref f) = true) (hb : Binds C.K fd ps [])
    (ha : Ac na true C (e :: es) ga) (hmo : mo = .e ∨ (mo = .f ∧ fr = true)) (hdb : (x == ("__debug__" : Str)) = false := by decide) (he : starEach (e :: es) C.env = (false, eval e C.env) :: starEach es C.env := by rfl) (hpl : (backTo pos (starEach es C.env)).any (·.1) = false := by rfl) :
    Ec (na + cost) mo C (.Call (.Name x pp) (e :: es) [] pos) (eCall (fun ds k => ds.length = n ∧ wp ds k) ga) := by
  obtain ⟨t, h1, h2⟩ := ha
  exact ⟨_, pe_call F hr hg hm hk hb .nil pass0 h1 hdb he hpl, rec_call h2 E0 hmo⟩
/-- a plain def, its arguments may draw -/
theorem rec_callP {fr : Bool} {wp : List D → (D → Prop) → Prop} {t : TA} {ga : PAs} (h : RAc na true t ga) (E' : XK) (hm : mo = .e ∨ (mo = .f ∧ fr = true)) : REc na mo (tCall (Sf fr n wp) [] E' t) (eCall (fun ds k => ds.length = n ∧ wp ds k) ga) := fun z X H0 H σ env Q k o lv w c hp => by
  refine h z X H0 H σ env _ _ o lv w (fun c1 ds vs H1 hc1 e1 r1 hx => ?_) hp
  have o1 := o.goC e1
  rw [if_pos rfl] at r1
  refine ⟨z.at c1, Ox X σ env, ds, k, by rw [List.append_nil, r1.length]; exact hx.1, ⟨o1.zal, o1.tab⟩, fun a => o1.ox, by rw [List.append_nil]; exact r1.weak fun a q => (zx_ox (z := z)).mp q, hx.2, fun d v H2 e2 r2 fq kd => ?_⟩
  refine c c1 d v H2 hc1 (e1.trans (c' := c1) (e2.toC e1.live)) ?_ kd
  rcases hm with rfl | ⟨rfl, hf⟩
  · exact Is.weak (fun a q => (zx_ox (z := z)).mpr q) r2
  · obtain ⟨a, ev, ha, hc⟩ := fq hf
    refine ⟨a, ev, e1.fresh ha, hc.gen (fun _ q => q) (fun b u q n => ⟨q, fun y => n ?_⟩) fun _ h => h⟩
    rcases y with y | (y | y) | y
    · exact .inl y
    · exact .inr (.inl (.inl y))
    · exact .inr (.inr y)
    · exact .inr (.inl (.inr y))
theorem ec_callP {fr : Bool} {f : Addr} {fd : FuncData} {ps : List Str} {wp : List D → (D → Prop) → Prop} {ga : PAs} (F : FnOk C.prog C.w C.K C.mg C.base CX0 k f fd ps (Sf fr n wp)) (hr : Room k C.A) (hg : Gl C x) (hm : C.mg x = some (.ref f)) (hk : PySem.W.keepIn C.K (.ref f) = true) (hb : Binds C.K fd ps [])
    (ha : Ac na true C (e :: es) ga) (hmo : mo = .e ∨ (mo = .f ∧ fr = true)) (hdb : (x == ("__debug__" : Str)) = false := by decide) (he : starEach (e :: es) C.env = (false, eval e C.env) :: starEach es C.env := by rfl) (hpl : (backTo pos (starEach es C.env)).any (·.1) = false := by rfl) :
    Ec na mo C (.Call (.Name x pp) (e :: es) [] pos) (eCall (fun ds k => ds.length = n ∧ wp ds k) ga) := by
  obtain ⟨t, h1, h2⟩ := ha
  exact ⟨_, pe_call F hr hg hm hk hb .nil pass0 h1 hdb he hpl, rec_callP h2 E0 hmo⟩
/-! ### tests -/
theorem RTc.of {t : TE} (h : REc n .b t p) : RTc n (tTest t) (tOf p) := fun z X H0 H σ env Q k o lv w c hp => by
  refine h z X H0 H σ env _ _ o lv w (fun c1 d v H' hc e r hd => ?_) hp
  cases d with
  | bl b =>
    cases (show Is (z.at c1) _ H' v (.bl b) from r)
    exact ⟨b, rfl, c c1 b H' hc e hd⟩
  | _ => exact (show False from hd).elim
theorem tc_cmp {mi : Mode} {op : CmpOp} {r : R2} {g : D → D → (D → Prop) → Prop} (hr : OpR C (compareOp op) r) (ho : OpD mi .b r g) (ha : Ec na mi C a p) (hb : Ec nb mi C b q) (hk : behindInMarks op b = false) (hm : mi ≠ .f := by decide) : Tc (na + nb) C (.Compare a [op] [b] pos) (tOf (eOp g p q)) := by
  obtain ⟨ta, a1, a2⟩ := ha
  obtain ⟨tb, b1, b2⟩ := hb
  exact ⟨_, pt_cmpR hr a1 b1 hk, RTc.of (REc.op hm ho a2 b2)⟩
variable {rest : List Expr} {tp tq : PTs'}
theorem wc_and1 (h : Tc n C a tp) : Wc n C (.BoolOp .And [a] pos) tp := by
  obtain ⟨t, h1, h2⟩ := h
  exact ⟨t, pw_and1 h1, h2⟩
theorem wc_and (h : Tc na C a tp) (g : Wc nb C (.BoolOp .And (b :: rest) pos) tq) : Wc (na + nb) C (.BoolOp .And (a :: b :: rest) pos) (tAndP tp tq) := by
  obtain ⟨t, h1, h2⟩ := h
  obtain ⟨u, g1, g2⟩ := g
  refine ⟨_, pw_and h1 g1, fun z X H0 H σ env Q k o lv w c hp => h2 z X H0 H σ env _ _ o lv (by omega) (fun c1 x H1 hc1 e1 hx => ?_) hp⟩
  have w1 : (z.at c1).ct = c1 := rfl
  cases x with
  | true => exact g2 (z.at c1) X H0 H1 σ env Q k (o.goC e1) e1.live (by omega) (fun c2 y H2 hc2 e2 hy => c c2 y H2 (by omega) (e1.trans e2) hy) hx
  | false => exact c c1 false H1 (by omega) e1 hx
theorem wc_t (h : Wc n C e tp) : Tc n C e tp := let ⟨t, h1, h2⟩ := h; ⟨t, h1.pt, h2⟩
end
/-! ### statements -/
structure FrC (z : Zn) (c : Nat) (X : AP) (M : AP) (H : Hp) (M' : AP) (H' : Hp) : Prop where
  old : ∀ a o, H a = some o → ¬ M a → H' a = some o ∧ ¬ M' a
  al : ∀ a, H a ≠ none → H' a ≠ none
  live : (z.at c).live H'
section
variable {z : Zn} {c c' : Nat} {X : AP} {H0 H H' H1 H2 : Hp} {σ σ' : Sl} {env env' : List SV} {M M1 M2 M' : AP} {v : V} {d : D}
theorem FrC.ok (f : FrC z c X M H M' H') : ∀ a, z.ok H a → (z.at c).ok H' a := fun b h => by obtain rfl : b = (z.at c).dk := h.1; exact f.live
theorem FrC.is (f : FrC z c X M H M' H') (h : Is z M H v d) : Is (z.at c) M' H' v d := h.at f.old f.ok
theorem FrC.isA {vs : List V} {ds : List D} (f : FrC z c X M H M' H') (h : IsA z M H vs ds) : IsA (z.at c) M' H' vs ds := h.at f.old f.ok
theorem FrC.trans (a : FrC z c X M H M1 H1) (b : FrC (z.at c) c' X M1 H1 M2 H2) : FrC z c' X M H M2 H2 := ⟨fun x o h n => b.old x o (a.old x o h n).1 (a.old x o h n).2, fun x h => b.al x (a.al x h), b.live⟩
theorem Fr.toC (f : Fr z X M H M' H') (l : z.live H) : FrC z z.ct X M H M' H' := ⟨f.old, f.al, f.dk _ l⟩
theorem Ok.frC (k : Ok z X H0 H σ env) (e : EvoC z c H H') : FrC z c X (Ms z X σ env) H (Ms z X σ env) H' := ⟨fun a o h n => ⟨e.old a o h fun x => n (.inl x), n⟩, e.al, e.live⟩
end
section
variable {z : Zn} {c : Nat} {X : AP} {H0 H H' H1 H2 : Hp} {σ σ' : Sl} {env env' : List SV} {M : AP}
/-- a store of a new thing that the slot owns -/
theorem Ok.takeC (k : Ok z X H0 H σ env) {i : Nat} {a : Addr} {d : D} (hl : i < env.length) (e : EvoC z c H H') (hn : H a = none) (hc : Con (z.at c) (Ms z (X.or a) σ env) H' a d) :
    Ok (z.at c) X H0 H' (σ.set i (some (V.ref a))) (env.set i (.own d)) ∧ FrC z c X (Ms z X σ env) H (Ms z X (σ.set i (some (V.ref a))) (env.set i (.own d))) H' := by
  have hz : ¬ z.Z a := fun q => k.zal a q hn
  have hx : ¬ X a := fun q => (k.xal a q).1 hn
  have ms : ∀ b, Ms z X (σ.set i (some (V.ref a))) (env.set i (.own d)) b → Ms z (X.or a) σ env b := by
    rintro b (h | h | ⟨j, f, h1, h2⟩)
    · exact .inl h
    · exact .inr (.inl (.inl h))
    · by_cases hj : i = j
      · subst hj
        rw [List.getElem?_set_self (by rw [k.len]; exact hl)] at h2
        cases h2
        exact .inr (.inl (.inr rfl))
      · rw [List.getElem?_set_ne hj] at h1 h2
        exact .inr (.inr ⟨j, f, h1, h2⟩)
  have ms2 : ∀ b, Ms z (X.or a) σ env b → Ms z X σ env b ∨ b = a := by
    rintro b (h | (h | h) | h)
    · exact .inl (.inl h)
    · exact .inl (.inr (.inl h))
    · exact .inr h
    · exact .inl (.inr (.inr h))
  have old : ∀ b o, H b = some o → ¬ Ms z X σ env b → H' b = some o ∧ ¬ Ms z X (σ.set i (some (V.ref a))) (env.set i (.own d)) b := fun b o q n =>
    ⟨e.old b o q fun x => n (.inl x), fun x => (ms2 b (ms b x)).elim n fun y => by rw [y, hn] at q; cases q⟩
  refine ⟨⟨by simp [k.len], (k.goC e).evo, fun b h => e.al b (k.zal b h), fun b h => ⟨e.al b (k.xal b h).1, (k.xal b h).2⟩, fun j f h => ?_, fun j f h => ?_, fun j l b f g h1 h2 h3 h4 => ?_, e.tab k.tab⟩, ⟨old, e.al, e.live⟩⟩
  · by_cases hj : i = j
    · subst hj
      rw [List.getElem?_set_self hl] at h
      cases h
    · rw [List.getElem?_set_ne hj] at h ⊢
      obtain ⟨u, h1, h2⟩ := k.val j f h
      exact ⟨u, h1, h2.at old e.ok⟩
  · by_cases hj : i = j
    · subst hj
      rw [List.getElem?_set_self hl] at h
      cases h
      exact ⟨a, by rw [List.getElem?_set_self (by rw [k.len]; exact hl)], hc.gen (fun _ q => q) (fun b o q n => ⟨q, fun x => n (ms b x)⟩) fun _ h => h, hz, hx, k.evo.fresh hn⟩
    · rw [List.getElem?_set_ne hj] at h ⊢
      obtain ⟨b, h1, h2, h3, h4⟩ := k.own j f h
      exact ⟨b, h1, h2.at (fun o q => e.old b o q h3) old e.ok, h3, h4⟩
  · have own' : ∀ (j : Nat) (f : D), (env.set i (.own d))[j]? = some (.own f) → j ≠ i → env[j]? = some (.own f) := fun j f h hj => by rw [List.getElem?_set_ne (Ne.symm hj)] at h; exact h
    have no : ∀ (j : Nat) (f : D), env[j]? = some (.own f) → σ[j]? = some (some (V.ref a)) → False := fun j f h1 h2 => by
      obtain ⟨b, h3, h4, _⟩ := k.own j f h1
      rw [h2] at h3
      cases h3
      obtain ⟨o, h5⟩ := h4.some
      rw [hn] at h5
      cases h5
    by_cases hj : j = i
    · by_cases hl2 : l = i
      · rw [hj, hl2]
      · rw [hj, List.getElem?_set_self (by rw [k.len]; exact hl)] at h3
        cases h3
        rw [List.getElem?_set_ne (Ne.symm hl2)] at h4
        exact (no l g (own' l g h2 hl2) h4).elim
    · by_cases hl2 : l = i
      · rw [hl2, List.getElem?_set_self (by rw [k.len]; exact hl)] at h4
        cases h4
        rw [List.getElem?_set_ne (Ne.symm hj)] at h3
        exact (no j f (own' j f h1 hj) h3).elim
      · rw [List.getElem?_set_ne (Ne.symm hj)] at h3
        rw [List.getElem?_set_ne (Ne.symm hl2)] at h4
        exact k.inj j l b f g (own' j f h1 hj) (own' l g h2 hl2) h3 h4
end
structure SimC (A B : Nat) (fr : Bool) (z : Zn) (X : AP) (H0 : Hp) (M : AP) (H : Hp) (G : Ends) (k : PK') : Prop where
  nx : ∀ c env' σ' H', c ≤ A → Ok (z.at c) X H0 H' σ' env' → FrC z c X M H (Ms z X σ' env') H' → k.nx env' → G.nx σ' H'
  rt : ∀ c d v H', c ≤ B → Evo (z.at c) H0 H' → (z.at c).live H' → Is (z.at c) (Zx z X) H' v d → (fr = true → ∃ a, v = .ref a ∧ H0 a = none ∧ Con (z.at c) (Zx z (X.or a)) H' a d) → k.rt d → G.rt v H'
  bk : ∀ c env' σ' H', c ≤ B → Ok (z.at c) X H0 H' σ' env' → FrC z c X M H (Ms z X σ' env') H' → k.bk env' → G.bk σ' H'
  ct : ∀ c env' σ' H', c ≤ B → Ok (z.at c) X H0 H' σ' env' → FrC z c X M H (Ms z X σ' env') H' → k.ct env' → G.ct σ' H'
theorem SimC.go {A B : Nat} {fr : Bool} {z : Zn} {c : Nat} {X : AP} {H0 : Hp} {M M1 : AP} {H H1 : Hp} {G : Ends} {k : PK'} (s : SimC A B fr z X H0 M H G k) (f : FrC z c X M H M1 H1) : SimC A B fr (z.at c) X H0 M1 H1 G k :=
  ⟨fun c' e σ H' h o g hk => s.nx c' e σ H' h o (f.trans g) hk, s.rt, fun c' e σ H' h o g hk => s.bk c' e σ H' h o (f.trans g) hk, fun c' e σ H' h o g hk => s.ct c' e σ H' h o (f.trans g) hk⟩
theorem SimC.le {A A' B : Nat} {fr : Bool} {z : Zn} {X : AP} {H0 : Hp} {M : AP} {H : Hp} {G : Ends} {k : PK'} (s : SimC A B fr z X H0 M H G k) (h : A' ≤ A) : SimC A' B fr z X H0 M H G k :=
  ⟨fun c e σ H' hc o g hk => s.nx c e σ H' (Nat.le_trans hc h) o g hk, s.rt, s.bk, s.ct⟩
def RSc (n : Nat) (fr : Bool) (t : TS) (p : PSt) : Prop := ∀ (z : Zn) (X : AP) (H0 H : Hp) (σ : Sl) (env : List SV) (G : Ends) (k : PK') (B : Nat), Ok z X H0 H σ env → z.live H → z.ct + n ≤ B → B ≤ lim → SimC (z.ct + n) B fr z X H0 (Ms z X σ env) H G k → p env k → t G σ H
structure Sc (n : Nat) (fr : Bool) (C : Cx) (st : Stmt) (p : PSt) : Prop where
  ex : ∃ t, PS C st t ∧ RSc n fr t p
structure Bc (n : Nat) (fr : Bool) (C : Cx) (st : List Stmt) (p : PSt) : Prop where
  ex : ∃ t, PSs C st t ∧ RSc n fr t p
section
variable {C : Cx} {fr : Bool} {st : Stmt} {rest : List Stmt} {p q : PSt} {e : Expr} {pe : PX} {m : Mode} {pos pp : Pos} {n na nb : Nat} {x : Str}
/-- a plain statement that only goes on -/
theorem S.cd (h : S fr C st p) (hn : ∀ env k, p env k → p env { nx := k.nx, rt := fun _ => False, bk := fun _ => False, ct := fun _ => False, re := fun _ _ => False } := by exact fun _ _ h => h) : Sc 0 fr C st p := by
  obtain ⟨t, h1, h2⟩ := h
  refine ⟨t, h1, fun z X H0 H σ env G k B o lv w wl s hp => h2 z X H0 H σ env G { nx := k.nx, rt := fun _ => False, bk := fun _ => False, ct := fun _ => False, re := fun _ _ => False } o ⟨fun env' σ' H' o' f' hk => s.nx z.ct env' σ' H' (Nat.le_refl _) o' (f'.toC lv) hk, fun _ _ _ _ _ _ h => h.elim, fun _ _ _ _ _ h => h.elim, fun _ _ _ _ _ h => h.elim, fun _ _ _ _ _ _ _ h => h.elim⟩ (hn _ _ hp)⟩
theorem bc_nil : Bc 0 fr C [] sNext := ⟨_, pss_nil, fun z X H0 H σ env G k B o lv w wl s h => s.nx z.ct env σ H (Nat.le_refl _) o (Fr.refl.toC lv) h⟩
theorem bc_cons (h : Sc na fr C st p) (g : Bc nb fr C rest q) : Bc (na + nb) fr C (st :: rest) (sSeq p q) := by
  obtain ⟨t, h1, h2⟩ := h
  obtain ⟨u, g1, g2⟩ := g
  refine ⟨_, pss_cons h1 g1, fun z X H0 H σ env G k B o lv w wl s hp => h2 z X H0 H σ env _ { k with nx := fun env' => q env' k } B o lv (by omega) wl ⟨fun c env' σ' H' hc o' f' hx => ?_, s.rt, s.bk, s.ct⟩ hp⟩
  have w1 : (z.at c).ct = c := rfl
  exact g2 (z.at c) X H0 H' σ' env' G k B o' f'.live (by omega) wl ((s.go f').le (by omega)) hx
theorem bc_one (h : Sc n fr C st p) : Bc n fr C [st] p := let ⟨t, h1, h2⟩ := h; ⟨t, pss_one h1, h2⟩
theorem bc_le (h : Bc na fr C rest p) (hl : na ≤ nb) : Bc nb fr C rest p := by
  obtain ⟨t, h1, h2⟩ := h
  exact ⟨t, h1, fun z X H0 H σ env G k B o lv w wl s hp => h2 z X H0 H σ env G k B o lv (by omega) wl (s.le (by omega)) hp⟩
theorem bc_frz (i : Nat) {sts : List Stmt} (h : Bc n fr C sts p) : Bc n fr C sts (sFrz i p) := by
  obtain ⟨t, h1, h2⟩ := h
  refine ⟨t, h1, fun z X H0 H σ env G k B o lv w wl s hp => ?_⟩
  obtain ⟨o2, f2⟩ := o.frz i
  exact h2 z X H0 H σ _ G k B o2 lv w wl (s.go (c := z.ct) (f2.toC lv)) hp
theorem sc_set {i : Nat} (h : Ec n .e C e pe) (hN : C.N.Nodup) (hi : C.N[i]? = some x) (hx : Loc C.env.scope x) (hs : swapsWith e (some (.Name x pp)) pos.line C.env = pure false := by rfl) (hf : C.fn x = true ∨ C.env.scope.names.lookup x = some .local := by first | exact .inl rfl | exact .inr rfl | assumption) :
    Sc n fr C (.Assign [.Name x pp] e pos) (sSet i pe) := by
  obtain ⟨t, h1, h2⟩ := h
  refine ⟨_, ps_set hN hi hx h1 hs hf, fun z X H0 H σ env G k B o lv w wl s hp => h2 z X H0 H σ env _ _ o lv (by omega) (fun c d v H1 hc e1 r1 hx => ?_) hp⟩
  obtain ⟨o2, f2⟩ := (o.goC e1).set (i := i) (show Is (z.at c) _ H1 v d from r1)
  exact s.nx c _ _ H1 hc o2 ((o.frC e1).trans (f2.toC (z := z.at c) e1.live)) hx
theorem sc_own {i : Nat} (h : Ec n .f C e pe) (hN : C.N.Nodup) (hi : C.N[i]? = some x) (hx : Loc C.env.scope x) (hs : swapsWith e (some (.Name x pp)) pos.line C.env = pure false := by rfl) (hf : C.fn x = true ∨ C.env.scope.names.lookup x = some .local := by first | exact .inl rfl | exact .inr rfl | assumption) :
    Sc n fr C (.Assign [.Name x pp] e pos) (sOwn i pe) := by
  obtain ⟨t, h1, h2⟩ := h
  refine ⟨_, ps_set hN hi hx h1 hs hf, fun z X H0 H σ env G k B o lv w wl s hp => h2 z X H0 H σ env _ _ o lv (by omega) (fun c d v H1 hc e1 r1 hx => ?_) hp⟩
  obtain ⟨a, rfl, ha, hcn⟩ := r1
  obtain ⟨o2, f2⟩ := o.takeC hx.1 e1 ha hcn
  exact s.nx c _ _ H1 hc o2 f2 hx.2
theorem sc_asg {tg : Expr} {js : List Nat} {g : TG} {pg : PGt} (h : Ec n .e C e pe) (hg : G C tg js g pg) (hs : swapsWithSole [tg] e pos.line C.env = pure false := by rfl) (hw : swappedStores [tg] e C.env = pure none := by rfl)
    (h1 : (assignEach [tg] C.env).map (·.2) = [assign tg C.env] := by rfl) : Sc n fr C (.Assign [tg] e pos) (sAsg pe pg) := by
  obtain ⟨t, a1, a2⟩ := h
  refine ⟨_, ps_asg a1 hg.pg hs hw h1, fun z X H0 H σ env G k B o lv w wl s hp => a2 z X H0 H σ env _ _ o lv (by omega) (fun c d v H1 hc e1 r1 hx => ?_) hp⟩
  exact hg.rg (z.at c) X H0 H1 σ env v d _ _ (o.goC e1) r1 (fun env' σ' o' f' _ hy => s.nx c env' σ' H1 hc o' ((o.frC e1).trans (f'.toC (z := z.at c) e1.live)) hy) hx
theorem sc_ret (h : Ec n m C e pe) : Sc n false C (.Return (some e) pos) (sRet pe) := by
  obtain ⟨t, h1, h2⟩ := h.toB
  exact ⟨_, ps_ret h1, fun z X H0 H σ env G k B o lv w wl s hp => h2 z X H0 H σ env _ _ o lv (by omega) (fun c d v H1 hc e1 r1 hx => s.rt c d v H1 (by omega) ((o.goC e1).evo) e1.live r1 (fun q => Bool.noConfusion q) hx) hp⟩
theorem sc_if {c : Expr} {a b : List Stmt} {tc : PTs'} {nc : Nat} (h : Tc nc C c tc) (ha : Bc na fr C a p) (hb : Bc nb fr C b q) : Sc (nc + (na + nb)) fr C (.If c a b pos) (sIf tc p q) := by
  obtain ⟨t, h1, h2⟩ := h
  obtain ⟨ta, a1, a2⟩ := ha
  obtain ⟨tb, b1, b2⟩ := hb
  refine ⟨_, ps_if h1 a1 b1, fun z X H0 H σ env G k B o lv w wl s hp => h2 z X H0 H σ env _ _ o lv (by omega) (fun c1 x H1 hc e1 hx => ?_) hp⟩
  have w1 : (z.at c1).ct = c1 := rfl
  cases x with
  | true => exact a2 (z.at c1) X H0 H1 σ env G k B (o.goC e1) e1.live (by omega) wl ((s.go (o.frC e1)).le (by omega)) hx
  | false => exact b2 (z.at c1) X H0 H1 σ env G k B (o.goC e1) e1.live (by omega) wl ((s.go (o.frC e1)).le (by omega)) hx
end
end Pu
namespace Pu
open PySem PySem.Spec PyProof.Rows L2
variable [Tbs]
section
variable {C : Cx} {fr : Bool} {st : Stmt} {rest : List Stmt} {p q : PSt} {e : Expr} {pe pi : PX} {m : Mode} {pos pp : Pos} {n na nb : Nat} {x : Str}
theorem sc_retO (i : Nat) (hN : C.N[i]? = some x := by rfl) (hv : Vis C.env.scope x := by first | exact Or.inl rfl | exact Or.inr (Or.inl rfl) | exact Or.inr (Or.inr rfl)) (hd : (x == ("__debug__" : Str)) = false := by decide)
    (hcd : (x == ("__classdict__" : Str)) = false := by decide) : Sc 0 fr C (.Return (some (.Name x pp)) pos) (sRetO i) := by
  refine ⟨_, ps_ret (pe_var hN hv hd hcd), fun z X H0 H σ env G k B o lv w wl s hp => ?_⟩
  unfold sRetO at hp
  split at hp
  · rename_i d he
    obtain ⟨a, h1, h2, h3, h4, h5⟩ := o.own i d he
    refine ⟨_, h1, s.rt z.ct d _ H (by omega) o.evo lv ((h2.gen (fun _ q => q) (fun b u q n => ⟨q, fun y => n y.ms⟩) fun _ h => h).is fun q => q.elim h3 h4) (fun _ => ⟨a, rfl, h5, h2.gen (fun _ q => q) (fun b u q n => ⟨q, fun y => n ?_⟩) fun _ h => h⟩) hp⟩
    rcases y with y | y | y
    · exact .inl y
    · exact .inr (.inl y)
    · exact .inr (.inr ⟨i, d, he, by rw [y]; exact h1⟩)
  · exact hp.elim
theorem sc_append (i : Nat) {apos cpos : Pos} (h : Ec n .e C e pe) (hN : C.N[i]? = some x := by rfl) (hv : Vis C.env.scope x := by first | exact Or.inl rfl | exact Or.inr (Or.inl rfl) | exact Or.inr (Or.inr rfl)) (hd : (x == ("__debug__" : Str)) = false := by decide)
    (hcd : (x == ("__classdict__" : Str)) = false := by decide)
    (hb : ∀ to te, PE C (.Name x pp) to → PE C e te → PE C (.Call (.Attribute (.Name x pp) "append" apos) [e] [] cpos) (tBM C.K "list" rAppend to (tCons te tNil)))
    (hs : swapsWith (.Call (.Attribute (.Name x pp) "append" apos) [e] [] cpos) none pos.line C.env = pure false := by rfl) :
    Sc n fr C (.Expr (.Call (.Attribute (.Name x pp) "append" apos) [e] [] cpos) pos) (sAppend i pe) := by
  obtain ⟨t, h1, h2⟩ := h
  refine ⟨_, ps_expr (hb _ _ (pe_var hN hv hd hcd) h1) hs, fun z X H0 H σ env G k B o lv w wl s hp => ?_⟩
  unfold sAppend at hp
  split at hp
  · rename_i xs he
    obtain ⟨a, q1, q2, q3, q4⟩ := o.own i _ he
    obtain ⟨vs, q5, q6⟩ := q2
    refine ⟨_, q1, .inl ⟨rfl, vs, SqL.of q5⟩, h2 z X H0 H σ env _ _ o lv (by omega) (fun c d v H1 hc e1 r1 hx => ?_) hp⟩
    have o1 := o.goC e1
    have q5' := e1.old a _ q5 q3
    refine ⟨a, vs, v, rfl, rfl, q5', by rw [q6.length]; exact szl hx.1, ?_⟩
    have ia : Ms z X σ env a := .inr (.inr ⟨i, _, he, q1⟩)
    have old : ∀ b u, H1 b = some u → ¬ Ms z X σ env b → upd H1 a (.lst (vs ++ [v])) b = some u ∧ ¬ Ms z X σ env b := fun b u hb n => ⟨by rw [upd_ne (fun e => n (by rw [e]; exact ia))]; exact hb, n⟩
    obtain ⟨o2, f2⟩ := o1.mut (o := .lst (vs ++ [v])) he q1 (d' := .lst (xs ++ [d])) ⟨vs ++ [v], upd_same, ((IsA.goC (fun _ q => .inl q) e1 q6).append (.cons r1 .nil)).gen old fun b hb => ok_mut (z := z.at c) q3 hb⟩
    exact s.nx c _ _ _ hc o2 ((o.frC e1).trans (f2.toC (z := z.at c) e1.live)) hx.2
  · rename_i xs he
    obtain ⟨a, q1, q2, q3, q4⟩ := o.own i _ he
    obtain ⟨qb, vs, q5, q6⟩ := q2
    refine ⟨_, q1, .inl ⟨rfl, vs, SqL.of q5⟩, h2 z X H0 H σ env _ _ o lv (by omega) (fun c d v H1 hc e1 r1 hx => ?_) hp⟩
    have o1 := o.goC e1
    have q5' := e1.old a _ q5 q3
    refine ⟨a, vs, v, rfl, rfl, q5', by rw [q6.length]; exact szl hx.1, ?_⟩
    have ia : Ms z X σ env a := .inr (.inr ⟨i, _, he, q1⟩)
    have old : ∀ b u, H1 b = some u → ¬ Ms z X σ env b → upd H1 a (.lst (vs ++ [v])) b = some u ∧ ¬ Ms z X σ env b := fun b u hb n => ⟨by rw [upd_ne (fun e => n (by rw [e]; exact ia))]; exact hb, n⟩
    obtain ⟨o2, f2⟩ := o1.mut (o := .lst (vs ++ [v])) he q1 (d' := .bor (xs ++ [d])) ⟨qb, vs ++ [v], upd_same, ((IsA.goC (fun _ q => .inl q) e1 q6).append (.cons r1 .nil)).gen old fun b hb => ok_mut (z := z.at c) q3 hb⟩
    exact s.nx c _ _ _ hc o2 ((o.frC e1).trans (f2.toC (z := z.at c) e1.live)) hx.2
  · exact hp.elim
theorem sc_popAt (j i : Nat) {y : Str} {py apos cpos : Pos} (h : Ec n m C e pe) (hj : C.N[j]? = some y) (hy : Loc C.env.scope y) (hND : C.N.Nodup)
    (hb : ∀ to te, PE C (.Name x pp) to → PE C e te → PE C (.Call (.Attribute (.Name x pp) "pop" apos) [e] [] cpos) (tBM C.K "list" rPopAt to (tCons te tNil)))
    (hN : C.N[i]? = some x := by rfl) (hv : Vis C.env.scope x := by first | exact Or.inl rfl | exact Or.inr (Or.inl rfl) | exact Or.inr (Or.inr rfl)) (hd : (x == ("__debug__" : Str)) = false := by decide)
    (hcd : (x == ("__classdict__" : Str)) = false := by decide)
    (hs : swapsWith (.Call (.Attribute (.Name x pp) "pop" apos) [e] [] cpos) (some (.Name y py)) pos.line C.env = pure false := by rfl) (hf : C.fn y = true ∨ C.env.scope.names.lookup y = some .local := by first | exact .inl rfl | exact .inr rfl | assumption) :
    Sc n fr C (.Assign [.Name y py] (.Call (.Attribute (.Name x pp) "pop" apos) [e] [] cpos) pos) (sPopAt j i pe) := by
  obtain ⟨t, h1, h2⟩ := h.toB
  refine ⟨_, ps_set hND hj hy (hb _ _ (pe_var hN hv hd hcd) h1) hs hf, fun z X H0 H σ env G k B o lv w wl s hp => ?_⟩
  unfold sPopAt at hp
  split at hp
  · rename_i xs he
    obtain ⟨a, q1, ⟨vs, q5, q6⟩, q3, q4⟩ := o.own i _ he
    refine ⟨_, q1, .inl ⟨rfl, vs, SqL.of q5⟩, h2 z X H0 H σ env _ _ o lv (by omega) (fun c d v H1 hc e1 r1 hx => ?_) hp⟩
    cases d with
    | int nn =>
      cases Is.intI r1
      obtain ⟨hn, jj, yy, g1, g2, hk⟩ := hx
      have o1 := o.goC e1
      have q5' := e1.old a _ q5 q3
      have q6' := IsA.goC (fun _ q => .inl q) e1 q6
      obtain ⟨w, w1, w2⟩ := q6'.get g2
      refine ⟨a, vs, nn, jj, w, rfl, rfl, q5', by omega, by omega, by rw [q6.length]; exact g1, w1, ?_⟩
      obtain ⟨o2, f2⟩ := mutL o1 he q1 q3 (q6'.eraseIdx jj)
      obtain ⟨o3, f3⟩ := o2.set (i := j) (f2.is w2)
      exact s.nx c _ _ _ hc o3 ((o.frC e1).trans ((f2.trans f3).toC (z := z.at c) e1.live)) hk
    | _ => exact (show False from hx).elim
  · exact hp.elim
end
/-! ### loops -/
def YieldsC (z : Zn) (X : AP) (M : AP) (H : Hp) (J : It) (ds : List D) : Prop := ∀ c M' H', FrC z c X M H M' H' → J.stop ds.length H' ∧
  ∀ i d, ds[i]? = some d → J.go i H' ∧ ∀ x H2, J.yld i H' x H2 → Evo (z.at c) H' H2 ∧ ((∀ a, z.Z a → M' a) → (∀ b, H' b = none → ¬ M' b) → Is (z.at c) M' H2 x d)
def RIc (n : Nat) (wi : TI) (p : PIt) : Prop := ∀ (z : Zn) (X : AP) (H0 H : Hp) (σ : Sl) (env : List SV) (R : It → Hp → Prop) (k : List D → Prop), Ok z X H0 H σ env → z.live H → z.ct + n ≤ lim →
  (∀ c ds J H', c ≤ z.ct + n → EvoC z c H H' → YieldsC (z.at c) X (Ms z X σ env) H' J ds → k ds → R J H') → p env k → wi σ H R
structure Ic (n : Nat) (C : Cx) (tg it : Expr) (p : PIt) : Prop where
  ex : ∃ wi, PI C tg it wi ∧ RIc n wi p
/-- a loop with draws in its body: it has at most 100000 turns -/
def sForC (it : PIt) (g : PGt) (body : PSt) : PSt := fun env k => it env fun ds => ds.length ≤ 100000 ∧ forP g body ds env k
theorem rsc_for {fr : Bool} {wi : TI} {pi : PIt} {js : List Nat} {g : TG} {pg : PGt} {tb : TS} {pb : PSt} {ni nb : Nat} (hi : RIc ni wi pi) (hg : RG js g pg) (hb : RSc nb fr tb pb) : RSc (ni + 100000 * nb) fr (tFor wi g tb) (sForC pi pg pb) := fun z X H0 H σ env G k B o lv w wl s hp => by
  refine hi z X H0 H σ env _ _ o lv (by omega) (fun c1 ds J H1 hc1 e1 yl hx => ?_) hp
  have w1 : (z.at c1).ct = c1 := rfl
  obtain ⟨hdl, hx⟩ := hx
  have f1 := o.frC e1
  have o1 := o.goC e1
  have hmul : ∀ i : Nat, i ≤ ds.length → i * nb ≤ 100000 * nb := fun i h => Nat.mul_le_mul_right nb (Nat.le_trans h hdl)
  refine ⟨fun i mm σ' H' => mm = ds.length - i ∧ i ≤ ds.length ∧ ∃ c env', c ≤ c1 + i * nb ∧ Ok (z.at c) X H0 H' σ' env' ∧ FrC (z.at c1) c X (Ms z X σ env) H1 (Ms z X σ' env') H' ∧ forP pg pb (ds.drop i) env' k, ⟨ds.length, by simp, Nat.zero_le _, c1, env, by omega, o1, Fr.refl.toC e1.live, by simpa using hx⟩, ?_⟩
  rintro i mm σ' H' ⟨rfl, hil, c, env', hc, o', f', hf⟩
  obtain ⟨y1, y2⟩ := yl c _ _ f'
  have hm1 := hmul i hil
  by_cases hlt : i < ds.length
  · obtain ⟨go, y3⟩ := y2 i ds[i] (List.getElem?_eq_getElem hlt)
    have hm2 := hmul (i + 1) hlt
    rw [Nat.succ_mul] at hm2
    rw [List.drop_eq_getElem_cons hlt] at hf
    refine .inr ⟨go, fun σ2 H2 => ∃ c2 env2, c2 ≤ c1 + (i + 1) * nb ∧ Ok (z.at c2) X H0 H2 σ2 env2 ∧ FrC (z.at c1) c2 X (Ms z X σ env) H1 (Ms z X σ2 env2) H2 ∧ forP pg pb (ds.drop (i + 1)) env2 k, fun σ2 H2 h2 => ⟨ds.length - (i + 1), by omega, rfl, hlt, h2⟩, fun x H2 hy => ?_⟩
    obtain ⟨e2, is⟩ := y3 x H2 hy
    have o2 := o'.go e2
    have l2 : (z.at c).live H2 := e2.dk _ f'.live
    have f2 := f'.trans (c' := c) ((o'.fr e2).toC (z := z.at c) f'.live)
    refine hg (z.at c) X H0 H2 σ' env' x _ _ _ o2 (is (fun a q => .inl q) (fun b q => o'.notMs q)) (fun env3 σ3 o3 f3 _ hx3 => ?_) hf
    have f23 := f2.trans (c' := c) (f3.toC (z := z.at c) l2)
    have wc : (z.at c).ct = c := rfl
    refine hb (z.at c) X H0 H2 σ3 env3 _ { nx := fun env2 => forP pg pb (ds.drop (i + 1)) env2 k, rt := k.rt, bk := k.nx, ct := fun env2 => forP pg pb (ds.drop (i + 1)) env2 k } (c + nb) o3 l2 (by omega) (by omega) ⟨fun c4 env4 σ4 H4 hc4 o4 f4 hx4 => ⟨c4, env4, by rw [Nat.succ_mul]; omega, o4, f23.trans f4, hx4⟩, fun c4 d v H4 hc4 e4 l4 r4 fq hk => s.rt c4 d v H4 (by omega) e4 l4 r4 fq hk, fun c4 env4 σ4 H4 hc4 o4 f4 hx4 => ?_, fun c4 env4 σ4 H4 hc4 o4 f4 hx4 => ⟨c4, env4, by rw [Nat.succ_mul]; omega, o4, f23.trans f4, hx4⟩⟩ hx3
    exact s.nx c4 env4 σ4 H4 (by omega) o4 (f1.trans (f23.trans f4)) hx4
  · have ei : i = ds.length := by omega
    subst ei
    rw [List.drop_length] at hf
    exact .inl ⟨y1, s.nx c env' σ' H' (by omega) o' (f1.trans f') hf⟩
section
variable {C : Cx} {fr : Bool} {tg e : Expr} {body : List Stmt} {pe : PX} {m : Mode} {pos pp : Pos} {n ni nb : Nat}
theorem sc_for {iter : Expr} {pi : PIt} {js : List Nat} {g : TG} {pg : PGt} {pb : PSt} (hi : Ic ni C tg iter pi) (hg : G C tg js g pg) (hb : Bc nb fr C body pb) (hp : PassesOwn (model C.prog C.w) C.A C.env C.xe) (hc : C.calm = true) (hs : ∀ x, foldedSetIterable iter C.env x = pure x := by intro _; rfl) :
    Sc (ni + 100000 * nb) fr C (.For tg iter body [] pos) (sForC pi pg pb) := by
  obtain ⟨wi, i1, i2⟩ := hi
  obtain ⟨tb, b1, b2⟩ := hb
  exact ⟨_, ps_for hp hc i1 hg.pg b1 hs, rsc_for i2 hg.rg b2⟩
theorem ylc_rng {z : Zn} {X : AP} {M : AP} {H : Hp} {lo : Int} {n : Nat} : YieldsC z X M H (Itr lo n) (rangeD lo n) := fun c M' H' f => by
  refine ⟨(by show n ≤ (rangeD lo n).length; simp [rangeD]), fun i d hd => ?_⟩
  have hi : i < n := by
    have := (List.getElem?_eq_some_iff.mp hd).1
    simpa [rangeD] using this
  refine ⟨hi, fun x H2 y => ?_⟩
  obtain ⟨rfl, rfl⟩ := y
  refine ⟨Evo.refl _ _, fun _ _ => ?_⟩
  have e : d = .int (lo + (i : Nat)) := by simpa [rangeD, hi, List.getElem?_map, List.getElem?_range] using hd.symm
  rw [e]
  exact Is.int _
theorem ic_range1 {a : Expr} {p : PAs} {l : Bool} (ha : Ac n l C [a] p) (hg : Gl C "range") (hm : C.mg "range" = none) (hs : starEach [a] C.env = [(false, eval a C.env)] := by rfl) : Ic n C tg (.Call (.Name "range" pp) [a] [] pos) (iRange1 p) := by
  obtain ⟨t, h1, h2⟩ := ha
  refine ⟨_, pi_range1 hg hm h1 hs, fun z X H0 H σ env R k o lv w c hp => h2 z X H0 H σ env _ _ o lv w (fun c1 ds vs H1 hc1 e1 r1 hx => ?_) hp⟩
  unfold rgK1 at hx
  split at hx
  · rename_i j
    cases IsA.ints (ns := [_]) r1
    exact ⟨j, rfl, by omega, by omega, c c1 _ _ H1 hc1 e1 ylc_rng hx.2.2⟩
  · exact hx.elim
end
/-! ### defs that draw, the law -/
section
variable {P : Program} {w : World} {K : PySem.W.Frag} {mg : Str → Option Value} {base : Heap}
theorem fn_okC {x qual : Str} {st : Stmt} {f : Addr} {fd : FuncData} {N ps : List Str} {k cost : Nat} {fr : Bool} {p : PSt} (F : Fun K x qual st f fd) (S : FnScope N ps (defScope st))
    (hb : ∀ (cdv : Value) (A : Around) (outer : List Env) (s : Shared) (H : Hp) (E : XK), Room k (A.deeper (envOfC qual (defScope st) s.heap.objs.size f cdv)) → Bc cost fr (cxOf CX0 P w K mg base N qual (defScope st) f cdv A outer s H E).nox (defBody st) p) :
    FnOk P w K mg base CX0 (k + 1) f fd ps (Sfc fr ps.length cost (wpOf fr N.length p)) := by
  refine F.ok S (fun vs H Q E h => ?_) (fun cdv A outer s H vs Q E hr h => ?_)
  · obtain ⟨z, X, ds, kk, hl, _⟩ := h
    exact hl
  · obtain ⟨z, X, ds, kk, hl, hz, hx, hA, ⟨lv, wl⟩, hw, c⟩ := h
    obtain ⟨t, b1, b2⟩ := hb cdv A outer s H E hr
    refine ⟨t, b1, b2 z X H H (L2.start N vs) _ _ { nx := fun _ => fr = false ∧ kk .non, rt := kk } (z.ct + cost) (start_ok hz hx hA) lv (Nat.le_refl _) wl ⟨fun c' env' σ' H' hc o' f' hk => ?_, fun c' d v H' hc e l r fq hk => ?_, fun _ _ _ _ _ _ _ hk => hk.elim, fun _ _ _ _ _ _ _ hk => hk.elim⟩ hw⟩
    · exact c c' .non .non H' hc ⟨o'.evo.old, o'.evo.al, o'.evo.tab, f'.live⟩ .non (fun q => by rw [hk.1] at q; cases q) hk.2
    · exact c c' d v H' hc ⟨e.old, e.al, e.tab, l⟩ r fq hk
/-- the rest of the body, behind the making of a deck that counts -/
theorem rest_okC {t : TS} {p : PSt} {n : Nat} (hn : n ≤ lim) (h : RSc n false t p) {N : List Str} {a dk c : Addr} {H : Hp} (hl : 2 ≤ N.length) (hd : DkF 6 H dk c) (h0 : ∃ s g : Int, H dk = some (.lst [.ref c, .int s, .int 0, .int g])) (hT : Tabs H) {Q : VK} (k : ∀ H', Q (.bl true) H')
    (hp : p (SV.no :: SV.val (.deck 6) :: List.replicate (N.length - 2) SV.no) { nx := fun _ => False, rt := fun d => d = .bl true }) :
    t { nx := fun _ H' => Q .non H', rt := Q } ((L2.start N [V.ref a]).set 1 (some (.ref dk))) H := by
  have hst : (L2.start N [V.ref a]).set 1 (some (.ref dk)) = some (V.ref a) :: some (.ref dk) :: List.replicate (N.length - 2) none := by
    unfold L2.start
    obtain ⟨m, hm⟩ : ∃ m, N.length = m + 2 := ⟨N.length - 2, by omega⟩
    rw [hm]
    simp [List.replicate_succ]
  rw [hst]
  let z : Zn := ⟨dk, c, 6, Option.none, 0⟩
  have lv : z.live H := ⟨rfl, (by decide : (6 : Nat) ≠ 0), hd, h0⟩
  have zal : ∀ b, z.Z b → H b ≠ none := fun b q => by
    rcases q with ⟨_, q | q⟩ | q
    · rw [q]; exact hd.al.1
    · rw [q]; exact hd.al.2
    · exact hT.at q
  have hrep : ∀ (i : Nat) (d : SV), (SV.no :: SV.val (.deck 6) :: List.replicate (N.length - 2) SV.no)[i]? = some d → d = .no ∨ (i = 1 ∧ d = .val (.deck 6)) := fun i d h => by
    match i, h with
    | 0, h => simp at h; exact .inl h.symm
    | 1, h => simp at h; exact .inr ⟨rfl, h.symm⟩
    | j + 2, h =>
      simp only [List.getElem?_cons_succ, List.getElem?_replicate] at h
      split at h
      · cases h; exact .inl rfl
      · cases h
  have o : Ok z (fun _ => False) H H (some (V.ref a) :: some (.ref dk) :: List.replicate (N.length - 2) none) (SV.no :: SV.val (.deck 6) :: List.replicate (N.length - 2) SV.no) := by
    refine ⟨by simp, Evo.refl _ _, zal, fun _ q => q.elim, fun i d h => ?_, fun i d h => ?_, fun i j b d e h _ _ _ => ?_, hT⟩
    · rcases hrep i _ h with q | ⟨rfl, q⟩
      · cases q
      · cases q
        exact ⟨.ref dk, rfl, Is.deck (z := z) lv⟩
    · rcases hrep i _ h with q | ⟨rfl, q⟩ <;> cases q
    · rcases hrep i _ h with q | ⟨rfl, q⟩ <;> cases q
  refine h z (fun _ => False) H H _ _ _ { nx := fun _ => False, rt := fun d => d = .bl true } n o lv (by show 0 + n ≤ n; omega) hn ⟨fun _ _ _ _ _ _ _ q => q.elim, fun c d v H' _ _ _ r _ q => ?_, fun _ _ _ _ _ _ _ q => q.elim, fun _ _ _ _ _ _ _ q => q.elim⟩ hp
  subst q
  cases r
  exact k H'
end
def tPSc (n : Nat) (fr : Bool) (p : PSt) : TS := fun G σ H => ∃ z X H0 env k B, Ok z X H0 H σ env ∧ z.live H ∧ z.ct + n ≤ B ∧ B ≤ lim ∧ SimC (z.ct + n) B fr z X H0 (Ms z X σ env) H G k ∧ p env k
theorem Bc.pss {n : Nat} {fr : Bool} {C : Cx} {sts : List Stmt} {p : PSt} (h : Bc n fr C sts p) : PSs C sts (tPSc n fr p) := by
  obtain ⟨t, h1, h2⟩ := h
  exact ⟨fun pins s σ H G I ⟨z, X, H0, env, k, B, o, lv, w, wl, c, hp⟩ => h1.run pins s σ H G I (h2 z X H0 H σ env G k B o lv w wl c hp)⟩
theorem rsc_tPS {n : Nat} {fr : Bool} {p : PSt} : RSc n fr (tPSc n fr p) p := fun z X H0 H σ env G k B o lv w wl c hp => ⟨z, X, H0, env, k, B, o, lv, w, wl, c, hp⟩
end Pu
namespace Pu
open PySem PySem.Spec PyProof.Rows L2
variable [Tbs]
section
variable {C : Cx} {e a b : Expr} {es : List Expr} {p q pe : PX} {m mo : Mode} {pos pp : Pos} {n na nb : Nat} {x : Str} {tp : PTs'}
theorem ec_slice {lo hi : Option Expr} {pl ph : PO'} {p2 : Pos} (h : Ec n .c C e p) (hl : O C lo pl) (hh : O C hi ph) : Ec n .e C (.Subscript e (.Slice lo hi none p2) pos) (eSl p pl ph) := by
  obtain ⟨t, h1, h2⟩ := h
  obtain ⟨tl, l1, l2⟩ := hl
  obtain ⟨th, g1, g2⟩ := hh
  refine ⟨_, pe_slice (r := rSlQ C.K) sl_seq h1 l1 g1, fun z X H0 H σ env Q k o lv w c hp => h2 z X H0 H σ env _ _ o lv w (fun c1 d v H1 hc e1 r1 hx => ?_) hp⟩
  have o1 := o.goC e1
  refine l2 (z.at c1) X H0 H1 σ env _ _ o1 (fun i H2 e2 hx => ?_) hx
  refine g2 (z.at c1) X H0 H2 σ env _ _ (o1.go e2) (fun j H3 e3 hx => ?_) hx
  have r3 : Rel .c (z.at c1) X H H3 σ env v d := Rel.goC (z := z.at c1) (c := c1) o.zal ((e2.trans e3).toC e1.live) r1
  have ev := e1.trans (c' := c1) ((e2.trans e3).toC e1.live)
  cases d with
  | tup xs =>
    obtain ⟨a, vs, rfl, q1, q2, n⟩ := r3.conT
    refine .inl ⟨a, vs, rfl, SqT.of q1, fun w => ?_, fun w q hq => ?_⟩
    · refine c c1 _ _ H3 hc ev ?_ hx
      have e : cutD xs i j = xs := by
        have l := q2.length
        rw [l] at w
        exact cut_whole w
      rw [e]
      exact Is.tup q1 n q2
    · exact c c1 _ _ _ hc (ev.trans (c' := c1) (((Evo.refl (z.at c1) H3).new hq).toC ev.live)) (Rel.feC o (Rel.newT (ev.fresh hq) hq q2.cut)) hx
  | lst xs =>
    obtain ⟨a, vs, rfl, q1, q2, n⟩ := r3.conL
    exact .inr ⟨a, vs, rfl, SqL.of q1, fun q hq => c c1 _ _ _ hc (ev.trans (c' := c1) (((Evo.refl (z.at c1) H3).new hq).toC ev.live)) (Rel.feC o (Rel.newL (ev.fresh hq) hq q2.cut)) hx⟩
  | _ => exact (show False from hx).elim
end
end Pu
namespace Pu
open PySem PySem.Spec PyProof.Rows L2
variable [Tbs]
section
variable {C : Cx} {e a b : Expr} {es : List Expr} {p q : PX} {ga : PAs} {m mo : Mode} {l : Bool} {pos pp : Pos} {x : Str} {id ty : String} {r : List V → Hp → VK → Prop} {g : List D → (D → Prop) → Prop} {n na ni : Nat}
theorem REc.cB {t : TA} (hd : CallD l mo r g) (h : RAc n l t ga) : REc n mo (tCB r t) (eCall g ga) := fun z X H0 H σ env Q k o lv w c hp =>
  h z X H0 H σ env _ _ o lv w (fun c1 ds vs H1 hc e1 r1 hx => hd (z.at c1) X H0 H1 σ env vs ds Q k (o.goC e1) r1 (fun d w H2 e2 r2 kd => c c1 d w H2 hc (e1.trans (c' := c1) (e2.toC (z := z.at c1) e1.live)) (r2.earlyC (z' := z) fun p hn => e1.fresh hn) kd) hx) hp
theorem ec_callTy (hc : CallR C (.type ty) r) (hd : CallD l mo r g) (hg : Gl C x) (hm : C.mg x = none) (hv : bootBuiltins x = some (.type ty)) (ha : Ac n l C (e :: es) ga) (hn : x ≠ "__name__" := by decide) (hdb : (x == ("__debug__" : Str)) = false := by decide)
    (he : starEach (e :: es) C.env = (false, eval e C.env) :: starEach es C.env := by rfl) (hpl : (backTo pos (starEach es C.env)).any (·.1) = false := by rfl) : Ec n mo C (.Call (.Name x pp) (e :: es) [] pos) (eCall g ga) := by
  obtain ⟨t, h1, h2⟩ := ha
  exact ⟨_, pe_callTy hc hg hm hv h1 hn hdb he hpl, REc.cB hd h2⟩
end
/-! ### comprehensions whose element draws -/
section
variable {C : Cx} {tg e : Expr} {pos pp : Pos} {n : Nat}
theorem ic_range2 {a b : Expr} {p : PAs} {l : Bool} (ha : Ac n l C [a, b] p) (hg : Gl C "range") (hm : C.mg "range" = none) (hs : starEach [a, b] C.env = [(false, eval a C.env), (false, eval b C.env)] := by rfl) (hs2 : starEach [b] C.env = [(false, eval b C.env)] := by rfl) : Ic n C tg (.Call (.Name "range" pp) [a, b] [] pos) (iRange2 p) := by
  obtain ⟨t, h1, h2⟩ := ha
  refine ⟨_, pi_range2 hg hm h1 hs hs2, fun z X H0 H σ env R k o lv w c hp => h2 z X H0 H σ env _ _ o lv w (fun c1 ds vs H1 hc1 e1 r1 hx => ?_) hp⟩
  unfold rgK2 at hx
  split at hx
  · rename_i i j
    cases IsA.ints (ns := [_, _]) r1
    exact ⟨i, j, rfl, by omega, c c1 _ _ H1 hc1 e1 ylc_rng hx.2⟩
  · exact hx.elim
end
end Pu
namespace Pu
open PySem PySem.Spec PyProof.Rows L2
/-! ### a while without draws, in a def that draws -/
end Pu
namespace Pu
open PySem PySem.Spec PyProof.Rows L2
variable [Tbs]
/-! ### dicts by whole numbers that are walked: changed no more, their object known -/
def keysZ (ds : List (Int × Int)) : List D := ds.map fun p => .int p.1
def valZ (ds : List (Int × Int)) (n : Int) : Option Int := (ds.find? fun p => decide (p.1 = n)).map (·.2)
/-- as an owned dict -/
def zD (ds : List (Int × Int)) : List (Key × D) := ds.map fun p => (Sum.inl p.1, D.int p.2)
theorem valV_dz : ∀ (ds : List (Int × Int)) (n : Int), valV (dzV ds) (Sum.inl n : Key) = (valZ ds n).map V.int
  | [], n => rfl
  | p :: ds, n => by
    have ih := valV_dz ds n
    unfold valV dzV valZ at ih ⊢
    rw [List.map_cons, List.find?_cons, List.find?_cons]
    by_cases e : p.1 = n
    · have e1 : decide ((Sum.inl p.1 : Key) = Sum.inl n) = true := decide_eq_true (by rw [e])
      have e2 : decide (p.1 = n) = true := decide_eq_true e
      simp only [e1, e2]
      rfl
    · have e1 : decide ((Sum.inl p.1 : Key) = Sum.inl n) = false := decide_eq_false fun q => e (by cases q; rfl)
      have e2 : decide (p.1 = n) = false := decide_eq_false e
      simp only [e1, e2]
      exact ih
theorem isk_dz {z : Zn} {M : AP} {H : Hp} : ∀ {vs : List (Key × V)} {ds : List (Int × Int)}, IsK z M H vs (zD ds) → vs = dzV ds
  | _, [], .nil => rfl
  | _, p :: ds, .cons h t => by
    cases h
    rw [isk_dz (ds := ds) t]
    rfl
section
variable {z : Zn} {X : AP} {H0 H : Hp} {σ : Sl} {env : List SV}
theorem yl_dfz {M : AP} {a : Addr} {o : Obj} {ds : List (Int × Int)} (h : H a = some (.frz o (.dK (dzV ds)))) (n : ¬ M a) : Yields z X M H (Itk a o (dzV ds)) (keysZ ds) := fun M' H' f => by
  have h' := (f.old a _ h n).1
  refine ⟨⟨h', by simp [keysZ, dzV]⟩, fun i d hd => ?_⟩
  unfold keysZ at hd
  rw [List.getElem?_map] at hd
  cases hp : ds[i]? with
  | none => rw [hp] at hd; cases hd
  | some p =>
    rw [hp] at hd
    cases hd
    refine ⟨⟨h', by unfold dzV; rw [List.length_map]; exact (List.getElem?_eq_some_iff.mp hp).1⟩, fun x H2 y => ?_⟩
    obtain ⟨rfl, k, v, hk, rfl⟩ := y
    refine ⟨Evo.refl _ _, fun _ _ => ?_⟩
    unfold dzV at hk
    rw [List.getElem?_map, hp] at hk
    cases hk
    exact Is.int _
/-- what a slot owns, a dict, is changed no more -/
theorem Ok.fz (o : Ok z X H0 H σ env) {i : Nat} {a : Addr} {od : Obj} {ds : List (Int × Int)} (hd : env[i]? = some (.own (.dic (zD ds)))) (ha : σ[i]? = some (some (V.ref a))) :
    Ok z X H0 (upd H a (.frz od (.dK (dzV ds)))) σ (env.set i (.val (.dfz ds))) ∧ Fr z X (Ms z X σ env) H (Ms z X σ (env.set i (.val (.dfz ds)))) (upd H a (.frz od (.dK (dzV ds)))) := by
  have hl : i < env.length := (List.getElem?_eq_some_iff.mp hd).1
  obtain ⟨a', ha', hc, hz, hx, h0⟩ := o.own i _ hd
  obtain rfl : a' = a := by rw [ha] at ha'; cases ha'; rfl
  have ia : Ms z X σ env a' := .inr (.inr ⟨i, _, hd, ha⟩)
  have sub : ∀ b, Ms z X σ (env.set i (.val (.dfz ds))) b → Ms z X σ env b ∧ b ≠ a' := by
    rintro b (h | h | ⟨j, e, h1, h2⟩)
    · exact ⟨.inl h, fun q => hz (by rw [← q]; exact h)⟩
    · exact ⟨.inr (.inl h), fun q => hx (by rw [← q]; exact h)⟩
    · obtain ⟨hj, h1⟩ := set_own h1
      refine ⟨.inr (.inr ⟨j, e, h1, h2⟩), fun q => hj ?_⟩
      rw [q] at h2
      exact o.inj j i a' e _ h1 hd h2 ha
  have old : ∀ b u, H b = some u → ¬ Ms z X σ env b → upd H a' (.frz od (.dK (dzV ds))) b = some u ∧ ¬ Ms z X σ (env.set i (.val (.dfz ds))) b := fun b u q n =>
    ⟨by rw [upd_ne (fun w => n (by rw [w]; exact ia))]; exact q, fun y => n (sub b y).1⟩
  have al : ∀ b, H b ≠ none → upd H a' (.frz od (.dK (dzV ds))) b ≠ none := fun b q => by
    by_cases e : b = a'
    · rw [e, upd_same]; intro w; cases w
    · rw [upd_ne e]; exact q
  refine ⟨⟨by simp [o.len], o.evo.mut h0 hz, fun b h => al b (o.zal b h), fun b h => ⟨al b (o.xal b h).1, (o.xal b h).2⟩, fun j e h => ?_, fun j e h => ?_, fun j l b e f h1 h2 h3 h4 => ?_, o.tab.mut hz⟩, ⟨old, fun b hb => ok_mut hz hb, al⟩⟩
  · by_cases hj : i = j
    · subst hj
      rw [List.getElem?_set_self hl] at h
      cases h
      exact ⟨_, ha, .dfz upd_same fun q => (sub a' q).2 rfl⟩
    · rw [List.getElem?_set_ne hj] at h
      obtain ⟨v, h1, h2⟩ := o.val j e h
      exact ⟨v, h1, h2.gen old fun b hb => ok_mut hz hb⟩
  · obtain ⟨hj, h⟩ := set_own h
    obtain ⟨b, h1, h2, h3⟩ := o.own j e h
    have hb : b ≠ a' := fun q => hj (o.inj j i a' e _ h hd (by rw [← q]; exact h1) ha)
    exact ⟨b, h1, h2.gen (fun u q => by rw [upd_ne hb]; exact q) old fun b hb => ok_mut hz hb, h3⟩
  · exact o.inj j l b e f (set_own h1).2 (set_own h2).2 h3 h4
end
section
variable {C : Cx} {fr : Bool} {m m' : Mode} {tg e a b : Expr} {p q pe : PX} {pos pp : Pos} {n : Nat}
def iDz (p : PX) : PIt := fun env k => p env fun d => match d with
  | .dfz ds => k (keysZ ds)
  | _ => False
theorem i_dz (h : E .e C e pe) : I C tg e (iDz pe) := by
  obtain ⟨t, h1, h2⟩ := h
  refine ⟨_, pi_keys h1, fun z X H0 H σ env R k o c hp => h2 z X H0 H σ env _ _ o (fun d v H1 e1 r1 hx => ?_) hp⟩
  cases (show Is z _ H1 v d from r1) with
  | dfz e n => exact ⟨_, _, rfl, .inl ⟨_, e, c _ _ H1 e1 (yl_dfz e n) hx⟩⟩
  | _ => exact (show False from hx).elim
/-- x[k] -/
def dZget : D → D → (D → Prop) → Prop := fun x y k => match x, y with
  | .dfz ds, .int n => ∃ m, valZ ds n = some m ∧ k (.int m)
  | _, _ => False
theorem e_zget (hu : C.A.units + 1 < cLine) (ha : E .e C a p) (hb : E .c C b q) (hs : NoSl b := by exact fun _ _ => rfl) : E .e C (.Subscript a b pos) (eOp dZget p q) := by
  obtain ⟨ta, a1, a2⟩ := ha
  obtain ⟨tb, b1, b2⟩ := hb
  refine ⟨_, pe_dget hu a1 b1 hs, fun z X H0 H σ env Q k o c hp => a2 z X H0 H σ env _ _ o (fun x v H1 e1 r1 hp1 => b2 z X H0 H1 σ env _ _ (o.go e1) (fun y u H2 e2 r2 hp2 => ?_) hp1) hp⟩
  have r1' := Is.evo (fun _ q => .inl q) e2 (show Is z (Ms z X σ env) H1 v x from r1)
  cases r1' with
  | dfz e n =>
    cases y with
    | int n =>
      obtain ⟨w, hw, hk⟩ := hp2
      cases r2.intC
      exact ⟨_, .int w, rfl, .inl ⟨_, Sum.inl n, .inr ⟨_, e⟩, rfl, by rw [valV_dz, hw]; rfl⟩, c (.int w) _ H2 (e1.trans e2) (.int w) hk⟩
    | _ => exact (show False from hp2).elim
  | _ => exact (show False from hp2).elim
end
/-! a sum of two lists, a new one of one's own -/
/-! readings -/
theorem iDz_i {p : PX} {env : List SV} {k : List D → Prop} (h : p env fun d => match d with
  | .dfz ds => k (keysZ ds)
  | _ => False) : iDz p env k := h
theorem dZget_i {ds : List (Int × Int)} {n m : Int} {k : D → Prop} (e : valZ ds n = some m) (h : k (.int m)) : dZget (.dfz ds) (.int n) k := ⟨m, e, h⟩
end Pu
set_option maxHeartbeats 1000000
/-! all(.. for .. in .. if .. for .. in .. if ..), any(..): two clauses -/
namespace GnX
open PySem PySem.Spec PyProof.Rows L2 GenW GxR
end GnX
namespace Pu
open PySem PySem.Spec PyProof.Rows L2
open GnX GxR
/-! ### readings -/
/-! a comprehension over an owned list into a plain name -/
end Pu
namespace Pu
open PySem PySem.Spec PyProof.Rows L2
section
variable [Tbs]
/-! ### repr of a thing of any kind: None, truths, numbers, texts, tuples, lists, {} -/
mutual
def pe : D → PyData
  | .non => .none
  | .bl b => .bool b
  | .int i => .int i
  | .str s => .str s
  | .tup xs => .tuple (peA xs)
  | .lst xs => .list (peA xs)
  | .dic [(.inr s, .int i)] => .dict [(.str s, .int i)]
  | .dic _ => .dict []
  | .ty _ => .none
  | .deck _ => .none
  | .dpr _ => .none
  | .dfz _ => .none
  | .st _ => .none
  | .bor _ => .none
  | .opq _ => .none
  | .dpd _ => .none
def peA : List D → List PyData
  | [] => []
  | x :: xs => pe x :: peA xs
end
mutual
inductive De (H : Hp) : V → PyData → Prop
  | non : De H .non .none
  | bl (b : Bool) : De H (.bl b) (.bool b)
  | int (i : Int) : De H (.int i) (.int i)
  | str (x : Str) : De H (.str x) (.str x)
  | lst {a : Addr} {xs : List V} {ds : List PyData} : H a = some (.lst xs) → DeA H xs ds → De H (.ref a) (.list ds)
  | tup {a : Addr} {xs : List V} {ds : List PyData} : H a = some (.tup xs) → DeA H xs ds → De H (.ref a) (.tuple ds)
  | emp {a : Addr} : H a = some (.dK []) → De H (.ref a) (.dict [])
  | one {a : Addr} {x : Str} {i : Int} : H a = some (.dK [(.inr x, .int i)]) → De H (.ref a) (.dict [(.str x, .int i)])
inductive DeA (H : Hp) : List V → List PyData → Prop
  | nil : DeA H [] []
  | cons {v : V} {vs : List V} {d : PyData} {ds : List PyData} : De H v d → DeA H vs ds → DeA H (v :: vs) (d :: ds)
end
end
/-! ### a law that shows things: run from its one caller, with tables -/
/-! ### t[::-1] of any tuple -/
end Pu
/-! == with a text, whatever the other one is -/
namespace PySem.SeqAt
open MeetsSeq
end PySem.SeqAt
namespace Pu
open PySem PySem.Spec PyProof.Rows L2
end Pu
/-! str(number); {'text': number} -/
namespace Pu
open PySem PySem.Spec PyProof.Rows L2
end Pu
/-! texts: f-strings, methods of a text, signs of a text, int(text) -/
namespace Pu
open PySem PySem.Spec PyProof.Rows L2
/-! f'..{x}..' -/
/-! methods of a text with one argument -/
/-! int(text) -/
/-! signs of a text -/
/-! one sign in a text -/
/-! xs += ys, xs a list of the def's own -/
end Pu
/-! tables: bits of numbers, dicts by tuples of any length, copies of dicts -/
namespace Pu
open PySem PySem.Spec PyProof.Rows L2
def dShl : D → D → (D → Prop) → Prop := dII CPow fun i j => .int (i * 2 ^ j.toNat)
def dShr : D → D → (D → Prop) → Prop := dII (fun _ j => 0 ≤ j) fun i j => .int (i / 2 ^ j.toNat)
def dAnd2 : D → D → (D → Prop) → Prop := dII (fun i j => 0 ≤ i ∧ 0 ≤ j) fun i j => .int ((i.toNat &&& j.toNat : Nat) : Int)
def dXor2 : D → D → (D → Prop) → Prop := dII (fun i j => 0 ≤ i ∧ 0 ≤ j) fun i j => .int ((i.toNat ^^^ j.toNat : Nat) : Int)
section
variable [Tbs]
theorem opd_shl : OpD .b .e (rI CPow fun i j => .int (i * 2 ^ j.toNat)) dShl := opd_II fun i j _ _ _ => .int _
theorem opd_shr : OpD .b .e (rI (fun _ j => 0 ≤ j) fun i j => .int (i / 2 ^ j.toNat)) dShr := opd_II fun i j _ _ _ => .int _
theorem opd_andB : OpD .b .e (rI0 fun i j => .int (Builtin.bitAnd i j)) dAnd2 := fun z X H0 H σ env v u x y Q k o r1 r2 c hp => by
  cases x with
  | int i =>
    cases y with
    | int j =>
      obtain ⟨⟨h0, h1⟩, hk⟩ := (show (0 ≤ i ∧ 0 ≤ j) ∧ k (.int ((i.toNat &&& j.toNat : Nat) : Int)) from hp)
      refine ⟨i, j, Is.intI r1, Is.intI r2, ?_⟩
      show Q (.int (Builtin.bitAnd i j)) H
      rw [bitAnd_pp h0 h1]
      exact c _ _ H (Evo.refl _ _) (Is.int _) hk
    | _ => exact (show False from hp).elim
  | _ => exact (show False from hp).elim
theorem opd_xorB : OpD .b .e (rI0 fun i j => .int (Builtin.bitXor i j)) dXor2 := fun z X H0 H σ env v u x y Q k o r1 r2 c hp => by
  cases x with
  | int i =>
    cases y with
    | int j =>
      obtain ⟨⟨h0, h1⟩, hk⟩ := (show (0 ≤ i ∧ 0 ≤ j) ∧ k (.int ((i.toNat ^^^ j.toNat : Nat) : Int)) from hp)
      refine ⟨i, j, Is.intI r1, Is.intI r2, ?_⟩
      show Q (.int (Builtin.bitXor i j)) H
      rw [Bits.bitXor_pp h0 h1]
      exact c _ _ H (Evo.refl _ _) (Is.int _) hk
    | _ => exact (show False from hp).elim
  | _ => exact (show False from hp).elim
theorem dShl_i {i j : Int} {k : D → Prop} (h : 0 ≤ j ∧ j ≤ 1000000 ∧ i.natAbs < 2 ^ 64) (hk : k (.int (i * 2 ^ j.toNat))) : dShl (.int i) (.int j) k := ⟨h, hk⟩
theorem dShr_i {i j : Int} {k : D → Prop} (h : 0 ≤ j) (hk : k (.int (i / 2 ^ j.toNat))) : dShr (.int i) (.int j) k := ⟨h, hk⟩
theorem dAnd_i {i j : Nat} {k : D → Prop} (hk : k (.int ((i &&& j : Nat) : Int))) : dAnd2 (.int (i : Int)) (.int (j : Int)) k := ⟨⟨Int.natCast_nonneg i, Int.natCast_nonneg j⟩, hk⟩
theorem dXor_i {i j : Nat} {k : D → Prop} (hk : k (.int ((i ^^^ j : Nat) : Int))) : dXor2 (.int (i : Int)) (.int (j : Int)) k := ⟨⟨Int.natCast_nonneg i, Int.natCast_nonneg j⟩, hk⟩
end
section
variable [Tbs] {C : Cx} {fr : Bool} {e a b : Expr} {p q : PX} {m : Mode} {pos pp : Pos}
/-! x[t], x[t] = v: t a tuple of whole numbers, of any length -/
def prKn (d : D) (k : List Int → Prop) : Prop := ∃ ns : List Int, d = .tup (ns.map D.int) ∧ k ns
theorem many_is {z : Zn} {M : AP} {H : Hp} : ∀ {ns : List Int} {vs : List V}, IsA z M H vs (ns.map D.int) → vs = (ns.map (Sum.inl : Int → Key)).map kV
  | [], _, h => by cases h; rfl
  | n :: ns, _, h => by
    cases h with
    | cons h t =>
      cases h
      rw [many_is t]
      rfl
theorem tup_is {z : Zn} {M : AP} {H : Hp} {v : V} {ns : List Int} (h : Is z M H v (.tup (ns.map D.int))) : ∃ b, v = .ref b ∧ H b = some (.tup ((ns.map (Sum.inl : Int → Key)).map kV)) := by
  cases h with
  | tup e n r => exact ⟨_, rfl, by rw [← many_is r]; exact e⟩
def sTputN (i : Nat) (pi pe : PX) : PSt := fun env k => pe env fun y => inK y fun v => match env[i]? with
  | some (.own (.dpr ds)) => pi env fun d => prKn d fun ns => ds.length ≤ 100000 ∧ k.nx (env.set i (.own (.dpr (putT ds ns v))))
  | _ => False
theorem s_tputN (i : Nat) {x : Str} {ix : Expr} {spos : Pos} (hu : C.A.units + 1 < cLine) (he : E m C e p) (hi : E .e C ix q) (hN : C.N[i]? = some x := by rfl) (hv : Vis C.env.scope x := by first | exact Or.inl rfl | exact Or.inr (Or.inl rfl) | exact Or.inr (Or.inr rfl)) (hd : (x == ("__debug__" : Str)) = false := by decide)
    (hcd : (x == ("__classdict__" : Str)) = false := by decide) (hs : swapsWith e (some (.Subscript (.Name x pp) ix spos)) pos.line C.env = pure false := by rfl) : S fr C (.Assign [.Subscript (.Name x pp) ix spos] e pos) (sTputN i q p) := by
  obtain ⟨t, h1, h2⟩ := he.toB
  obtain ⟨u, g1, g2⟩ := hi
  refine ⟨_, ps_dput hu (pe_var hN hv hd hcd) g1 h1 hs, fun z X H0 H σ env G k o s hp => ?_⟩
  refine h2 z X H0 H σ env _ _ o (fun y v H1 e1 r1 hx => ?_) hp
  cases y with
  | int w =>
    cases Is.intI r1
    have o1 := o.go e1
    replace hx : (match env[i]? with
      | some (.own (.dpr ds)) => q env fun d => prKn d fun ns => ds.length ≤ 100000 ∧ k.nx (env.set i (.own (.dpr (putT ds ns w))))
      | _ => False) := hx
    split at hx
    · rename_i ds hk
      obtain ⟨ad, q1, q5, q3, q4⟩ := o1.own i _ hk
      refine ⟨_, q1, g2 z X H0 H1 σ env _ _ o1 (fun d v2 H2 e2 r2 hy => ?_) hx⟩
      obtain ⟨ns, rfl, hl, hy⟩ := hy
      obtain ⟨b2, rfl, hb2⟩ := tup_is (show Is z (Ms z X σ env) H2 v2 (.tup (ns.map D.int)) from r2)
      have o2 := o1.go e2
      have q5' : H2 ad = some (.dT (dtV ds)) := e2.old ad _ q5 q3
      refine ⟨ad, _, rfl, DPut.t (k := ns.map Sum.inl) q5' hb2 (by unfold dtV; rw [List.length_map, sizeLine_eq]; omega), ?_⟩
      rw [put_dtV]
      obtain ⟨o3, f3⟩ := o2.mut (d' := .dpr (putT ds ns w)) (o := .dT (dtV (putT ds ns w))) hk q1 upd_same
      exact s.nx _ _ _ o3 ((o.fr (e1.trans e2)).trans f3) hy
    · exact hx.elim
  | _ => exact (show False from hx).elim
def dTgetN : D → D → (D → Prop) → Prop := fun x y k => match x with
  | .dpr ds => prKn y fun ns => ∃ v, valT ds ns = some v ∧ k (.int v)
  | _ => False
theorem e_tgetN (hu : C.A.units + 1 < cLine) (ha : E .c C a p) (hb : E .e C b q) (hs : NoSl b := by exact fun _ _ => rfl) : E .e C (.Subscript a b pos) (eOp dTgetN p q) := by
  obtain ⟨ta, a1, a2⟩ := ha
  obtain ⟨tb, b1, b2⟩ := hb
  refine ⟨_, pe_dget hu a1 b1 hs, fun z X H0 H σ env Q k o c hp => a2 z X H0 H σ env _ _ o (fun x v H1 e1 r1 hp1 => b2 z X H0 H1 σ env _ _ (o.go e1) (fun y u H2 e2 r2 hp2 => ?_) hp1) hp⟩
  have r1' := r1.evo o e2 e1
  cases x with
  | dpr ds =>
    obtain ⟨ns, rfl, w, hw, hk⟩ := hp2
    obtain ⟨ad, rfl, h1⟩ := Rel.conP r1'
    obtain ⟨b2, rfl, hb2⟩ := tup_is (show Is z (Ms z X σ env) H2 u (.tup (ns.map D.int)) from r2)
    have g := DGet.t (k := ns.map Sum.inl) h1 hb2
    rw [val_dtV, hw] at g
    exact ⟨ad, .int w, rfl, g, c (.int w) (.int w) H2 (e1.trans e2) (.int w) hk⟩
  | _ => exact (show False from hp2).elim
theorem sTputN_i {i : Nat} {pi pe : PX} {env : List SV} {ds : List (List Int × Int)} {K : PK'} (e : env[i]? = some (.own (.dpr ds))) (h : pe env fun y => inK y fun v => pi env fun d => prKn d fun ns => ds.length ≤ 100000 ∧ K.nx (env.set i (.own (.dpr (putT ds ns v))))) : sTputN i pi pe env K := by
  unfold sTputN
  rw [e]
  exact h
theorem prKn_i {ns : List Int} {k : List Int → Prop} (h : k ns) : prKn (.tup (ns.map D.int)) k := ⟨ns, rfl, h⟩
theorem dTgetN_i {ds : List (List Int × Int)} {ns : List Int} {v : Int} {k : D → Prop} (e : valT ds ns = some v) (h : k (.int v)) : dTgetN (.dpr ds) (.tup (ns.map D.int)) k := ⟨ns, rfl, v, e, h⟩
theorem sSeq_tputN {i : Nat} {pi pe : PX} {Q : PSt} {env : List SV} {K : PK'} (h : sTputN i pi pe env { K with nx := fun env' => Q env' K }) : sSeq (sTputN i pi pe) Q env K := h
/-! dict(d), d a dict by whole numbers that is changed no more: a new one -/
/-! {t: v for ..}, t a tuple of whole numbers: the reading alone (its rule is not written yet) -/
end
end Pu
/-! dict comprehensions: keys whole numbers, or tuples of them -/
namespace DcG
open PySem PySem.Spec PyProof.Rows L2
theorem d_dictSetG {X : Cx} {pins : List (Addr × Obj)} {σ : L2.St} {H H' : Hp} {s : Shared} {E : Value → Shared → Prop} {D : Addr} {y v : V} {u r : Value} {Q : Unit → Shared → Prop} (hu : X.A.units < cLine) (I : Inv X pins σ H s) (g : DPut H D y v H')
    (ry : RelV y u) (rv : RelV v r) (h : ∀ s', Inv X pins σ H' s' → Q () s') : wpAny (model X.prog X.w) X.A (dictSet D u r) Q E s := by
  rcases g with ⟨kvs, k, e, ey, l, eH⟩ | ⟨kvs, k, b, e, ey, eb, l, eH⟩
  · rw [ey] at ry
    rw [eH] at h
    exact d_dictSet I e l ry rv h
  · rw [ey] at ry
    rw [eH] at h
    cases (show u = Value.ref b from ry)
    obtain ⟨zz, hds, its, rel, dd⟩ := dt_of I.hok e
    have hzz : its.length ≤ sizeLine := by
      rw [← Paired.length rel]
      exact zz
    have hll : (putK kvs k v).length ≤ sizeLine := by
      have := length_putK kvs k v
      omega
    refine wpAny_dictSet_heap (hsz := hzz) (show (tupleKind (mixKind X.prog X.w)).room X.A from hu) (key_of I.hok eb) dd fun hNew ddN hsm => h _ ?_
    obtain ⟨q, es, ep, hq, a2, a3, a4, _, a5⟩ := ddN
    refine d_write I (by rw [e]; exact True.intro) hsm ⟨q, hq⟩ ⟨hll, hds, _, (rel.put k eb rv).keeps fun c ys ec => ?_, q, es, ep, hq, a2, a3, a4, a5⟩
    rw [upd_ne (ne_of ec e (fun z => nomatch z))]
    exact ec
section
variable {X : Cx}
/-- {k: v for target in iter if ..}: D the new dict, an o0 at first -/
def tDcG (o0 : HO) (wi : TI) (g : TG) (tt : TT) (tk tv : TE) (vs : List Nat) : TE := fun σ H Q => wi σ H fun J H1 => ∀ D, H1 D = none → ∃ W : Nat → Nat → Hp → Prop, (∃ m, W 0 m (upd H1 D o0)) ∧ ∀ i m H, W i m H →
  (J.stop i H ∧ Q (.ref D) H) ∨ (J.go i H ∧ ∃ Nx : Hp → Prop, (∀ H', Nx H' → ∃ m', m' < m ∧ W (i + 1) m' H') ∧ ∀ x H', J.yld i H x H' → g x (wipe σ vs) H' fun σ2 H2 => wipe σ2 vs = wipe σ vs ∧ tt σ2 H2 fun b H3 =>
    if b = true then tk σ2 H3 fun y H4 => tv σ2 H4 fun z H5 => ∃ H6, DPut H5 D y z H6 ∧ Nx H6 else Nx H3)
theorem gdcCore (o0 : HO) (hu : X.A.units + 1 < cLine) (hmt : ∀ (hp : Heap) (Hx : Hp), sysModules < hp.objs.size → ObjOk X.prog X.w Hx (hp.push { cls := .type "dict", data := .dict #[] }) hp.objs.size o0) {pins : List (Addr × Obj)} {s : Shared} {σ : L2.St} {H : Hp} {Q : VK} {kx vx tg iter : Expr} {ifs : List Expr} {scope : Scope} {own : List (Str × Nat)} {pos pos' : Pos} {wi : TI} {g : TG} {tt : TT} {tk tv : TE} {use : Option (Value → Sem Unit)} {Qf : Value → Shared → Prop}
    (hc : X.calm = true) (hN : X.N.Nodup) (I : Inv X pins σ H s) (hii : PI X tg iter wi) (ok : BlkOk X.N X.env.scope scope own)
    (hgt : ∀ (s : Shared) (H : Hp) (Ca : Addr) (cl : List (Str × Addr)) (fp : List Addr), PG (X.blk s H scope (compEnvC scope cl Ca X.env) fp) tg g) (htt : ∀ (s : Shared) (H : Hp) (Ca : Addr) (cl : List (Str × Addr)) (fp : List Addr), PTs (X.blk s H scope (compEnvC scope cl Ca X.env) fp) ifs tt)
    (hkk : ∀ (s : Shared) (H : Hp) (Ca : Addr) (cl : List (Str × Addr)) (fp : List Addr), PE (X.blk s H scope (compEnvC scope cl Ca X.env) fp) kx tk)
    (hee : ∀ (s : Shared) (H : Hp) (Ca : Addr) (cl : List (Str × Addr)) (fp : List Addr), PE (X.blk s H scope (compEnvC scope cl Ca X.env) fp) vx tv) (hs : ∀ xx, foldedSetIterable iter X.env xx = pure xx)
    (h : tDcG o0 wi g tt tk tv (own.map (·.2)) σ H Q)
    (hRR : ∀ Dn Ca s' m H', Inv X pins σ H' s' → Q (.ref Dn) H' → s'.heap.Ns Ca m → FpOk X pins H' Ca → compPost (model X.prog X.w) X.A X.xe use Qf (.ref Dn) Ca (.ok .next) s') :
    wpAny (model X.prog X.w) X.A (comprehension (.DictComp kx vx [⟨tg, iter, ifs, 0⟩] scope pos) scope X.env pos' newDict false (eval iter X.env) use) Qf X.xe s := by
  have hfr : ∀ y ∈ scope.names, y.2 = .free → ∃ c, X.env.cells.lookup y.1 = some c := fun y hy eq => by
    rcases ok.free y hy eq with k | k
    · exact I.ok.has _ (.inl k)
    · exact I.ok.has _ (.inr k)
  refine wpAny_comprehension_free (use := use) rfl hs (closure_ok hfr) ok.kind (fun y hy eq => by rw [ok.uniq y hy, eq])
    (thn (hii.run pins s σ H _ I h) fun xv sA hx => thn hx fun itv sB h2 => ?_)
  obtain ⟨it, fp, tn, J, HB, eq, invB, Tk, stB, fpB, qz⟩ := h2
  subst eq
  refine wpAny_newObj_type (newEnv_comp ?_)
  generalize newAt : sB.heap.objs.size = Dn
  have wasFree : HB Dn = none := invB.hok.fresh (Nat.le_of_eq newAt)
  obtain ⟨W, ⟨mZero, wZero⟩, each⟩ := qz Dn wasFree
  -- the new list
  generalize st3e : ({ sB with heap := sB.heap.push { cls := .type "dict", data := .dict #[] } } : Shared) = sC
  have invC : Inv X pins σ (upd HB Dn o0) sC := by
    rw [← st3e]
    refine invB.laid (t' := sB.toks) (fun bb o eq => Heap.get?_push_of_some _ eq) (Nat.le_of_eq newAt) ?_
    rw [← newAt]
    exact hmt sB.heap _ invB.big
  have heapC : sC.heap = sB.heap.push { cls := .type "dict", data := .dict #[] } := by rw [← st3e]
  have szs : ∀ bb ∈ fp, bb < sB.heap.objs.size := fun bb hb => by
    obtain ⟨o, eq, _⟩ := Tk.obj _ _ stB bb hb
    exact Heap.lt_size eq
  have fpC : ∀ bb ∈ fp, FpOk X pins (upd HB Dn o0) bb ∧ bb < sC.heap.objs.size := fun bb hb => by
    have hlt := szs bb hb
    refine ⟨⟨?_, (fpB bb hb).2⟩, by rw [heapC, Heap.size_push]; exact Nat.lt_succ_of_lt hlt⟩
    rw [upd_ne (by rw [← newAt]; exact Nat.ne_of_lt hlt)]
    exact (fpB bb hb).1
  have stC : tn 0 sC.heap := Tk.keep _ _ _ stB fun bb _ o eq => by rw [heapC]; exact Heap.get?_push_of_some _ eq
  have invD := block_start invC ok hN fpC
  have rg1 := hgt sC (upd HB Dn o0) sC.heap.objs.size (cellsFrom (sC.heap.objs.size + 1) scope.names (cloFrom X.env.cells scope.names [])) fp
  have rt1 := htt sC (upd HB Dn o0) sC.heap.objs.size (cellsFrom (sC.heap.objs.size + 1) scope.names (cloFrom X.env.cells scope.names [])) fp
  have rk1 := hkk sC (upd HB Dn o0) sC.heap.objs.size (cellsFrom (sC.heap.objs.size + 1) scope.names (cloFrom X.env.cells scope.names [])) fp
  have re1 := hee sC (upd HB Dn o0) sC.heap.objs.size (cellsFrom (sC.heap.objs.size + 1) scope.names (cloFrom X.env.cells scope.names [])) fp
  show codeAny _ _ (.compStart (.DictComp kx vx [⟨tg, iter, ifs, 0⟩] scope pos) 0 (.ref it) (.ref Dn) (compEnvC scope (cellsFrom (sC.heap.objs.size + 1) scope.names (cloFrom X.env.cells scope.names [])) sC.heap.objs.size X.env)) (compPost (model X.prog X.w) X.A X.xe use Qf (.ref Dn) sC.heap.objs.size) { sC with heap := pushCells (sC.heap.push { cls := .type "dict", data := .dict #[] }) scope.names }
  have nof : ∀ bb ∈ fp, (upd HB Dn o0) bb = none := fun bb hb => (fpC bb hb).1.1
  generalize ceE : compEnvC scope (cellsFrom (sC.heap.objs.size + 1) scope.names (cloFrom X.env.cells scope.names [])) sC.heap.objs.size X.env = cenv at invD rg1 rt1 rk1 re1 ⊢
  have cenvL : cenv.locals = sC.heap.objs.size := by subst ceE; rfl
  generalize HCe : upd HB Dn o0 = HC at invC invD rg1 rt1 rk1 re1 wZero nof fpC
  generalize sDe : ({ sC with heap := pushCells (sC.heap.push { cls := .type "dict", data := .dict #[] }) scope.names } : Shared) = sD at invD ⊢
  have stD : tn 0 sD.heap := Tk.keep _ _ _ stC fun bb _ o eq => by rw [← sDe]; exact pushCells_keeps _ _ _ _ (Heap.get?_push_of_some _ eq)
  have stayF : ∀ {σ' : L2.St} {H' : Hp} {s' : Shared}, Inv (X.blk sC HC scope cenv fp) [] σ' H' s' → (∀ bb ∈ fp, H' bb = none) → ∀ bb ∈ fp, FpOk (X.blk sC HC scope cenv fp) [] H' bb := fun {σ' H' s'} I' hn bb hb =>
    ⟨hn bb hb, (I'.ok.exf bb hb).1, I'.ok.exfs bb hb, .inl hb, fun xx c eq => (I'.ok.exf bb hb).2 xx c eq, fun p hp => absurd (show p ∈ ([] : List (Addr × Obj)) ++ [] from hp) (by simp)⟩
  have loopG : codeAny (model X.prog X.w) X.A (.compLoop (.DictComp kx vx [⟨tg, iter, ifs, 0⟩] scope pos) 0 (.ref it) (.ref Dn) cenv) (compPost (model X.prog X.w) X.A X.xe use Qf (.ref Dn) sC.heap.objs.size) sD := by
    refine compLoop_anyD (fun n s' => ∃ i H', Inv (X.blk sC HC scope cenv fp) [] (wipe σ (own.map (·.2))) H' s' ∧ tn i s'.heap ∧ (∀ bb ∈ fp, H' bb = none) ∧ W i n H') ?_ mZero ⟨0, HC, invD, stD, nof, wZero⟩
    rintro n sE ⟨i, HE, invE, stE, nE, wE⟩
    rcases each i n HE wE with ⟨stopF, qEnd⟩ | ⟨goF, Nx, hNxt, stepF⟩
    · have doneF := Tk.done (X.blk sC HC scope cenv fp) rfl rfl rfl hc i [] sE _ HE (fun _ _ => False) invE (stayF invE nE) stE stopF
      refine thnF doneF fun r sF ⟨hr, invF⟩ => ?_
      subst hr
      -- back in the def's context
      have invG : Inv X pins σ HE sF := invC.call' (ch := fp) invF.os invF.base invF.hok invF.bare fun bb hb => ⟨(fpC bb hb).1.2.2.2.1, (fpC bb hb).1.2.1, (fpC bb hb).1.2.2.2.2.1, (fpC bb hb).1.2.2.2.2.2⟩
      have nCn : HE sC.heap.objs.size = none := by
        have z : HE cenv.locals = none := invF.free
        rw [cenvL] at z
        exact z
      obtain ⟨m, hn, _⟩ := invF.loc
      have hn : sF.heap.Ns cenv.locals m := hn
      rw [cenvL] at hn
      exact hRR Dn sC.heap.objs.size sF m HE invG qEnd hn (invC.fpOk (Nat.le_refl _) nCn)
    · have itemF := Tk.item (X.blk sC HC scope cenv fp) rfl rfl rfl hc i [] sE _ HE (fun _ _ => False) invE (stayF invE nE) stE goF
      refine thnF itemF fun r sF ⟨u, hr, hItem⟩ => ?_
      subst hr
      refine thnF hItem fun _ sG ⟨xx, HG, invG, rG, yG, stG, nG⟩ => ?_
      have invG' := invG.pinned (stayF invG nG) (Tk.obj _ _ stG)
      refine thnF (rg1.run _ sG _ HG xx u _ invG' rG (stepF xx HG yG)) fun _ sH ⟨σH, HH, invH, hwH, qH⟩ => ?_
      refine thnF (rt1.run _ sH σH HH _ invH qH) fun bb sI ⟨HI, invI, qI⟩ => ?_
      -- the turn's end
      have finish : ∀ {s' : Shared} {H' : Hp}, Inv (X.blk sC HC scope cenv fp) ([] ++ pinsAt fp sG.heap) σH H' s' → Nx H' → ∃ m, m < n ∧ ∃ i H', Inv (X.blk sC HC scope cenv fp) [] (wipe σ (own.map (·.2))) H' s' ∧ tn i s'.heap ∧ (∀ bb ∈ fp, H' bb = none) ∧ W i m H' := fun {s' H'} I' nx => by
        obtain ⟨m', hm, w'⟩ := hNxt H' nx
        have pin' : ∀ bb ∈ fp, ∀ o, sG.heap.get? bb = some o → s'.heap.get? bb = some o ∧ H' bb = none := fun bb hb o eq =>
          let z := I'.pin (bb, o) (List.mem_append_right _ (List.mem_append_right _ (mem_pinsAt hb eq)))
          ⟨z.1, z.2.1⟩
        have hl : (wipe σ (own.map (·.2))).length = σH.length := by rw [← hwH, wipe_length]
        refine ⟨m', hm, i + 1, H', (I'.unpinned (pins := [])).weak hl (fun j v eq => ?_), Tk.keep _ _ _ stG fun bb hb o eq => (pin' bb hb o eq).1, fun bb hb => ?_, w'⟩
        · rw [← hwH] at eq
          exact (wipe_some eq).1
        · obtain ⟨o, eq, _⟩ := Tk.obj _ _ stG bb hb
          exact (pin' bb hb o eq).2
      cases bb with
      | false =>
        simp only [Bool.false_eq_true, if_false] at qI ⊢
        exact finish invI qI
      | true =>
        rw [if_pos rfl] at qI
        rw [if_pos rfl]
        refine thnF (rk1.run _ sI σH HI _ invI qI) fun ky sJ ⟨yk, HJ, invJ, rJ, qJ⟩ => ?_
        refine thnF (re1.run _ sJ σH HJ _ invJ qJ) fun vl sK ⟨yv, HK, invK, rK, HL, put, nx⟩ => ?_
        exact d_dictSetG (X := X.blk sC HC scope cenv fp) (show X.A.units < cLine by omega) invK put rJ rK fun sL invL => finish invL nx
  exact codeAny_compStart_dict loopG (Tk.self X.A 0 _ _ _ stD loopG)
/-- as a value -/
theorem pe_dcG {o0 : HO} (hu : X.A.units + 1 < cLine) (hmt : ∀ (hp : Heap) (Hx : Hp), sysModules < hp.objs.size → ObjOk X.prog X.w Hx (hp.push { cls := .type "dict", data := .dict #[] }) hp.objs.size o0)
    {kx vx tg iter : Expr} {ifs : List Expr} {scope : Scope} {own : List (Str × Nat)} {pos : Pos} {wi : TI} {g : TG} {tt : TT} {tk tv : TE} (hc : X.calm = true) (hN : X.N.Nodup) (hi : PI X tg iter wi) (ok : BlkOk X.N X.env.scope scope own)
    (hgw : ∀ (s : Shared) (H : Hp) (C : Addr) (cl : List (Str × Addr)) (fp : List Addr), PG (X.blk s H scope (compEnvC scope cl C X.env) fp) tg g) (htw : ∀ (s : Shared) (H : Hp) (C : Addr) (cl : List (Str × Addr)) (fp : List Addr), PTs (X.blk s H scope (compEnvC scope cl C X.env) fp) ifs tt)
    (hkw : ∀ (s : Shared) (H : Hp) (C : Addr) (cl : List (Str × Addr)) (fp : List Addr), PE (X.blk s H scope (compEnvC scope cl C X.env) fp) kx tk)
    (hvw : ∀ (s : Shared) (H : Hp) (C : Addr) (cl : List (Str × Addr)) (fp : List Addr), PE (X.blk s H scope (compEnvC scope cl C X.env) fp) vx tv)
    (hs : ∀ x, foldedSetIterable iter X.env x = pure x := by intro _; rfl) :
    PE X (.DictComp kx vx [⟨tg, iter, ifs, 0⟩] scope pos) (tDcG o0 wi g tt tk tv (own.map (·.2))) := by
  refine ⟨fun pns sa σ Ha Qa Ia ha => ?_⟩
  rw [arm_eval_DictComp]
  refine gdcCore o0 hu hmt hc hN Ia hi ok hgw htw hkw hvw hs ha fun Lx Ca sb mm Hb Ib qb hnb fb => ⟨mm, hnb, fun hz hsb => ?_⟩
  obtain ⟨f0, f1, f2, f3, f4, f5⟩ := fb
  exact ⟨.ref Lx, Hb, Ib.turned (t' := sb.toks) (fun b o hb e => (hsb.2 b hb).trans e) f0 f1 f3 f4 f5, rfl, qb⟩
theorem swD_true {kx vx : Expr} {gs : List Comprehension} {scope : Scope} {pos py : Pos} {y : Str} {l : Nat} {env : Env} (hk : env.scope.kind = .function) (hy : env.scope.names.lookup y = some .local) (hl : (py.line == pos.line) = true)
    (ha : (scope.names.any fun (n, k) => n == y && (k == .local || k == .cell)) = false) : swapsWith (.DictComp kx vx gs scope pos) (some (.Name y py)) l env = pure true := by
  have kyy : env.kindOf y = some .local := hy
  have hbk : env.blockKind = .function := by
    unfold Env.blockKind
    rw [hk]
    rfl
  unfold swapsWith
  simp only [hbk, kyy, ha, Expr.pos, hl]
  rfl
theorem ps_setDcG {o0 : HO} (hu : X.A.units + 1 < cLine) (hmt : ∀ (hp : Heap) (Hx : Hp), sysModules < hp.objs.size → ObjOk X.prog X.w Hx (hp.push { cls := .type "dict", data := .dict #[] }) hp.objs.size o0)
    {i : Nat} {y : Str} {py : Pos} {kx vx tg iter : Expr} {ifs : List Expr} {scope : Scope} {own : List (Str × Nat)} {pos spos : Pos} {wi : TI} {g : TG} {tt : TT} {tk tv : TE} (hc : X.calm = true) (hN : X.N.Nodup) (hy : X.N[i]? = some y) (hyl : X.env.scope.names.lookup y = some .local)
    (hsw : swapsWith (.DictComp kx vx [⟨tg, iter, ifs, 0⟩] scope pos) (some (.Name y py)) spos.line X.env = pure true) (hi : PI X tg iter wi) (ok : BlkOk X.N X.env.scope scope own)
    (hg : ∀ (s : Shared) (H : Hp) (C : Addr) (cl : List (Str × Addr)) (fp : List Addr), PG (X.blk s H scope (compEnvC scope cl C X.env) fp) tg g) (ht : ∀ (s : Shared) (H : Hp) (C : Addr) (cl : List (Str × Addr)) (fp : List Addr), PTs (X.blk s H scope (compEnvC scope cl C X.env) fp) ifs tt)
    (hk : ∀ (s : Shared) (H : Hp) (C : Addr) (cl : List (Str × Addr)) (fp : List Addr), PE (X.blk s H scope (compEnvC scope cl C X.env) fp) kx tk) (he : ∀ (s : Shared) (H : Hp) (C : Addr) (cl : List (Str × Addr)) (fp : List Addr), PE (X.blk s H scope (compEnvC scope cl C X.env) fp) vx tv)
    (hs : ∀ x, foldedSetIterable iter X.env x = pure x := by intro _; rfl) :
    PS X (.Assign [.Name y py] (.DictComp kx vx [⟨tg, iter, ifs, 0⟩] scope pos) spos) (tAsg (tDcG o0 wi g tt tk tv (own.map (·.2))) (gName i)) := by
  refine ⟨fun pns sa σ Ha De Ia ha => ?_⟩
  rw [exec_Assign_Name_used _ _ _ _ hsw]
  refine wpAny_bind (wpAny_standAt (wpAny_bind ?_))
  show wpAny _ X.A (do let _ ← comprehension (.DictComp kx vx [⟨tg, iter, ifs, 0⟩] scope pos) scope X.env (firstIterPos [⟨tg, iter, ifs, 0⟩] pos) newDict false (eval iter X.env) (some (assign (.Name y py) X.env))) _ _ sa
  have ha : tDcG o0 wi g tt tk tv (own.map (·.2)) σ Ha (fun x H1 => gName i x σ H1 De.nx) := ha
  refine wpAny_bind (thn (gdcCore (Qf := fun _ sz => SP X pns De .next sz) o0 hu hmt hc hN Ia hi ok hg ht hk he hs ha fun Lx Ca sb mm Hb Ib qb hnb fb => ?_) fun _ sz hq => wpAny_pure (wpAny_pure hq))
  show wpAny _ _ (assign (.Name y py) X.env (.ref Lx)) _ _ _
  refine wpAny_assign_Name (store_ok2 (v := V.ref Lx) Ib hN hy (.inl hyl) rfl (fun sc Ic ⟨aa, sba, haa⟩ => ?_) (.inr hyl))
  obtain ⟨f0, f1, f2, f3, f4, f5⟩ := fb
  have hne : Ca ≠ aa := by
    rcases haa with z | z
    · rw [z]
      exact f1
    · intro e
      exact f4 y aa z e.symm
  refine ⟨mm, hnb.sameBut sba hne, fun hz3 sz3 => ?_⟩
  exact ⟨_, Hb, Ic.turned (t' := sc.toks) (fun b o hb e => (sz3.2 b hb).trans e) f0 f1 f3 f4 f5, qb⟩
end
end DcG
/-! dicts by tuples of whole numbers, of anything (D.dpd) -/
namespace Pu
open PySem PySem.Spec PyProof.Rows L2
variable [Tbs]
def valX (ds : List (List Int × D)) (k : List Int) : Option D := (ds.find? fun q => decide (q.1 = k)).map (·.2)
def putX (ds : List (List Int × D)) (k : List Int) (d : D) : List (List Int × D) :=
  if (ds.any fun q => decide (q.1 = k)) = true then ds.map (fun q => if q.1 = k then (q.1, d) else q) else ds ++ [(k, d)]
abbrev inK' (ns : List Int) : List Key := ns.map (Sum.inl : Int → Key)
theorem inK_inj {a b : List Int} : inK' a = inK' b ↔ a = b := List.map_inj_right (fun _ _ w => Sum.inl.inj w)
section
variable {z : Zn} {M : AP} {H : Hp}
inductive KDR (z : Zn) (M : AP) (H : Hp) : List (List Key × V) → List (List Int × D) → Prop
  | nil : KDR z M H [] []
  | cons {ns : List Int} {v : V} {d : D} {vs : List (List Key × V)} {ds : List (List Int × D)} : Is z M H v d → KDR z M H vs ds → KDR z M H ((inK' ns, v) :: vs) ((ns, d) :: ds)
theorem KDR.of : ∀ {vs : List (List Key × V)} {ds : List (List Int × D)}, vs.map (·.1) = ds.map (fun p => p.1.map Sum.inl) → IsA z M H (vs.map (·.2)) (ds.map (·.2)) → KDR z M H vs ds
  | [], [], _, _ => .nil
  | [], _ :: _, h, _ => by cases h
  | _ :: _, [], h, _ => by cases h
  | (k, v) :: vs, (ns, d) :: ds, h, .cons r t => by
    rw [List.map_cons, List.map_cons] at h
    obtain ⟨h1, h2⟩ := List.cons.inj h
    have h1 : k = inK' ns := h1
    subst h1
    exact .cons r (KDR.of h2 t)
theorem KDR.keys : ∀ {vs : List (List Key × V)} {ds : List (List Int × D)}, KDR z M H vs ds → vs.map (·.1) = ds.map (fun p => p.1.map Sum.inl)
  | _, _, .nil => rfl
  | _, _, .cons _ t => by rw [List.map_cons, List.map_cons, KDR.keys t]
theorem KDR.vals : ∀ {vs : List (List Key × V)} {ds : List (List Int × D)}, KDR z M H vs ds → IsA z M H (vs.map (·.2)) (ds.map (·.2))
  | _, _, .nil => .nil
  | _, _, .cons h t => .cons h (KDR.vals t)
theorem KDR.len : ∀ {vs : List (List Key × V)} {ds : List (List Int × D)}, KDR z M H vs ds → vs.length = ds.length
  | _, _, .nil => rfl
  | _, _, .cons _ t => congrArg Nat.succ (KDR.len t)
theorem KDR.gen {M' : AP} {H' : Hp} (h1 : ∀ a o, H a = some o → ¬ M a → H' a = some o ∧ ¬ M' a) (h2 : ∀ a, z.ok H a → z.ok H' a) : ∀ {vs : List (List Key × V)} {ds : List (List Int × D)}, KDR z M H vs ds → KDR z M' H' vs ds
  | _, _, .nil => .nil
  | _, _, .cons h t => .cons (h.gen h1 h2) (KDR.gen h1 h2 t)
theorem KDR.val (k : List Int) : ∀ {vs : List (List Key × V)} {ds : List (List Int × D)} {d : D}, KDR z M H vs ds → valX ds k = some d → ∃ v, valV vs (inK' k) = some v ∧ Is z M H v d
  | _, _, _, .nil, h => by cases h
  | _, _, d', .cons (ns := ns) (v := v) (d := d) (vs := vs) (ds := ds) h t, q => by
    by_cases e : ns = k
    · subst e
      rw [show valX ((ns, d) :: ds) ns = some d by simp [valX, List.find?_cons]] at q
      cases q
      exact ⟨v, valV_pos (p := (inK' ns, v)) (r := vs) rfl, h⟩
    · rw [show valX ((ns, d) :: ds) k = valX ds k by simp [valX, List.find?_cons, e]] at q
      obtain ⟨w, h1, h2⟩ := KDR.val k t q
      exact ⟨w, by rw [valV_neg (p := (inK' ns, v)) (r := vs) (fun u => e (inK_inj.mp u))]; exact h1, h2⟩
theorem KDR.any (k : List Int) : ∀ {vs : List (List Key × V)} {ds : List (List Int × D)}, KDR z M H vs ds → (vs.any fun kv => decide (kv.1 = inK' k)) = ds.any fun q => decide (q.1 = k)
  | _, _, .nil => rfl
  | _, _, .cons h t => by
    rw [List.any_cons, List.any_cons, KDR.any k t]
    congr 1
    rw [decide_eq_decide]
    exact inK_inj
theorem KDR.mapP {k : List Int} {v : V} {d : D} (hv : Is z M H v d) : ∀ {vs : List (List Key × V)} {ds : List (List Int × D)}, KDR z M H vs ds → KDR z M H (vs.map fun kv => if kv.1 = inK' k then (kv.1, v) else kv) (ds.map fun q => if q.1 = k then (q.1, d) else q)
  | _, _, .nil => .nil
  | _, _, .cons (ns := ns) h t => by
    rw [List.map_cons, List.map_cons]
    by_cases e : ns = k
    · rw [if_pos (inK_inj.mpr e), if_pos e]
      exact .cons hv (KDR.mapP hv t)
    · rw [if_neg (fun u => e (inK_inj.mp u)), if_neg e]
      exact .cons h (KDR.mapP hv t)
theorem KDR.snoc {k : List Int} {v : V} {d : D} (hv : Is z M H v d) : ∀ {vs : List (List Key × V)} {ds : List (List Int × D)}, KDR z M H vs ds → KDR z M H (vs ++ [(inK' k, v)]) (ds ++ [(k, d)])
  | _, _, .nil => .cons hv .nil
  | _, _, .cons h t => .cons h (KDR.snoc hv t)
theorem KDR.put {k : List Int} {v : V} {d : D} {vs : List (List Key × V)} {ds : List (List Int × D)} (h : KDR z M H vs ds) (hv : Is z M H v d) : KDR z M H (putK vs (inK' k) v) (putX ds k d) := by
  unfold putK putX
  rw [h.any k]
  split
  · exact h.mapP hv
  · exact h.snoc hv
theorem con_dpd {a : Addr} {vs : List (List Key × V)} {ds : List (List Int × D)} (e : H a = some (.dT vs)) (h : KDR z M H vs ds) : Con z M H a (.dpd ds) := ⟨vs, e, h.keys, h.vals⟩
end
theorem valX_put {ds : List (List Int × D)} {k k' : List Int} {d : D} : valX (putX ds k d) k' = if k' = k then some d else valX ds k' := by
  unfold putX
  split
  · rename_i h
    induction ds with
    | nil => simp at h
    | cons p ds ih =>
      obtain ⟨a, b⟩ := p
      rw [List.map_cons]
      by_cases e : a = k
      · subst e
        by_cases q : k' = a
        · subst q
          simp [valX, List.find?_cons]
        · have q' : ¬ a = k' := fun w => q w.symm
          rw [if_pos rfl, if_neg q]
          have : ∀ l : List (List Int × D), valX (l.map fun q => if q.1 = a then (q.1, d) else q) k' = valX l k' := fun l => by
            induction l with
            | nil => rfl
            | cons p l ih2 =>
              obtain ⟨c, u⟩ := p
              rw [List.map_cons]
              by_cases w : c = a
              · subst w
                rw [if_pos rfl]
                simp [valX, List.find?_cons, q'] at ih2 ⊢
                exact ih2
              · rw [if_neg w]
                by_cases w2 : c = k'
                · subst w2
                  simp [valX, List.find?_cons]
                · simp [valX, List.find?_cons, w2] at ih2 ⊢
                  exact ih2
          simp only [valX, List.find?_cons, decide_eq_false q'] at this ⊢
          exact this ds
      · have h' : (ds.any fun q => decide (q.1 = k)) = true := by
          rw [List.any_cons, decide_eq_false e, Bool.false_or] at h
          exact h
        have := ih h'
        rw [if_neg e]
        by_cases w : a = k'
        · subst w
          simp [valX, List.find?_cons, e]
        · simp only [valX, List.find?_cons, decide_eq_false w] at this ⊢
          exact this
  · rename_i h
    have hn : ∀ p ∈ ds, p.1 ≠ k := fun p hp e => h (List.any_eq_true.mpr ⟨p, hp, decide_eq_true e⟩)
    clear h
    induction ds with
    | nil =>
      by_cases q : k' = k
      · subst q; simp [valX, List.find?_cons]
      · have q' : ¬ k = k' := fun w => q w.symm
        simp [valX, List.find?_cons, q, q']
    | cons p ds ih =>
      obtain ⟨a, b⟩ := p
      have e : a ≠ k := hn (a, b) List.mem_cons_self
      have := ih fun p hp => hn p (List.mem_cons_of_mem _ hp)
      by_cases w : a = k'
      · subst w
        simp [valX, List.find?_cons, e]
      · simp only [valX, List.cons_append, List.find?_cons, decide_eq_false w] at this ⊢
        exact this
theorem putX_len (ds : List (List Int × D)) (k : List Int) (d : D) : (putX ds k d).length ≤ ds.length + 1 := by
  unfold putX
  split
  · simp
  · simp
section
variable {C : Cx} {fr : Bool} {e a b : Expr} {p q : PX} {m : Mode} {pos pp : Pos}
/-- x[t] = e -/
def sXput (i : Nat) (pi pe : PX) : PSt := fun env k => pe env fun y => match env[i]? with
  | some (.own (.dpd ds)) => pi env fun d => prKn d fun ns => ds.length ≤ 100000 ∧ k.nx (env.set i (.own (.dpd (putX ds ns y))))
  | _ => False
theorem s_xput (i : Nat) {x : Str} {ix : Expr} {spos : Pos} (hu : C.A.units + 1 < cLine) (he : E .e C e p) (hi : E .e C ix q) (hN : C.N[i]? = some x := by rfl) (hv : Vis C.env.scope x := by first | exact Or.inl rfl | exact Or.inr (Or.inl rfl) | exact Or.inr (Or.inr rfl)) (hd : (x == ("__debug__" : Str)) = false := by decide)
    (hcd : (x == ("__classdict__" : Str)) = false := by decide) (hs : swapsWith e (some (.Subscript (.Name x pp) ix spos)) pos.line C.env = pure false := by rfl) : S fr C (.Assign [.Subscript (.Name x pp) ix spos] e pos) (sXput i q p) := by
  obtain ⟨t, h1, h2⟩ := he
  obtain ⟨u, g1, g2⟩ := hi
  refine ⟨_, ps_dput hu (pe_var hN hv hd hcd) g1 h1 hs, fun z X H0 H σ env G k o s hp => ?_⟩
  refine h2 z X H0 H σ env _ _ o (fun y v H1 e1 r1 hx => ?_) hp
  have o1 := o.go e1
  split at hx
  · rename_i ds hk
    obtain ⟨ad, q1, ⟨vs, q5, q6, q7⟩, q3, q4⟩ := o1.own i _ hk
    refine ⟨_, q1, g2 z X H0 H1 σ env _ _ o1 (fun d w H2 e2 r2 hy => ?_) hx⟩
    obtain ⟨ns, rfl, hl, hy⟩ := hy
    obtain ⟨b2, rfl, hb2⟩ := tup_is (show Is z (Ms z X σ env) H2 w (.tup (ns.map D.int)) from r2)
    have o2 := o1.go e2
    have q5' := e2.old ad _ q5 q3
    have kd : KDR z (Ms z X σ env) H2 vs ds := (KDR.of q6 q7).gen (fun b ob qb nb => ⟨e2.old b ob qb fun w => nb (.inl w), nb⟩) e2.dk
    have r1' : Is z (Ms z X σ env) H2 v y := Is.evo (fun _ q => .inl q) e2 r1
    refine ⟨ad, _, rfl, DPut.t (k := ns.map Sum.inl) q5' hb2 (by rw [kd.len, sizeLine_eq]; omega), ?_⟩
    have ia : Ms z X σ env ad := .inr (.inr ⟨i, _, hk, q1⟩)
    obtain ⟨o3, f3⟩ := o2.mut (d' := .dpd (putX ds ns y)) (o := .dT (putK vs (ns.map Sum.inl) v)) hk q1 (con_dpd upd_same ((kd.put r1').gen (fun b u hb nb => ⟨by rw [upd_ne (fun w => nb (by rw [w]; exact ia))]; exact hb, nb⟩) fun b hb => ok_mut q3 hb))
    exact s.nx _ _ _ o3 ((o.fr (e1.trans e2)).trans f3) hy
  · exact hx.elim
theorem Rel.conX {z : Zn} {X : AP} {H H' : Hp} {σ : Sl} {env : List SV} {v : V} {ds : List (List Int × D)} (h : Rel .c z X H H' σ env v (.dpd ds)) : ∃ a vs, v = .ref a ∧ H' a = some (.dT vs) ∧ KDR z (Ms z X σ env) H' vs ds := by
  rcases h with h | ⟨a, rfl, ⟨vs, e, r1, r2⟩, n, md⟩
  · cases h with
    | dpd e n r1 r2 => exact ⟨_, _, rfl, e, KDR.of r1 r2⟩
  · exact ⟨a, vs, rfl, e, KDR.of r1 r2⟩
def dXget : D → D → (D → Prop) → Prop := fun x y k => match x with
  | .dpd ds => prKn y fun ns => ∃ d, valX ds ns = some d ∧ k d
  | _ => False
theorem e_xget (hu : C.A.units + 1 < cLine) (ha : E .c C a p) (hb : E .e C b q) (hs : NoSl b := by exact fun _ _ => rfl) : E .e C (.Subscript a b pos) (eOp dXget p q) := by
  obtain ⟨ta, a1, a2⟩ := ha
  obtain ⟨tb, b1, b2⟩ := hb
  refine ⟨_, pe_dget hu a1 b1 hs, fun z X H0 H σ env Q k o c hp => a2 z X H0 H σ env _ _ o (fun x v H1 e1 r1 hp1 => b2 z X H0 H1 σ env _ _ (o.go e1) (fun y u H2 e2 r2 hp2 => ?_) hp1) hp⟩
  have r1' := r1.evo o e2 e1
  cases x with
  | dpd ds =>
    obtain ⟨ns, rfl, d, hd, hk⟩ := hp2
    obtain ⟨ad, vs, rfl, h1, h2⟩ := Rel.conX r1'
    obtain ⟨b2, rfl, hb2⟩ := tup_is (show Is z (Ms z X σ env) H2 u (.tup (ns.map D.int)) from r2)
    obtain ⟨w, hw, iw⟩ := h2.val ns hd
    have g := DGet.t (k := ns.map Sum.inl) h1 hb2
    rw [hw] at g
    exact ⟨ad, w, rfl, g, c d w H2 (e1.trans e2) iw hk⟩
  | _ => exact (show False from hp2).elim
theorem sXput_i {i : Nat} {pi pe : PX} {env : List SV} {ds : List (List Int × D)} {K : PK'} (e : env[i]? = some (.own (.dpd ds))) (h : pe env fun y => pi env fun d => prKn d fun ns => ds.length ≤ 100000 ∧ K.nx (env.set i (.own (.dpd (putX ds ns y))))) : sXput i pi pe env K := by
  unfold sXput
  rw [e]
  exact h
theorem dXget_i {ds : List (List Int × D)} {ns : List Int} {d : D} {k : D → Prop} (e : valX ds ns = some d) (h : k d) : dXget (.dpd ds) (.tup (ns.map D.int)) k := ⟨ns, rfl, d, e, h⟩
theorem eO_x {i : Nat} {env : List SV} {ds : List (List Int × D)} {k : D → Prop} (e : env[i]? = some (.own (.dpd ds))) (h : k (.dpd ds)) : eO i env k := by unfold eO; rw [e]; exact h
end
end Pu
/-! y = {k: v for ..}: keys whole numbers (.dic), or tuples of them with whole numbers as values (.dpr) -/
namespace Pu
open PySem PySem.Spec PyProof.Rows L2 DcG
variable [Tbs]
def putDD : D → D → D → Option D
  | .dic kvs, .int n, y => if kvs.length ≤ 100000 then some (.dic (putD kvs (.inl n) y)) else none
  | .dpr ds, .tup ks, .int v => (intsD ks).bind fun ns => if ds.length ≤ 100000 then some (.dpr (putT ds ns v)) else none
  | .dpd ds, .tup ks, y => (intsD ks).bind fun ns => if ds.length ≤ 100000 then some (.dpd (putX ds ns y)) else none
  | _, _, _ => none
theorem putDD_con {z : Zn} {M : AP} {H : Hp} {Da : Addr} {d kd y d' : D} {yk yv : V} (hD : M Da) (hzD : ¬ z.Z Da) (h : Con z M H Da d) (hk : Is z M H yk kd) (hv : Is z M H yv y) (e : putDD d kd y = some d') :
    ∃ o', DPut H Da yk yv (upd H Da o') ∧ Con z M (upd H Da o') Da d' := by
  have old : ∀ o' : HO, ∀ b u, H b = some u → ¬ M b → upd H Da o' b = some u ∧ ¬ M b := fun o' b u q n => ⟨by rw [upd_ne (fun w => n (by rw [w]; exact hD))]; exact q, n⟩
  have dk : ∀ o' : HO, ∀ b, z.ok H b → z.ok (upd H Da o') b := fun o' b hb => ok_mut hzD hb
  unfold putDD at e
  split at e
  · rename_i kvs n
    split at e
    · rename_i hl
      cases e
      obtain ⟨vs, e1, e2⟩ := h
      cases Is.intI hk
      have hlen := e2.len
      refine ⟨.dK (putK vs (.inl n) yv), DPut.k (k := Sum.inl n) e1 (by rw [hlen, sizeLine_eq]; omega), _, upd_same, (e2.put hv).gen (old _) (dk _)⟩
    · cases e
  · rename_i ds ks v
    obtain ⟨ns, hn, e⟩ := Option.bind_eq_some_iff.mp e
    split at e
    · rename_i hl
      cases e
      have e1 : H Da = some (.dT (dtV ds)) := h
      rw [intsD_eq hn] at hk
      obtain ⟨b, rfl, hb⟩ := tup_is hk
      cases Is.intI hv
      refine ⟨.dT (dtV (putT ds ns v)), ?_, upd_same⟩
      have := DPut.t (k := ns.map Sum.inl) (v := .int v) e1 hb (by unfold dtV; rw [List.length_map, sizeLine_eq]; omega)
      rw [put_dtV] at this
      exact this
    · cases e
  · rename_i ds ks y
    obtain ⟨ns, hn, e⟩ := Option.bind_eq_some_iff.mp e
    split at e
    · rename_i hl
      cases e
      obtain ⟨vs, e1, q1, q2⟩ := h
      have kd := KDR.of q1 q2
      rw [intsD_eq hn] at hk
      obtain ⟨b, rfl, hb⟩ := tup_is hk
      refine ⟨.dT (putK vs (inK' ns) yv), DPut.t (k := ns.map Sum.inl) (v := yv) e1 hb (by rw [kd.len, sizeLine_eq]; omega), con_dpd upd_same ((kd.put hv).gen (old _) (dk _))⟩
    · cases e
  · cases e
def dcQ (pg : PGt) (pt : PTs') (pk pv : PX) (env : List SV) : List D → D → (D → Prop) → Prop
  | [], acc, k => k acc
  | d :: ds, acc, k => pg d env fun env1 => pt env1 fun b => if b = true then pk env1 fun kd => pv env1 fun y => ∃ acc', putDD acc kd y = some acc' ∧ dcQ pg pt pk pv env ds acc' k else dcQ pg pt pk pv env ds acc k
def eDcG (o : D) (vs : List Nat) (pi : PIt) (pg : PGt) (pt : PTs') (pk pv : PX) : PX := fun env k => pi env fun ds => noOwn env vs ∧ dcQ pg pt pk pv (wipeE env vs) ds o k
theorem re_dc {o0 : HO} {od : D} (h00 : ∀ (z : Zn) (M : AP) (H : Hp) (a : Addr), Con z M (upd H a o0) a od) {wi : TI} {pi : PIt} {js vs : List Nat} {g : TG} {pg : PGt} {tt : TT} {pt : PTs'} {tk tv : TE} {pk pv : PX} (hi : RI wi pi) (hg : RG js g pg) (hj : ∀ i ∈ js, i ∈ vs) (ht : RT tt pt) (hk : RE .e tk pk) (hv : RE .e tv pv) :
    RE .f (tDcG o0 wi g tt tk tv vs) (eDcG od vs pi pg pt pk pv) := fun z X H0 H σ env Q k o c hp => by
  refine hi z X H0 H σ env _ _ o (fun ds J H1 e1 yl hx => ?_) hp
  obtain ⟨hn, hx⟩ := hx
  have o1 := o.go e1
  intro Da hD
  have hzD : ¬ z.Z Da := fun q => o1.zal Da q hD
  refine ⟨fun i mm H' => mm = ds.length - i ∧ i ≤ ds.length ∧ ∃ acc, Evo z H1 H' ∧ Con z (Ms z (X.or Da) σ env) H' Da acc ∧ dcQ pg pt pk pv (wipeE env vs) (ds.drop i) acc k,
    ⟨ds.length, by simp, Nat.zero_le _, od, (Evo.refl _ _).new hD, h00 _ _ _ _, by simpa using hx⟩, ?_⟩
  rintro i mm H' ⟨rfl, hil, acc, e', hacc, hq⟩
  have oL : Ok z (X.or Da) H0 H' σ env := o1.lock hD e' (by obtain ⟨u, hu⟩ := hacc.some; rw [hu]; intro q; cases q)
  have fr : Fr z X (Ms z X σ env) H1 (Ms z (X.or Da) σ env) H' := ⟨fun b u q n => ⟨e'.old b u q fun y => n (.inl y), fun y => (ms_or y).elim n (ne_of_none q hD)⟩, e'.dk, e'.al⟩
  have inD : ∀ {σ : Sl} {env : List SV}, Ms z (X.or Da) σ env Da := .inr (.inl (.inr rfl))
  obtain ⟨y1, y2⟩ := yl _ _ fr
  by_cases hlt : i < ds.length
  · obtain ⟨go, y3⟩ := y2 i ds[i] (List.getElem?_eq_getElem hlt)
    rw [List.drop_eq_getElem_cons hlt] at hq
    refine .inr ⟨go, fun H2 => ∃ acc, Evo z H1 H2 ∧ Con z (Ms z (X.or Da) σ env) H2 Da acc ∧ dcQ pg pt pk pv (wipeE env vs) (ds.drop (i + 1)) acc k, fun H2 h2 => ⟨ds.length - (i + 1), by omega, rfl, hlt, h2⟩, fun x H2 hy => ?_⟩
    obtain ⟨e2, is⟩ := y3 x H2 hy
    have oL2 := oL.go e2
    obtain ⟨oW, sub⟩ := oL2.wipe (vs := vs)
    refine hg z (X.or Da) H0 H2 _ _ x _ _ _ oW ((is (fun a q => .inl q) (fun b q => oL.notMs q)).weak sub) (fun env3 σ3 o3 f3 kp hx3 => ⟨wipe_eq kp hj, ?_⟩) hq
    refine ht z (X.or Da) H0 H2 σ3 env3 _ _ o3 (fun b H3 e3 hx4 => ?_) hx3
    have ev : ∀ {Ha Hb : Hp}, Evo z Ha Hb → Con z (Ms z (X.or Da) σ env) Ha Da acc → Con z (Ms z (X.or Da) σ env) Hb Da acc := fun ee hc => hc.gen (fun u q => ee.old _ u q hzD) (fun b u q n => ⟨ee.old b u q fun w => n (.inl w), n⟩) ee.dk
    have acc3 := ev (e2.trans e3) hacc
    cases b with
    | false =>
      rw [if_neg Bool.false_ne_true]
      exact ⟨acc, e'.trans (e2.trans e3), acc3, hx4⟩
    | true =>
      rw [if_pos rfl]
      refine hk z (X.or Da) H0 H3 σ3 env3 _ _ (o3.go e3) (fun kd yk H4 e4 r4 hx5 => ?_) hx4
      refine hv z (X.or Da) H0 H4 σ3 env3 _ _ ((o3.go e3).go e4) (fun y yv H5 e5 r5 hx6 => ?_) hx5
      obtain ⟨acc', hput, hrest⟩ := hx6
      have r4' : Is z (Ms z (X.or Da) σ3 env3) H5 yk kd := Is.evo (fun _ q => .inl q) e5 r4
      have e15 := e'.trans (e2.trans (e3.trans (e4.trans e5)))
      obtain ⟨o', dp, hc'⟩ := putDD_con inD hzD (ev (e4.trans e5) acc3) (Is.weak (ms_in hn hj kp) r4') (Is.weak (ms_in hn hj kp) r5) hput
      exact ⟨_, dp, acc', e15.mut hD hzD, hc', hrest⟩
  · have ei : i = ds.length := by omega
    subst ei
    rw [List.drop_length] at hq
    exact .inl ⟨y1, c acc (.ref Da) H' (e1.trans e') ⟨Da, rfl, e1.fresh hD, hacc⟩ hq⟩
section
variable {C : Cx} {fr : Bool} {kx vx tg iter : Expr} {ifs : List Expr} {scope : Scope} {own : List (Str × Nat)} {pos : Pos} {pi : PIt} {js : List Nat} {g : TG} {pg : PGt} {pt : PTs'} {pk pv : PX}
abbrev BlkE (C : Cx) (scope : Scope) (s : Shared) (H : Hp) (Ca : Addr) (cl : List (Str × Addr)) (fp : List Addr) : Cx := C.blk s H scope (compEnvC scope cl Ca C.env) fp
/-- of whole numbers (t = false), of tuples of them (t = true) -/
def dcO : Bool → HO
  | false => .dK []
  | true => .dT []
def dcD : Bool → D
  | false => .dic []
  | true => .dpr []
theorem dc00 (t : Bool) : ∀ (z : Zn) (M : AP) (H : Hp) (a : Addr), Con z M (upd H a (dcO t)) a (dcD t) := fun z M H a => by
  cases t
  · exact ⟨[], upd_same, .nil⟩
  · exact (upd_same : upd H a (.dT []) a = some (.dT []))
theorem dcMt (t : Bool) {P : Program} {w : World} : ∀ (hp : Heap) (Hx : Hp), sysModules < hp.objs.size → ObjOk P w Hx (hp.push { cls := .type "dict", data := .dict #[] }) hp.objs.size (dcO t) := fun hp Hx hb => by
  cases t
  · exact dk_empty hp hb
  · exact dt_empty hp hb
theorem s_ownDc (t : Bool) {i : Nat} {y : Str} {py spos : Pos} (hu : C.A.units + 1 < cLine) (hi : I C tg iter pi) (hg : ∀ (s : Shared) (H : Hp) (Ca : Addr) (cl : List (Str × Addr)) (fp : List Addr), G (BlkE C scope s H Ca cl fp) tg js g pg) (ht : ∀ (s : Shared) (H : Hp) (Ca : Addr) (cl : List (Str × Addr)) (fp : List Addr), Ts (BlkE C scope s H Ca cl fp) ifs pt)
    (hk : ∀ (s : Shared) (H : Hp) (Ca : Addr) (cl : List (Str × Addr)) (fp : List Addr), E .e (BlkE C scope s H Ca cl fp) kx pk) (hv : ∀ (s : Shared) (H : Hp) (Ca : Addr) (cl : List (Str × Addr)) (fp : List Addr), E .e (BlkE C scope s H Ca cl fp) vx pv) (hc : C.calm = true) (hN : C.N.Nodup) (hy : C.N[i]? = some y) (hyl : C.env.scope.names.lookup y = some .local)
    (hsw : swapsWith (.DictComp kx vx [⟨tg, iter, ifs, 0⟩] scope pos) (some (.Name y py)) spos.line C.env = pure true) (ok : BlkOk C.N C.env.scope scope own) (hj : ∀ i ∈ js, i ∈ own.map (·.2)) (rg : RG js g pg) (hs : ∀ x, foldedSetIterable iter C.env x = pure x := by intro _; rfl) :
    S fr C (.Assign [.Name y py] (.DictComp kx vx [⟨tg, iter, ifs, 0⟩] scope pos) spos) (sOwn i (eDcG (dcD t) (own.map (·.2)) pi pg pt pk pv)) :=
  ⟨_, ps_setDcG hu (dcMt t) hc hN hy hyl hsw hi.pi ok (fun s H Ca cl fp => (hg s H Ca cl fp).pg) (fun s H Ca cl fp => (ht s H Ca cl fp).ex) (fun s H Ca cl fp => (hk s H Ca cl fp).pe) (fun s H Ca cl fp => (hv s H Ca cl fp).pe) hs, rs_own (re_dc (dc00 t) ri_tP rg hj rt_tP re_tP re_tP)⟩
theorem dc00X : ∀ (z : Zn) (M : AP) (H : Hp) (a : Addr), Con z M (upd H a (.dT [])) a (.dpd []) := fun z M H a => ⟨[], upd_same, rfl, .nil⟩
theorem dcMtX {P : Program} {w : World} : ∀ (hp : Heap) (Hx : Hp), sysModules < hp.objs.size → ObjOk P w Hx (hp.push { cls := .type "dict", data := .dict #[] }) hp.objs.size (.dT []) := fun hp Hx hb => dt_empty hp hb
theorem s_ownDcX {i : Nat} {y : Str} {py spos : Pos} (hu : C.A.units + 1 < cLine) (hi : I C tg iter pi) (hg : ∀ (s : Shared) (H : Hp) (Ca : Addr) (cl : List (Str × Addr)) (fp : List Addr), G (BlkE C scope s H Ca cl fp) tg js g pg) (ht : ∀ (s : Shared) (H : Hp) (Ca : Addr) (cl : List (Str × Addr)) (fp : List Addr), Ts (BlkE C scope s H Ca cl fp) ifs pt)
    (hk : ∀ (s : Shared) (H : Hp) (Ca : Addr) (cl : List (Str × Addr)) (fp : List Addr), E .e (BlkE C scope s H Ca cl fp) kx pk) (hv : ∀ (s : Shared) (H : Hp) (Ca : Addr) (cl : List (Str × Addr)) (fp : List Addr), E .e (BlkE C scope s H Ca cl fp) vx pv) (hc : C.calm = true) (hN : C.N.Nodup) (hy : C.N[i]? = some y) (hyl : C.env.scope.names.lookup y = some .local)
    (hsw : swapsWith (.DictComp kx vx [⟨tg, iter, ifs, 0⟩] scope pos) (some (.Name y py)) spos.line C.env = pure true) (ok : BlkOk C.N C.env.scope scope own) (hj : ∀ i ∈ js, i ∈ own.map (·.2)) (rg : RG js g pg) (hs : ∀ x, foldedSetIterable iter C.env x = pure x := by intro _; rfl) :
    S fr C (.Assign [.Name y py] (.DictComp kx vx [⟨tg, iter, ifs, 0⟩] scope pos) spos) (sOwn i (eDcG (.dpd []) (own.map (·.2)) pi pg pt pk pv)) :=
  ⟨_, ps_setDcG hu dcMtX hc hN hy hyl hsw hi.pi ok (fun s H Ca cl fp => (hg s H Ca cl fp).pg) (fun s H Ca cl fp => (ht s H Ca cl fp).ex) (fun s H Ca cl fp => (hk s H Ca cl fp).pe) (fun s H Ca cl fp => (hv s H Ca cl fp).pe) hs, rs_own (re_dc dc00X ri_tP rg hj rt_tP re_tP re_tP)⟩
end
section
variable {C : Cx} {kx vx tg iter : Expr} {ifs : List Expr} {scope : Scope} {own : List (Str × Nat)} {pos : Pos} {pi : PIt} {js : List Nat} {g : TG} {pg : PGt} {pt : PTs'} {pk pv : PX}
theorem e_dcG (t : Bool) (hu : C.A.units + 1 < cLine) (hi : I C tg iter pi) (hg : ∀ (s : Shared) (H : Hp) (Ca : Addr) (cl : List (Str × Addr)) (fp : List Addr), G (BlkE C scope s H Ca cl fp) tg js g pg) (ht : ∀ (s : Shared) (H : Hp) (Ca : Addr) (cl : List (Str × Addr)) (fp : List Addr), Ts (BlkE C scope s H Ca cl fp) ifs pt)
    (hk : ∀ (s : Shared) (H : Hp) (Ca : Addr) (cl : List (Str × Addr)) (fp : List Addr), E .e (BlkE C scope s H Ca cl fp) kx pk) (hv : ∀ (s : Shared) (H : Hp) (Ca : Addr) (cl : List (Str × Addr)) (fp : List Addr), E .e (BlkE C scope s H Ca cl fp) vx pv) (hc : C.calm = true) (hN : C.N.Nodup)
    (ok : BlkOk C.N C.env.scope scope own) (hj : ∀ i ∈ js, i ∈ own.map (·.2)) (rg : RG js g pg) (hs : ∀ x, foldedSetIterable iter C.env x = pure x := by intro _; rfl) :
    E .f C (.DictComp kx vx [⟨tg, iter, ifs, 0⟩] scope pos) (eDcG (dcD t) (own.map (·.2)) pi pg pt pk pv) :=
  ⟨_, pe_dcG hu (dcMt t) hc hN hi.pi ok (fun s H Ca cl fp => (hg s H Ca cl fp).pg) (fun s H Ca cl fp => (ht s H Ca cl fp).ex) (fun s H Ca cl fp => (hk s H Ca cl fp).pe) (fun s H Ca cl fp => (hv s H Ca cl fp).pe) hs, re_dc (dc00 t) ri_tP rg hj rt_tP re_tP re_tP⟩
end
/-! pure rules -/
section
variable {env : List SV} {k : D → Prop} {pi : PIt} {pg : PGt} {pt : PTs'} {pk pv : PX} {vs : List Nat} {o : D}
theorem eDcG_i (h : pi env fun ds => noOwn env vs ∧ dcQ pg pt pk pv (wipeE env vs) ds o k) : eDcG o vs pi pg pt pk pv env k := h
theorem dcQ_i (Inv : Nat → D → Prop) : ∀ (ds : List D) (n : Nat) {acc : D}, Inv n acc →
    (∀ (i : Nat) (d : D) (acc : D), ds[i]? = some d → Inv (n + i) acc → ∀ N : D → Prop, (∀ a, Inv (n + i + 1) a → N a) → pg d env fun env1 => pt env1 fun b => if b = true then pk env1 fun kd => pv env1 fun y => ∃ a, putDD acc kd y = some a ∧ N a else N acc) →
    (∀ acc, Inv (n + ds.length) acc → k acc) → dcQ pg pt pk pv env ds acc k
  | [], n, acc, h, _, hk => hk acc (by simpa using h)
  | d :: ds, n, acc, h, hs, hk => by
    refine hs 0 d acc rfl h _ fun a ha => ?_
    refine dcQ_i Inv ds (n + 1) (by simpa using ha) (fun i d' acc' hi hI N hN => ?_) fun acc' ha' => hk acc' (by rw [List.length_cons]; rw [show n + (ds.length + 1) = n + 1 + ds.length by omega]; exact ha')
    exact hs (i + 1) d' acc' (by simpa using hi) (by rw [show n + (i + 1) = n + 1 + i by omega]; exact hI) N fun a' h' => hN a' (by rw [show n + 1 + i + 1 = n + (i + 1) + 1 by omega]; exact h')
theorem putDD_x {ds : List (List Int × D)} {ns : List Int} {y : D} (h : ds.length ≤ 100000) : putDD (.dpd ds) (.tup (ns.map D.int)) y = some (.dpd (putX ds ns y)) := by
  show (intsD (ns.map D.int)).bind _ = _
  rw [intsD_map]
  exact if_pos h
theorem putDD_t {ds : List (List Int × Int)} {ns : List Int} {v : Int} (h : ds.length ≤ 100000) : putDD (.dpr ds) (.tup (ns.map D.int)) (.int v) = some (.dpr (putT ds ns v)) := by
  show (intsD (ns.map D.int)).bind _ = _
  rw [intsD_map]
  exact if_pos h
end
end Pu
/-! a comprehension, given back, whose elements are popped at a drawn place from a list of the def's own -/
namespace Pu
open PySem PySem.Spec PyProof.Rows L2
variable [Tbs]
def RMKc (n : Nat) (t : TE) (p : PMX) : Prop := ∀ (z : Zn) (X : AP) (H0 H : Hp) (σ : Sl) (env : List SV) (Q : VK) (k : List SV → D → Prop), Ok z X H0 H σ env → z.live H → z.ct + n ≤ lim → (∀ c d v H' env', c ≤ z.ct + n → Ok (z.at c) X H0 H' σ env' → FrC z c X (Ms z X σ env) H (Ms z X σ env') H' → (∀ b, X b → H' b = H b) → Is (z.at c) (Ms z X σ env') H' v d → k env' d → Q v H') → p env k → t σ H Q
structure MKc (n : Nat) (C : Cx) (e : Expr) (p : PMX) : Prop where
  ex : ∃ t, PE C e t ∧ RMKc n t p
def tMKc (n : Nat) (p : PMX) : TE := fun σ H Q => ∃ (z : Zn) (X : AP) (H0 : Hp) (env : List SV) (k : List SV → D → Prop), Ok z X H0 H σ env ∧ z.live H ∧ z.ct + n ≤ lim ∧ (∀ c d v H' env', c ≤ z.ct + n → Ok (z.at c) X H0 H' σ env' → FrC z c X (Ms z X σ env) H (Ms z X σ env') H' → (∀ b, X b → H' b = H b) → Is (z.at c) (Ms z X σ env') H' v d → k env' d → Q v H') ∧ p env k
theorem MKc.pe {C : Cx} {e : Expr} {p : PMX} {n : Nat} (h : MKc n C e p) : PE C e (tMKc n p) := by
  obtain ⟨t, h1, h2⟩ := h
  exact ⟨fun pins s σ H Q I ⟨z, X, H0, env, k, o, lv, w, c, hp⟩ => h1.run pins s σ H Q I (h2 z X H0 H σ env Q k o lv w c hp)⟩
/-! dict(pairs), whole numbers both -/
end Pu
/-! sorted(xs), xs a list of pairs (a tuple of whole numbers, a whole number), no two alike in the first -/
namespace Pu
open PySem PySem.Spec PyProof.Rows L2
variable [Tbs]
theorem lexI_asym : ∀ xs ys : List Int, lexI xs ys = true → lexI ys xs = false
  | [], [], h => by cases h
  | [], _ :: _, _ => rfl
  | _ :: _, [], h => by cases h
  | x :: r, y :: t, h => by
    simp only [lexI, Bool.or_eq_true, decide_eq_true_eq, Bool.and_eq_true, Bool.not_eq_true', decide_eq_false_iff_not] at h
    simp only [lexI, Bool.or_eq_false_iff, decide_eq_false_iff_not, Bool.and_eq_false_iff, Bool.not_eq_false', decide_eq_true_eq]
    rcases h with h | ⟨h1, h2⟩
    · exact ⟨by omega, .inl (by omega)⟩
    · exact ⟨h1, .inr (lexI_asym r t h2)⟩
theorem lexI_tr : ∀ x y z : List Int, lexI y x = false → lexI z y = false → lexI z x = false
  | [], [], z, _, h => h
  | [], _ :: _, [], _, _ => rfl
  | [], _ :: _, _ :: _, _, _ => rfl
  | _ :: _, [], _, h, _ => by cases h
  | _ :: _, _ :: _, [], _, h => by cases h
  | x :: r, y :: t, z :: u, h1, h2 => by
    simp only [lexI, Bool.or_eq_false_iff, decide_eq_false_iff_not, Bool.and_eq_false_iff, Bool.not_eq_false', decide_eq_true_eq] at h1 h2 ⊢
    refine ⟨by omega, ?_⟩
    by_cases q : x < z
    · exact .inl q
    · rcases h1.2 with a | a
      · omega
      · rcases h2.2 with b | b
        · omega
        · exact .inr (lexI_tr r t u a b)
def intsOf (us : List Value) : List Int := us.map fun v => match v with
  | .int i _ => i
  | _ => 0
def seqOf (h : Heap) (v : Value) : List Value := match v with
  | .ref a => match h.get? a with
    | some o => match o.data with
      | .seq xs _ => xs.toList
      | _ => []
    | none => []
  | _ => []
def keyP (h : Heap) (v : Value) : List Int := intsOf (seqOf h ((seqOf h v).headD .none))
theorem intsOf_are : ∀ {us : List Value} {ns : List Int}, Vals (ns.map V.int) us → intsOf us = ns
  | [], [], .nil => rfl
  | _ :: _, n :: ns, .cons r t => by
    obtain ⟨tk, rfl⟩ := r
    show n :: intsOf _ = _
    rw [intsOf_are t]
/-- v is a pair of the tuple of ns and i -/
def PairP (h : Heap) (v : Value) (ns : List Int) (i : Int) : Prop := ∃ (a b : Addr) (t : Tok) (us : List Value), v = .ref a ∧ h.IsTuple a #[.ref b, .int i t] ∧ h.IsTuple b us.toArray ∧ Vals (ns.map V.int) us
theorem seqOf_tup {h : Heap} {a : Addr} {xs : Array Value} (x : h.IsTuple a xs) : seqOf h (.ref a) = xs.toList := by
  obtain ⟨o, ho, hc, n, hd⟩ := x
  simp only [seqOf, ho, hd]
theorem PairP.key {h : Heap} {v : Value} {ns : List Int} {i : Int} (x : PairP h v ns i) : keyP h v = ns := by
  obtain ⟨a, b, t, us, rfl, h1, h2, h3⟩ := x
  unfold keyP
  rw [seqOf_tup h1]
  show intsOf (seqOf h (.ref b)) = ns
  rw [seqOf_tup h2]
  simpa using intsOf_are h3
theorem PairP.keeps {h h' : Heap} {v : Value} {ns : List Int} {i : Int} (x : PairP h v ns i) (k : ∀ b o, h.get? b = some o → o.cls = .type "tuple" → h'.get? b = some o) : PairP h' v ns i := by
  obtain ⟨a, b, t, us, e, ⟨o, ho, hc, r⟩, ⟨o2, ho2, hc2, r2⟩, h3⟩ := x
  exact ⟨a, b, t, us, e, ⟨o, k _ _ ho hc, hc, r⟩, ⟨o2, k _ _ ho2 hc2, hc2, r2⟩, h3⟩
theorem lexAt_lexI {e r : Nat → Bool} : ∀ (ns ms : List Int) (i : Nat), (∀ j, e (i + j) = decide (ns.getD j 0 = ms.getD j 0)) → (∀ j, r (i + j) = decide (ns.getD j 0 < ms.getD j 0)) →
    Ob.lexAt e r (decide (ns.length < ms.length)) i (min ns.length ms.length) = lexI ns ms
  | [], [], i, _, _ => rfl
  | [], _ :: _, i, _, _ => by simp [Ob.lexAt, lexI]
  | _ :: _, [], i, _, _ => by simp [Ob.lexAt, lexI]
  | x :: ns, y :: ms, i, he, hr => by
    have e0 : e i = decide (x = y) := he 0
    have r0 : r i = decide (x < y) := hr 0
    have ih := lexAt_lexI ns ms (i + 1) (fun j => by rw [Nat.add_assoc, Nat.add_comm 1 j]; exact he (j + 1)) (fun j => by rw [Nat.add_assoc, Nat.add_comm 1 j]; exact hr (j + 1))
    have em : min (x :: ns).length (y :: ms).length = min ns.length ms.length + 1 := by simp only [List.length_cons]; omega
    have ez : decide ((x :: ns).length < (y :: ms).length) = decide (ns.length < ms.length) := by simp only [List.length_cons, Nat.add_lt_add_iff_right]
    rw [em, ez, Ob.lexAt_succ, e0, r0, ih, show lexI (x :: ns) (y :: ms) = (decide (x < y) || (!decide (y < x) && lexI ns ms)) from rfl]
    by_cases q : x = y
    · subst q
      simp
    · rw [if_neg (by simpa using q)]
      rcases Int.lt_or_gt_of_ne q with c | c
      · simp [c]
      · have : ¬ x < y := by omega
        simp [c, this]
section
variable {prog : Program} {w : World} {A : Around} {s : Shared}
theorem int_key {h : Heap} {b : Addr} {us : List Value} {ns : List Int} (hb : h.IsTuple b us.toArray) (hv : Vals (ns.map V.int) us) : IsTupleKey (L2.mixKind prog w) h (ns.map (Sum.inl : Int → Key)) b := by
  obtain ⟨o, ho, hc, n, hd⟩ := hb
  refine ⟨o, _, n, ho, hc, hd, ?_⟩
  clear hd ho hc
  have go : ∀ {ns : List Int} {us : List Value}, Vals (ns.map V.int) us → ItemsAre (L2.mixKind prog w) (ns.map (Sum.inl : Int → Key)) us := by
    intro ns
    induction ns with
    | nil => intro us h; cases h; exact .nil
    | cons n ns ih =>
      intro us h
      cases h with
      | cons r t =>
        obtain ⟨tk, rfl⟩ := r
        exact .cons (L2.mixKind_int prog w n tk) (ih t)
  exact go hv
theorem inl_inj : ∀ {ns ms : List Int}, ns.map (Sum.inl : Int → Key) = ms.map Sum.inl → ns = ms
  | [], [], _ => rfl
  | [], _ :: _, h => by cases h
  | _ :: _, [], h => by cases h
  | n :: ns, m :: ms, h => by
    rw [List.map_cons, List.map_cons] at h
    injection h with h1 h2
    cases h1
    rw [inl_inj h2]
theorem lt_ints {a b : Addr} {us us2 : List Value} {ns ms : List Int} {Q : Value → Shared → Prop} {E : Value → Shared → Prop} (ha : s.heap.IsTuple a us.toArray) (hb : s.heap.IsTuple b us2.toArray) (h1 : Vals (ns.map V.int) us) (h2 : Vals (ms.map V.int) us2) (hu : A.units < cLine) (h : Q (.bool (lexI ns ms)) s) :
    wpAny (model prog w) A (compareOp .Lt (.ref a) (.ref b)) Q E s := by
  have i1 : IntsAre us ns := Vals.ints h1
  have i2 : IntsAre us2 ms := Vals.ints h2
  have e1 : us.toArray.size = ns.length := by rw [List.size_toArray]; exact i1.length
  have e2 : us2.toArray.size = ms.length := by rw [List.size_toArray]; exact i2.length
  have at1 : ∀ j (h1 : j < us.toArray.size), ∃ t, us.toArray[j] = .int (ns.getD j 0) t := fun j h1 => PyProof.Rows.IntsAre.int_at i1 _ _ (by simp at h1; simp [h1])
  have at2 : ∀ j (h1 : j < us2.toArray.size), ∃ t, us2.toArray[j] = .int (ms.getD j 0) t := fun j h1 => PyProof.Rows.IntsAre.int_at i2 _ _ (by simp at h1; simp [h1])
  have R := Ob.RcOp.tuples_lt (A := A) (s := s) (e := fun j => decide (ns.getD j 0 = ms.getD j 0)) (r := fun j => decide (ns.getD j 0 < ms.getD j 0)) ha hb hu (fun j h1 h2 => by
    obtain ⟨t, et⟩ := at1 j h1
    obtain ⟨t', et'⟩ := at2 j h2
    rw [et, et']
    have z : (ns.getD j 0 == ms.getD j 0) = decide (ns.getD j 0 = ms.getD j 0) := by
      by_cases q : ns.getD j 0 = ms.getD j 0
      · rw [decide_eq_true q]; exact beq_iff_eq.mpr q
      · rw [decide_eq_false q]; exact beq_eq_false_iff_ne.mpr q
    rw [← z]
    exact SeqAt.EqAt.int_int _ _ _ _) (fun j h1 h2 _ => by
    obtain ⟨t, et⟩ := at1 j h1
    obtain ⟨t', et'⟩ := at2 j h2
    rw [et, et']
    exact Ob.RcOp.lt_int _ _ _ _)
  rw [e1, e2, lexAt_lexI ns ms 0 (fun j => by rw [Nat.zero_add]) (fun j => by rw [Nat.zero_add])] at R
  exact R prog w E Q h
theorem tt_cmp {vs : List Value} {ks : Value → List Int × Int} (hp : ∀ v ∈ vs, PairP s.heap v (ks v).1 (ks v).2) (hn : ∀ v ∈ vs, ∀ u ∈ vs, (ks v).1 = (ks u).1 → (ks v).2 = (ks u).2) (hu : A.units < cLine) :
    SrtO.Cmp prog w A s (tuples' false) (fun p => p.1 ∈ vs) (SrtO.lt2 fun v u => lexI (ks v).1 (ks u).1) := by
  intro p q hm hm'
  have h1 := hp _ hm
  have h2 := hp _ hm'
  have h3 := hn _ hm _ hm'
  show wpAny (model prog w) A (keyLt' (tuples' false) p.1 q.1) (fun r s' => s' = s ∧ r = lexI (ks p.1).1 (ks q.1).1) (fun _ _ => False) s
  generalize (ks p.1).1 = x at h1 h3 ⊢
  generalize (ks p.1).2 = y at h1 h3 ⊢
  generalize (ks q.1).1 = x' at h2 h3 ⊢
  generalize (ks q.1).2 = y' at h2 h3 ⊢
  obtain ⟨a, b, t, us, e, ha, hb, hv⟩ := h1
  obtain ⟨a', b', t', us', e', ha', hb', hv'⟩ := h2
  obtain ⟨o, ho, hc, n, hd⟩ := ha
  obtain ⟨o', ho', hc', n', hd'⟩ := ha'
  rw [e, e']
  refine PySem.W.kat_lt ho hd ho' hd' ?_
  show PySem.W.KatLex prog w A false (decide (2 < 2)) _ [(.ref b, .ref b'), (.int y t, .int y' t')] 0 s
  refine PySem.W.kat_cons (wpAny_eqBool_tuple hu (int_key hb hv) (int_key hb' hv') ?_)
  refine PySem.W.kat_go (fun e1 => ?_) (fun e1 => ?_)
  · have ex : x = x' := inl_inj (of_decide_eq_true e1)
    have ey := h3 ex
    subst ex ey
    refine PySem.W.kat_yes (PySem.W.kat_cons (SeqAt.EqAt.int_int y t y t' prog w _ _ ?_))
    refine PySem.W.kat_go (fun _ => ?_) (fun e2 => absurd e2 (by simp))
    have irr : lexI x x = false := by
      cases q : lexI x x with
      | false => rfl
      | true => exact absurd (lexI_asym x x q) (by rw [q]; decide)
    exact PySem.W.kat_yes (PySem.W.kat_nil ⟨rfl, irr.symm⟩)
  · refine PySem.W.kat_no ?_
    show wpAny _ _ (oneLt' false _ _) _ _ _
    exact PySem.W.kat_one _ _ (lt_ints hb hb' hv hv' hu ⟨rfl, rfl⟩)
theorem tt_firsts {h : Heap} : ∀ {vs : List Value}, (∀ v ∈ vs, ∃ ns i, PairP h v ns i) → ∃ fs : List Value, PySem.W.KatTups h vs fs ∧ fs.length = vs.length ∧ ∀ f ∈ fs, ∃ (q : Addr) (o : Obj), f = Value.ref q ∧ h.get? q = some o ∧ o.cls = .type "tuple"
  | [], _ => ⟨[], PySem.W.KatTups.nil, rfl, fun _ hm => by simp at hm⟩
  | v :: vs, hp => by
    obtain ⟨fs, h1, h2, h3⟩ := tt_firsts (vs := vs) fun v' hm => hp v' (List.mem_cons_of_mem _ hm)
    obtain ⟨ns, i, a, b, t, us, rfl, ⟨o, ho, hc, n, hd⟩, ⟨o2, ho2, hc2, _⟩, _⟩ := hp v List.mem_cons_self
    refine ⟨.ref b :: fs, PySem.W.KatTups.cons ho hc hd rfl h1, by rw [List.length_cons, List.length_cons, h2], fun f hm => ?_⟩
    rcases List.mem_cons.mp hm with rfl | hm
    · exact ⟨b, o2, rfl, ho2, hc2⟩
    · exact h3 f hm
theorem tt_sortable {a : Addr} {vs : List Value} {ks : Value → List Int × Int} (h0 : 0 < vs.length) (hp : ∀ v ∈ vs, PairP s.heap v (ks v).1 (ks v).2) (hn : ∀ v ∈ vs, ∀ u ∈ vs, (ks v).1 = (ks u).1 → (ks v).2 = (ks u).2) (hu : A.units < cLine) (ha : ∀ o, s.heap.get? a = some o → o.cls ≠ .type "tuple") :
    SrtO.SortableO prog w A s a vs fun v u => lexI (ks v).1 (ks u).1 := by
  intro h' keep
  have hp' : ∀ v ∈ vs, PairP h' v (ks v).1 (ks v).2 := fun v hm => (hp v hm).keeps fun b o e c => keep b o (fun z => by subst z; exact ha o e c) e
  obtain ⟨fs, h1, h2, h3⟩ := tt_firsts fun v hm => ⟨_, _, hp' v hm⟩
  refine ⟨tuples' false, fun Q E hq => ?_, tt_cmp (s := { s with heap := h' }) hp' hn hu⟩
  refine PySem.W.kat_kind (T := .type "tuple") h1 (by omega) (fun f hm => ?_) (by rfl) ?_
  · obtain ⟨q, o, rfl, ho, hc⟩ := h3 f hm
    have z : PySem.W.Looks (model prog w) h' (typeOf (.ref q)) o.cls := (PySem.W.Looks.ld ho).andThen .now
    rw [hc] at z
    exact z
  · have hb : (Value.type "tuple" != Value.type "tuple") = false := by first | rfl | decide | simp
    rw [hb]
    exact hq
end
theorem swo_key (k : Value → List Int) : SrtO.Swo fun v u => lexI (k v) (k u) := ⟨fun x y => lexI_asym _ _, fun x y z => lexI_tr _ _ _⟩
abbrev PR := Addr × List Int × Int
abbrev rq (p : PR) : V := V.ref p.1
abbrev rqv (p : PR) : Value := Value.ref p.1
theorem rq_in : ∀ {ks : List PR} {us : List Value}, Vals (ks.map rq) us → us = ks.map rqv
  | [], _, .nil => rfl
  | p :: ks, _, .cons r t => by
    cases r
    rw [rq_in t] <;> rfl
theorem rq_out : ∀ (ks : List PR), Vals (ks.map rq) (ks.map rqv)
  | [] => .nil
  | p :: ks => .cons rfl (rq_out ks)
def rSortedP (K : PySem.W.Frag) : List V → Hp → VK → Prop := fun vs H Q => ∃ (a : Addr) (ks : List PR), vs = [V.ref a] ∧ SqL K H a (ks.map rq) ∧ (∀ p ∈ ks, ∃ b, SqT K H p.1 [V.ref b, V.int p.2.2] ∧ SqT K H b (p.2.1.map V.int)) ∧
  (∀ p ∈ ks, ∀ q ∈ ks, p.2.1 = q.2.1 → p.2.2 = q.2.2) ∧
  ∀ (L : List PR) (p : Addr), L.Perm ks → L.Pairwise (fun q r => lexI r.2.1 q.2.1 = false) → H p = none → Q (.ref p) (upd H p (.lst (L.map rq)))
theorem cr_sortedP {X : Cx} (hu : X.A.units + 2 < cLine) : CallR X (.builtin "sorted") (rSortedP X.K) := by
  intro pins s σ H vs us Q I r h
  obtain ⟨a, ks, rfl, hs, hk, hd, q⟩ := h
  obtain ⟨its, rv, hl, hz⟩ := I.list hs
  rw [Vals.ref1 r]
  cases rq_in rv
  have key : ∀ p ∈ ks, PairP s.heap (rqv p) p.2.1 p.2.2 := fun p hp => by
    obtain ⟨b, h1, h2⟩ := hk p hp
    obtain ⟨us, ru, hp1, _⟩ := I.tuple h1
    obtain ⟨us2, ru2, hp2, _⟩ := I.tuple h2
    obtain ⟨u1, u2, rfl, r1, r2⟩ := vals2 ru
    cases r1
    obtain ⟨tk, rfl⟩ := r2
    exact ⟨_, b, tk, us2, rfl, hp1, hp2, ru2⟩
  have kk : ∀ p ∈ ks, keyP s.heap (rqv p) = p.2.1 := fun p hp => (key p hp).key
  let kf : Value → List Int × Int := fun v => (keyP s.heap v, ((ks.find? fun p => decide (rqv p = v)).map fun p => p.2.2).getD 0)
  have kf2 : ∀ p ∈ ks, kf (rqv p) = p.2 := fun p hp => by
    have e1 : (kf (rqv p)).1 = p.2.1 := kk p hp
    cases hf : ks.find? fun q => decide (rqv q = rqv p) with
    | none => exact absurd (List.find?_eq_none.mp hf p hp) (by simp)
    | some z =>
      have hz1 := List.mem_of_find?_eq_some hf
      have hz2 : rqv z = rqv p := of_decide_eq_true (List.find?_some (p := fun q => decide (rqv q = rqv p)) hf)
      have e2 : (kf (rqv p)).2 = z.2.2 := by show ((ks.find? fun q => decide (rqv q = rqv p)).map _).getD 0 = _; rw [hf]; rfl
      have e3 : z.2.1 = p.2.1 := by rw [← kk z hz1, ← kk p hp, hz2]
      have e4 := hd z hz1 p hp e3
      rw [e4] at e2
      exact Prod.ext e1 e2
  refine SrtO.sorted_ord (swo_key fun v => (kf v).1) hl.isList (by simpa using hz) (fun h2 h₁ a' ha' keep => ?_) fun out ho hb => ?_
  · refine tt_sortable (s := { s with heap := h₁ }) (ks := kf) (by omega) (fun v hv => ?_) (fun v hv u hu' e => ?_) (by show X.A.units + 1 + 1 < cLine; omega) fun o e => ?_
    · obtain ⟨p, hp, rfl⟩ := List.mem_map.mp hv
      rw [kf2 p hp]
      exact (key p hp).keeps fun b o e _ => (keep b o e).2
    · obtain ⟨p, hp, rfl⟩ := List.mem_map.mp hv
      obtain ⟨p', hp', rfl⟩ := List.mem_map.mp hu'
      rw [kf2 p hp, kf2 p' hp'] at e ⊢
      exact hd p hp p' hp' e
    · have e' : some o = some (seqObj "list" (ks.map rqv).toArray 0) := e.symm.trans ha'
      cases e'
      intro c
      exact absurd (Value.type.inj c) (by decide)
  · obtain ⟨L, l1, l2⟩ := perm_lift rqv hb.perm ks rfl
    have pw : L.Pairwise (fun q r => lexI r.2.1 q.2.1 = false) := by
      have : (L.map rqv).Pairwise fun x y => lexI (kf y).1 (kf x).1 = false := by rw [l2]; exact ho
      rw [List.pairwise_map] at this
      refine this.imp_of_mem fun {x y} hx hy h => ?_
      rw [kf2 x (l1.mem_iff.mp hx), kf2 y (l1.mem_iff.mp hy)] at h
      exact h
    obtain ⟨ep, he'⟩ := sortedAll_at s.heap (ks.map rqv) out.toArray
    have len : (L.map rq).length ≤ sizeLine := by
      rw [List.length_map, l1.length_eq]; simpa using hz
    have hv : Vals (L.map rq) out.toArray.toList := by rw [← l2]; exact rq_out L
    exact ⟨.ref _, upd H (s.heap.objs.size + 1) (.lst (L.map rq)), I.laid (t' := s.toks) (fun _ _ => sortedAll_old) (Nat.le_succ _) ⟨len, _, ep, hv, he'⟩, rfl, q L _ l1 pw (I.hok.fresh (Nat.le_succ _))⟩
def prI (p : List Int × Int) : D := .tup [tupI p.1, .int p.2]
def gSortedP : List D → (D → Prop) → Prop := fun ds k => ∃ xs : List (List Int × Int), ds = [.lst (xs.map prI)] ∧ (∀ p ∈ xs, ∀ q ∈ xs, p.1 = q.1 → p.2 = q.2) ∧ ∀ ys : List (List Int × Int), ys.Perm xs → ys.Pairwise (fun q r => lexI r.1 q.1 = false) → k (.lst (ys.map prI))
theorem prs_of {z : Zn} {M : AP} {H : Hp} : ∀ {xs : List (List Int × Int)} {vs : List V}, IsA z M H vs (xs.map prI) → ∃ ks : List PR, vs = ks.map rq ∧ ks.map (·.2) = xs ∧ ∀ p ∈ ks, ∃ b, (H p.1 = some (.tup [V.ref b, V.int p.2.2]) ∧ ¬ M p.1) ∧ H b = some (.tup (p.2.1.map V.int)) ∧ ¬ M b
  | [], _, .nil => ⟨[], rfl, rfl, fun _ h => nomatch h⟩
  | x :: xs, _, .cons q t => by
    obtain ⟨ks, h1, h2, h3⟩ := prs_of t
    cases (show Is z M H _ (.tup [tupI x.1, .int x.2]) from q) with
    | tup e n r =>
      obtain ⟨v, u, rfl, hv, hu⟩ := r.two
      cases hu
      cases (show Is z M H _ (.tup (x.1.map D.int)) from hv) with
      | tup e2 n2 r2 =>
        refine ⟨(_, x) :: ks, by rw [List.map_cons, h1], by rw [List.map_cons, h2], fun p hp => ?_⟩
        rcases List.mem_cons.mp hp with rfl | hp
        · exact ⟨_, ⟨e, n⟩, by rw [e2, r2.ints], n2⟩
        · exact h3 p hp
theorem prs_to {z : Zn} {M : AP} {H : Hp} : ∀ {ks : List PR}, (∀ p ∈ ks, ∃ b, (H p.1 = some (.tup [V.ref b, V.int p.2.2]) ∧ ¬ M p.1) ∧ H b = some (.tup (p.2.1.map V.int)) ∧ ¬ M b) → IsA z M H (ks.map rq) ((ks.map (·.2)).map prI)
  | [], _ => .nil
  | p :: ks, h => by
    obtain ⟨b, ⟨h1, h2⟩, h3, h4⟩ := h p List.mem_cons_self
    exact .cons (.tup h1 h2 (.cons (.tup h3 h4 (IsA.ofInts _)) (.cons (.int _) .nil))) (prs_to fun u hu => h u (List.mem_cons_of_mem _ hu))
theorem cd_sortedP {K : PySem.W.Frag} : CallD true .f (rSortedP K) gSortedP := fun z X H0 H σ env vs ds Q k o h c hp => by
  obtain ⟨xs, rfl, hne, hk⟩ := hp
  obtain ⟨v, rfl, hv⟩ := h.one
  cases hv with
  | lst e n r =>
    obtain ⟨ks, rfl, h2, h3⟩ := prs_of r
    refine ⟨_, ks, rfl, SqL.of e, fun p hp => ?_, fun p hp q hq => hne _ (by rw [← h2]; exact List.mem_map.mpr ⟨p, hp, rfl⟩) _ (by rw [← h2]; exact List.mem_map.mpr ⟨q, hq, rfl⟩), fun L p l1 l2 hq => ?_⟩
    · obtain ⟨b, h5, h6⟩ := h3 p hp
      exact ⟨b, SqT.of h5.1, SqT.of h6.1⟩
    · have e2 : (L.map (·.2)).Perm xs := by rw [← h2]; exact l1.map _
      refine c _ _ _ ((Evo.refl _ _).new hq) (Rel.newL hq hq ?_) (hk (L.map (·.2)) e2 (List.pairwise_map.mpr l2))
      rw [if_pos rfl] at h3
      exact prs_to fun u hu => h3 u (l1.mem_iff.mp hu)
theorem gSortedP_i {xs : List (List Int × Int)} {k : D → Prop} (h1 : ∀ p ∈ xs, ∀ q ∈ xs, p.1 = q.1 → p.2 = q.2) (h2 : ∀ ys : List (List Int × Int), ys.Perm xs → ys.Pairwise (fun q r => lexI r.1 q.1 = false) → k (.lst (ys.map prI))) : gSortedP [.lst (xs.map prI)] k := ⟨xs, rfl, h1, h2⟩
theorem hu2 {A : Around} {k : Nat} (hr : Room k A) : A.units + 2 < cLine := by have := hr.un; omega
end Pu
/-! list(d), d an owned dict by whole numbers: its keys, a new list -/
namespace Pu
open PySem PySem.Spec PyProof.Rows L2
section
variable [Tbs] {C : Cx} {e : Expr} {p : PX} {pos pp : Pos} {x : Str}
theorem IsK.keys {z : Zn} {M : AP} {H : Hp} : ∀ {vs : List (Key × V)} {kvs : List (Key × D)}, IsK z M H vs kvs → vs.map (·.1) = kvs.map (·.1)
  | _, _, .nil => rfl
  | _, _, .cons _ t => by rw [List.map_cons, List.map_cons, IsK.keys t]
end
end Pu
/-! min() of data that are alike; sorted(xs, key=len), xs tuples of whole numbers -/
namespace Pu
open PySem PySem.Spec PyProof.Rows L2
section
variable [Tbs]
theorem vals_ix : ∀ {us : List V} {its : List Value} {i : Nat} {v : Value}, Vals us its → its[i]? = some v → ∃ u, us[i]? = some u ∧ RelV u v
  | _, _, 0, _, .cons (a := u) h t, e => ⟨u, rfl, by cases e; exact h⟩
  | _, _, i + 1, _, .cons h t, e => by
    obtain ⟨u, h1, h2⟩ := vals_ix t (by simpa using e)
    exact ⟨u, by simpa using h1, h2⟩
def rMinD (K : PySem.W.Frag) : List V → Hp → VK → Prop := fun vs H Q => ∃ (a : Addr) (us : List V) (x : PyData) (xs : List PyData), vs = [V.ref a] ∧ SqL K H a us ∧ DpAll K H us (x :: xs) ∧ PySem.W.AlikeAll (x :: xs) ∧ PyData.depthAll (x :: xs) ≤ 61 ∧
  ∀ (i : Nat) (u : V) (d : PyData), us[i]? = some u → (x :: xs)[i]? = some d → d = PySem.W.minD x xs → Q u H
theorem cr_minD {X : Cx} (hc : X.calm = true) (hu : X.A.units + 65 < cLine) : CallR X (.builtin "min") (rMinD X.K) := by
  intro pins s σ H vs us Q I r h
  obtain ⟨a, us', x, xs, rfl, hs, hd, hal, hdp, q⟩ := h
  obtain ⟨its, rv, hl, _⟩ := I.list hs
  rw [Vals.ref1 r]
  obtain ⟨as, ra⟩ := Dp.readsAll I _ _ _ hd rv
  refine PySem.W.min_list_data (I.ok.hd hc) hl.isList (by simpa using ra) hal (by omega) fun i v h' tk bs hv hr hk => ?_
  obtain ⟨u, h1, h2⟩ := vals_ix rv (by simpa using hv)
  obtain ⟨bs2, r2, hi, hm, _⟩ := PySem.W.readsAll_at ra i v (by simpa using hv)
  have e : (x :: xs).getD i .none = PySem.W.minD x xs := by
    have r3 : Reads h' v ((x :: xs).getD i .none) bs2 := Reads.keeps hk r2
    have mm : PySem.W.minD x xs ∈ x :: xs := by
      unfold PySem.W.minD
      have : ∀ (xs : List PyData) (x : PyData), xs.foldl (fun a y => if PySem.W.dataLt y a then y else a) x ∈ x :: xs := by
        intro xs
        induction xs with
        | nil => intro x; exact List.mem_cons_self
        | cons y ys ih =>
          intro x
          rw [List.foldl_cons]
          have := ih (if PySem.W.dataLt y x then y else x)
          rcases List.mem_cons.mp this with w | w
          · rw [w]
            split
            · exact List.mem_cons_of_mem _ List.mem_cons_self
            · exact List.mem_cons_self
          · exact List.mem_cons_of_mem _ (List.mem_cons_of_mem _ w)
      exact this xs x
    exact PySem.W.alike_unique _ _ v bs2 bs (hal.1 _ hm _ mm) r3 hr
  exact ⟨u, H, I.kept hk, h2, q i u _ h1 (by rw [List.getD_eq_getElem?_getD, List.getElem?_eq_getElem hi]; rfl) e⟩
/-! triples: a number and two tuples of numbers -/
abbrev tri (t : Int × List Int × List Int) : D := .tup [.int t.1, tupI t.2.1, tupI t.2.2]
theorem pdA_map : ∀ xs : List D, pdA xs = xs.map pd
  | [] => rfl
  | x :: xs => by rw [List.map_cons, ← pdA_map xs]; rfl
theorem shp_tri (t : Int × List Int × List Int) {n : Nat} : shp (n + 3) (tri t) = true := by
  have h : ∀ (ns : List Int) (m : Nat), shpA m (ns.map D.int) = true := fun ns m => by
    induction ns with
    | nil => rfl
    | cons a ns ih => simp only [List.map_cons, shpA, shp, ih, Bool.and_true]
  simp [shp, shpA, tri, tupI, h]
theorem alike_intsA : ∀ a b : List Int, PySem.W.alikeAll (pdA (a.map D.int)) (pdA (b.map D.int)) = true
  | [], _ => by simp [pdA, PySem.W.alikeAll]
  | _ :: _, [] => by simp [pdA, PySem.W.alikeAll]
  | x :: a, y :: b => by
    simp only [List.map_cons, pdA, pd, PySem.W.alikeAll, PySem.W.alike, Bool.true_and]
    exact alike_intsA a b
theorem alike_tri (t u : Int × List Int × List Int) : PySem.W.alike (pd (tri t)) (pd (tri u)) = true := by
  simp [tri, tupI, pd, pdA, PySem.W.alike, PySem.W.alikeAll, alike_intsA]
theorem lt_tri (t u : Int × List Int × List Int) : (PySem.W.dataLt (pd (tri t)) (pd (tri u)) = true → t.1 ≤ u.1) ∧ (PySem.W.dataLt (pd (tri t)) (pd (tri u)) = false → u.1 ≤ t.1) := by
  have e : PySem.W.dataLt (pd (tri t)) (pd (tri u)) = PyProof.Rows.lexLt PyProof.Rows.itemOrd (PySem.W.keyToksAll (.int t.1 :: pdA [tupI t.2.1, tupI t.2.2])) (PySem.W.keyToksAll (.int u.1 :: pdA [tupI u.2.1, tupI u.2.2])) := PySem.W.dataLt_tuple _ _
  by_cases q : t.1 = u.1
  · exact ⟨fun _ => by omega, fun _ => by omega⟩
  · have ne : PyData.eqv (.int t.1) (.int u.1) = false := by
      simp [PyData.eqv, q]
    rw [e, PySem.W.dataLt_all_no rfl ne, PySem.W.dataLt_int]
    refine ⟨fun h => ?_, fun h => ?_⟩
    · have := of_decide_eq_true h
      omega
    · have := of_decide_eq_false h
      omega
/-- the first of the least, as Python orders them -/
def minTri : (Int × List Int × List Int) → List (Int × List Int × List Int) → Int × List Int × List Int
  | t, [] => t
  | t, s :: ts => minTri (if PySem.W.dataLt (pd (tri s)) (pd (tri t)) = true then s else t) ts
theorem minTri_mem : ∀ (ts : List (Int × List Int × List Int)) (t : Int × List Int × List Int), minTri t ts ∈ t :: ts
  | [], t => List.mem_cons_self
  | s :: ts, t => by
    unfold minTri
    rcases List.mem_cons.mp (minTri_mem ts (if PySem.W.dataLt (pd (tri s)) (pd (tri t)) = true then s else t)) with w | w
    · rw [w]
      split
      · exact List.mem_cons_of_mem _ List.mem_cons_self
      · exact List.mem_cons_self
    · exact List.mem_cons_of_mem _ (List.mem_cons_of_mem _ w)
theorem minTri_le : ∀ (ts : List (Int × List Int × List Int)) (t : Int × List Int × List Int), ∀ v ∈ t :: ts, (minTri t ts).1 ≤ v.1
  | [], t, v, hv => by rw [List.mem_singleton.mp hv]; exact Int.le_refl _
  | s :: ts, t, v, hv => by
    obtain ⟨a, b⟩ := lt_tri s t
    unfold minTri
    cases q : PySem.W.dataLt (pd (tri s)) (pd (tri t)) with
    | true =>
      rw [if_pos rfl]
      have h3 := minTri_le ts s
      have := a q
      rcases List.mem_cons.mp hv with w | w
      · have := h3 s List.mem_cons_self
        rw [w]
        omega
      · exact h3 v w
    | false =>
      rw [if_neg Bool.false_ne_true]
      have h3 := minTri_le ts t
      have := b q
      rcases List.mem_cons.mp hv with w | w
      · rw [w]; exact h3 t List.mem_cons_self
      · rcases List.mem_cons.mp w with w | w
        · have := h3 t List.mem_cons_self
          rw [w]
          omega
        · exact h3 v (List.mem_cons_of_mem _ w)
theorem min_tri : ∀ (ts : List (Int × List Int × List Int)) (t : Int × List Int × List Int), PySem.W.minD (pd (tri t)) (ts.map fun t => pd (tri t)) = pd (tri (minTri t ts))
  | [], t => rfl
  | s :: ts, t => by
    have e : PySem.W.minD (pd (tri t)) ((s :: ts).map fun t => pd (tri t)) = PySem.W.minD (if PySem.W.dataLt (pd (tri s)) (pd (tri t)) = true then pd (tri s) else pd (tri t)) (ts.map fun t => pd (tri t)) := rfl
    unfold minTri
    rw [e, ← min_tri ts]
    congr 1
    split <;> rfl
def gMinT : List D → (D → Prop) → Prop := fun ds k => ∃ (t : Int × List Int × List Int) (ts : List (Int × List Int × List Int)), ds = [.lst ((t :: ts).map tri)] ∧ k (tri (minTri t ts))
theorem pd_tri {t u : Int × List Int × List Int} (h : pd (tri t) = pd (tri u)) : t = u := by
  have hi : ∀ a b : List Int, pdA (a.map D.int) = pdA (b.map D.int) → a = b := fun a => by
    induction a with
    | nil => intro b h; cases b with
      | nil => rfl
      | cons y b => simp [pdA] at h
    | cons x a ih => intro b h; cases b with
      | nil => simp [pdA] at h
      | cons y b =>
        simp only [List.map_cons, pdA, pd, List.cons.injEq, PyData.int.injEq] at h
        rw [h.1, ih b h.2]
  obtain ⟨a, b, c⟩ := t
  obtain ⟨a', b', c'⟩ := u
  simp only [tri, tupI, pd, pdA, PyData.tuple.injEq, List.cons.injEq, PyData.int.injEq, and_true] at h
  rw [h.1, hi b b' h.2.1, hi c c' h.2.2]
theorem cd_minT {K : PySem.W.Frag} : CallD true .e (rMinD K) gMinT := fun z X H0 H σ env vs ds Q k o h c hp => by
  obtain ⟨t, ts, rfl, hk⟩ := hp
  obtain ⟨v, rfl, hv⟩ := h.one
  cases hv with
  | lst e n r =>
    have hs : ∀ ts : List (Int × List Int × List Int), shpA 3 (ts.map tri) = true := fun ts => by
      induction ts with
      | nil => rfl
      | cons t ts ih => simp only [List.map_cons, shpA, shp_tri (n := 0), ih, Bool.and_self]
    have hs0 := hs (t :: ts)
    have lay := shp_layA 3 _ hs0
    have e1 : pdA ((t :: ts).map tri) = pd (tri t) :: ts.map fun t => pd (tri t) := by rw [pdA_map, List.map_map]; rfl
    rw [e1] at lay
    have dp := r.dp (K := K) hs0
    rw [e1] at dp
    refine ⟨_, _, _, _, rfl, SqL.of e, dp, ⟨fun x hx y hy => ?_, fun x hx => ?_⟩, by omega, fun i u d hu hd he => ?_⟩
    · rw [← List.map_cons (f := fun t => pd (tri t))] at hx hy
      obtain ⟨a, _, rfl⟩ := List.mem_map.mp hx
      obtain ⟨b, _, rfl⟩ := List.mem_map.mp hy
      exact alike_tri a b
    · rw [← List.map_cons (f := fun t => pd (tri t))] at hx
      obtain ⟨a, _, rfl⟩ := List.mem_map.mp hx
      simp [pd, tri]
    · rw [← List.map_cons (f := fun t => pd (tri t)), List.getElem?_map] at hd
      obtain ⟨x, hx, rfl⟩ := Option.map_eq_some_iff.mp hd
      rw [min_tri] at he
      have := pd_tri he
      subst this
      obtain ⟨w, hw, iw⟩ := IsA.get r (i := i) (d := tri (minTri t ts)) (by rw [List.getElem?_map, hx]; rfl)
      rw [hu] at hw
      cases hw
      rw [if_pos rfl] at iw
      exact c (tri (minTri t ts)) u H (Evo.refl _ _) iw hk
theorem gMinT_i {t : Int × List Int × List Int} {ts : List (Int × List Int × List Int)} {k : D → Prop} (h : k (tri (minTri t ts))) : gMinT [.lst ((t :: ts).map tri)] k := ⟨t, ts, rfl, h⟩
/-! sorted(xs, key=len) -/
def rSortLen (K : PySem.W.Frag) : List V → Hp → VK → Prop := fun vs H Q => ∃ (a : Addr) (ks : List (Addr × List Int)), vs = [V.ref a] ∧ SqL K H a (ks.map rf) ∧ (∀ p ∈ ks, SqT K H p.1 (p.2.map V.int)) ∧
  ∀ (L : List (Addr × List Int)) (p : Addr), L.Perm ks → L.Pairwise (fun q r => q.2.length ≤ r.2.length) → H p = none → Q (.ref p) (upd H p (.lst (L.map rf)))
theorem each_rf : ∀ ks : List (Addr × List Int), PySem.W.EachIs (fun (v : Value) (p : Addr × List Int) => v = Value.ref p.1) (ks.map rfv) ks
  | [] => .nil
  | p :: ks => .cons rfl (each_rf ks)
theorem each_out : ∀ {out : List Value} {L : List (Addr × List Int)}, PySem.W.EachIs (fun (v : Value) (p : Addr × List Int) => v = Value.ref p.1) out L → Vals (L.map rf) out
  | _, _, .nil => .nil
  | _, _, .cons h t => .cons h (each_out t)
theorem cr_sortLen {X : Cx} (hc : X.calm = true) (hu : X.A.units + 65 < cLine) {pins : List (Addr × Obj)} {s : Shared} {σ : L2.St} {H : Hp} {v : V} {u : Value} {Q : VK} (I : L2.Inv X pins σ H s) (r : RelV v u) (h : rSortLen X.K [v] H Q) :
    wpAny (model X.prog X.w) X.A (call (.builtin "sorted") [u] [(Str.ofString "key", .builtin "len")]) (EP X pins σ Q) X.xe s := by
  obtain ⟨a, ks, ev, hs, hk, q⟩ := h
  cases ev
  obtain ⟨its, rv, hl, hz⟩ := I.list hs
  cases (show u = Value.ref a from r)
  cases refs_in rv
  have hz' : ks.length ≤ sizeLine := by simpa using hz
  refine PySem.W.sorted_key_data (vs := ks.map rfv) (R := fun (v : Value) (p : Addr × List Int) => v = Value.ref p.1) (bs := ks) (b := false) (fun p => .int (p.2.length : Nat)) hl.isList (each_rf ks) (fun d hd d' hd' => ?_) (.inr fun d hd => ?_) hz' (fun x _ => ?_) (PyProof.Rows.ksk_s1 _ _) (fun _ => PyProof.Rows.ksk_l1 _ _) (fun _ => PyProof.Rows.ksk_t4 _ _) (fun w x hw hx hp tk hkp => ?_) fun out c h' tk hkp hn hg hlen he => ?_
  · obtain ⟨x, _, rfl⟩ := List.mem_map.mp hd
    obtain ⟨y, _, rfl⟩ := List.mem_map.mp hd'
    rfl
  · obtain ⟨x, _, rfl⟩ := List.mem_map.mp hd
    exact ⟨nofun, nofun⟩
  · show X.A.units + 2 + 0 < _
    omega
  · subst hw
    obtain ⟨its', r', pl, hz2⟩ := I.tuple (hk x hx)
    have hn := line63
    have hlen := r'.length
    rw [List.length_map] at hlen hz2
    refine len_tuple (s := { s with heap := hp, toks := tk }) (pl.keeps hkp) (by simp only [List.size_toArray] <;> omega) ?_
    refine ⟨hp, _, rfl, fun _ _ e => e, ?_⟩
    rw [List.size_toArray, ← hlen]
    exact .int _ _
  · have e2 : (ks.mergeSort (PySem.W.dataLe false fun p : Addr × List Int => PyData.int (p.2.length : Nat))) = ks.mergeSort fun a b => decide ((a.2.length : Int) ≤ (b.2.length : Int)) := by rw [PySem.W.dataLe_int (fun p : Addr × List Int => (p.2.length : Int))]
    rw [e2] at he
    have pm := List.mergeSort_perm ks fun a b => decide ((a.2.length : Int) ≤ (b.2.length : Int))
    have so := List.pairwise_mergeSort (le := fun a b : Addr × List Int => decide ((a.2.length : Int) ≤ (b.2.length : Int))) (fun a b c h1 h2 => by simp only [decide_eq_true_eq] at h1 h2 ⊢; omega) (fun a b => by simp only [Bool.or_eq_true, decide_eq_true_eq]; omega) ks
    refine ⟨.ref _, _, I.laid (t' := tk) (o := .lst ((ks.mergeSort fun a b => decide ((a.2.length : Int) ≤ (b.2.length : Int))).map rf)) hkp (Nat.le_succ _) ?_, rfl, q _ _ pm (so.imp fun h => by simp only [decide_eq_true_eq] at h; omega) (I.hok.fresh (Nat.le_succ _))⟩
    exact ⟨by rw [List.length_map, pm.length_eq]; exact hz', out, c, each_out he, hg⟩
theorem pe_sortLen {X : Cx} {e : Expr} {t : TE} {x y : Str} {p p2 kp pos : Pos} (hc : X.calm = true) (hu : X.A.units + 65 < cLine) (ht : PE X e t) (hg : Gl X x) (hm : X.mg x = none) (hv : bootBuiltins x = some (.builtin "sorted")) (hg2 : Gl X y) (hm2 : X.mg y = none) (hv2 : bootBuiltins y = some (.builtin "len"))
    (hn : x ≠ "__name__" := by decide) (hdb : (x == ("__debug__" : Str)) = false := by decide) (hn2 : y ≠ "__name__" := by decide) (hdb2 : (y == ("__debug__" : Str)) = false := by decide)
    (he2 : starEach [e] X.env = (false, eval e X.env) :: starEach [] X.env := by rfl) (he : backTo pos (starEach [e] X.env) = (false, eval e X.env) :: backTo pos (starEach [] X.env) := by rfl) (hpl : (backTo pos (starEach [e] X.env)).any (·.1) = false := by rfl)
    (hall : (backToKw pos (keywordEach [⟨some (Str.ofString "key"), .Name y p2, kp⟩] X.env)).all (·.1.isSome) = true := by rfl) (hnone : (backToKw pos (keywordEach [⟨some (Str.ofString "key"), .Name y p2, kp⟩] X.env)).any (·.1.isNone) = false := by rfl) :
    PE X (.Call (.Name x p) [e] [⟨some (Str.ofString "key"), .Name y p2, kp⟩] pos) (fun σ H Q => t σ H fun v H1 => rSortLen X.K [v] H1 Q) := by
  refine ⟨fun pins s σ H Q I h => ?_⟩
  refine wpAny_Call_Name_kw (ld_blt I hg hm hv ?_ hn hdb)
  refine PyProof.Rows.callWith_kw (thn ((pa_cons ht pa_nil he2 : PA X [e] (tCons t tNil)).run pos pins s σ H (fun vs H1 => rSortLen X.K vs H1 Q) I h) fun us s1 ⟨vs, H1, I1, r1, q1⟩ => ?_) he hpl hall hnone
  · obtain ⟨a, ks, rfl, q1⟩ := q1
    obtain ⟨u, rfl, r⟩ := vals1 r1
    show wpAny _ _ (evalAll ((do let v ← eval (.Name y p2) X.env; standAt pos; pure v) :: [])) _ _ s1
    refine wpAny_evalAll_cons (wpAny_bind (ld_blt I1 hg2 hm2 hv2 (wpAny_bind (wpAny_standAt (wpAny_pure (wpAny_evalAll_nil ?_)))) hn2 hdb2))
    exact cr_sortLen hc hu I1 r ⟨a, ks, rfl, q1⟩
def gSortLen : D → (D → Prop) → Prop := fun d k => ∃ xs : List (List Int), d = .lst (xs.map tupI) ∧ ∀ ys : List (List Int), ys.Perm xs → ys.Pairwise (fun q r => q.length ≤ r.length) → k (.lst (ys.map tupI))
theorem e_sortLen {C : Cx} {e : Expr} {p : PX} {x y : Str} {pp p2 kp pos : Pos} (hc : C.calm = true) (hu : C.A.units + 65 < cLine) (h : E .e C e p) (hg : Gl C x) (hm : C.mg x = none) (hv : bootBuiltins x = some (.builtin "sorted")) (hg2 : Gl C y) (hm2 : C.mg y = none) (hv2 : bootBuiltins y = some (.builtin "len"))
    (hn : x ≠ "__name__" := by decide) (hdb : (x == ("__debug__" : Str)) = false := by decide) (hn2 : y ≠ "__name__" := by decide) (hdb2 : (y == ("__debug__" : Str)) = false := by decide)
    (he2 : starEach [e] C.env = (false, eval e C.env) :: starEach [] C.env := by rfl) (he : backTo pos (starEach [e] C.env) = (false, eval e C.env) :: backTo pos (starEach [] C.env) := by rfl) (hpl : (backTo pos (starEach [e] C.env)).any (·.1) = false := by rfl)
    (hall : (backToKw pos (keywordEach [⟨some (Str.ofString "key"), .Name y p2, kp⟩] C.env)).all (·.1.isSome) = true := by rfl) (hnone : (backToKw pos (keywordEach [⟨some (Str.ofString "key"), .Name y p2, kp⟩] C.env)).any (·.1.isNone) = false := by rfl) :
    E .f C (.Call (.Name x pp) [e] [⟨some (Str.ofString "key"), .Name y p2, kp⟩] pos) (eUn gSortLen p) := by
  obtain ⟨t, h1, h2⟩ := h
  refine ⟨_, pe_sortLen hc hu h1 hg hm hv hg2 hm2 hv2 hn hdb hn2 hdb2 he2 he hpl hall hnone, fun z X H0 H σ env Q k o c hp => h2 z X H0 H σ env _ _ o (fun d v H1 e1 r1 hx => ?_) hp⟩
  obtain ⟨xs, rfl, hk⟩ := hx
  cases (show Is z (Ms z X σ env) H1 v (.lst (xs.map tupI)) from r1) with
  | lst e n r =>
    obtain ⟨ks, rfl, h2, h3⟩ := tups_of r
    refine ⟨_, ks, rfl, SqL.of e, fun p hp => SqT.of (h3 p hp).1, fun L p l1 l2 hq => ?_⟩
    have e2 : (L.map (·.2)).Perm xs := by rw [← h2]; exact l1.map _
    exact c _ _ _ (e1.new hq) (Rel.newL (e1.fresh hq) hq (tups_to fun u hu => h3 u (l1.mem_iff.mp hu))) (hk (L.map (·.2)) e2 (List.pairwise_map.mpr l2))
theorem gSortLen_i {xs : List (List Int)} {k : D → Prop} (h : ∀ ys : List (List Int), ys.Perm xs → ys.Pairwise (fun q r => q.length ≤ r.length) → k (.lst (ys.map tupI))) : gSortLen (.lst (xs.map tupI)) k := ⟨xs, rfl, h⟩
end
end Pu
/-! an expression that is told while an owned dict is locked -/
namespace Pu
open PySem PySem.Spec PyProof.Rows L2
variable [Tbs]
section
variable {z : Zn} {M M' : AP} {H H' : Hp}
mutual
theorem Is.unl (h1 : ∀ b o, H b = some o → ¬ M b → (∀ od w, o ≠ .frz od w) → H' b = some o ∧ ¬ M' b) : ∀ {v : V} {d : D} (n : Nat), Is z M H v d → shp n d = true → Is z M' H' v d
  | _, _, _, .non, _ => .non
  | _, _, _, .bl b, _ => .bl b
  | _, _, _, .int i, _ => .int i
  | _, _, _, .str s, _ => .str s
  | _, _, _, .ty n, h => by simp [shp] at h
  | _, _, 0, .tup e n r, h => by simp [shp] at h
  | _, _, m + 1, .tup e n r, h => .tup (h1 _ _ e n (fun _ _ w => by cases w)).1 (h1 _ _ e n (fun _ _ w => by cases w)).2 (IsA.unl h1 m r (by simpa only [shp] using h))
  | _, _, 0, .lst e n r, h => by simp [shp] at h
  | _, _, m + 1, .lst e n r, h => .lst (h1 _ _ e n (fun _ _ w => by cases w)).1 (h1 _ _ e n (fun _ _ w => by cases w)).2 (IsA.unl h1 m r (by simpa only [shp] using h))
  | _, _, _, .dic _ _ _, h => by simp [shp] at h
  | _, _, _, .deck _, h => by simp [shp] at h
  | _, _, _, .dpr _ _, h => by simp [shp] at h
  | _, _, _, .dfz _ _, h => by simp [shp] at h
  | _, _, _, .st _ _ _, h => by simp [shp] at h
  | _, _, _, .bor _ _ _, h => by simp [shp] at h
  | _, _, _, .opq _, h => by simp [shp] at h
  | _, _, _, .dpd _ _ _ _, h => by simp [shp] at h
theorem IsA.unl (h1 : ∀ b o, H b = some o → ¬ M b → (∀ od w, o ≠ .frz od w) → H' b = some o ∧ ¬ M' b) : ∀ {v : List V} {d : List D} (n : Nat), IsA z M H v d → shpA n d = true → IsA z M' H' v d
  | _, _, _, .nil, _ => .nil
  | _, _, n, .cons q t, h => by
    simp only [shpA, Bool.and_eq_true] at h
    exact .cons (Is.unl h1 n q h.1) (IsA.unl h1 n t h.2)
end
end
section
variable {C : Cx} {e : Expr} {p : PX}
def pLock (i : Nat) (p : PX) : PX := fun env k => match env[i]? with
  | some (.own (.dic kvs)) => ∃ ds, kvs = zD ds ∧ p (env.set i (.val (.dfz ds))) fun d => shp 60 d = true ∧ k d
  | _ => False
theorem e_lock (i : Nat) (h : E .e C e p) : E .e C e (pLock i p) := by
  obtain ⟨t, h1, h2⟩ := h
  refine ⟨_, pe_lock h1, fun z X H0 H σ env Q k o c hp => ?_⟩
  unfold pLock at hp
  split at hp
  · rename_i kvs hd
    obtain ⟨ds, rfl, hp⟩ := hp
    obtain ⟨a, ha, ⟨vs, e, r⟩, hz, hx, h0⟩ := o.own i _ hd
    rw [isk_dz r] at e
    have hl : i < env.length := (List.getElem?_eq_some_iff.mp hd).1
    refine ⟨a, _, e, trivial, fun od => ?_⟩
    obtain ⟨o2, f2⟩ := o.fz (od := od) hd ha
    refine h2 z X H0 _ σ _ _ _ o2 (fun d v H2 e2 r2 hx2 => ?_) hp
    obtain ⟨hs, hk⟩ := hx2
    have hf : H2 a = some (.frz od (.dK (dzV ds))) := e2.old a _ upd_same hz
    refine ⟨hf, ?_⟩
    have ev : Evo z H (upd H2 a (.dK (dzV ds))) := by
      refine ⟨fun b u hb nz => ?_, fun b hb => ?_, fun b hb => ok_mut hz (e2.dk b (ok_mut hz hb)), fun ht => (e2.tab (ht.mut hz)).mut hz⟩
      · by_cases q : b = a
        · subst q
          rw [e] at hb
          rw [upd_same, hb]
        · rw [upd_ne q]
          exact e2.old b u (by rw [upd_ne q]; exact hb) nz
      · by_cases q : b = a
        · rw [q, upd_same]; intro w; cases w
        · rw [upd_ne q]
          exact e2.al b (by rw [upd_ne q]; exact hb)
    refine c d v _ ev (Is.unl (M := Ms z X σ (env.set i (.val (.dfz ds)))) (fun b u hb nm nf => ?_) 60 r2 hs) hk
    have ba : b ≠ a := fun q => by
      rw [q, hf] at hb
      exact nf _ _ (Option.some.inj hb).symm
    refine ⟨by rw [upd_ne ba]; exact hb, fun w => ?_⟩
    rcases w with w | w | ⟨j, d', w1, w2⟩
    · exact nm (.inl w)
    · exact nm (.inr (.inl w))
    · by_cases q : i = j
      · subst q
        rw [ha] at w2
        cases w2
        exact ba rfl
      · exact nm (.inr (.inr ⟨j, d', by rw [List.getElem?_set_ne q]; exact w1, w2⟩))
  · exact hp.elim
theorem pLock_i {i : Nat} {p : PX} {env : List SV} {k : D → Prop} {kvs : List (Key × D)} (e : env[i]? = some (.own (.dic kvs))) (ds : List (Int × Int)) (hk : kvs = zD ds) (h : p (env.set i (.val (.dfz ds))) fun d => shp 60 d = true ∧ k d) : pLock i p env k := by
  unfold pLock
  rw [e]
  exact ⟨ds, hk, h⟩
end
end Pu
namespace Ew
open PySem PySem.Spec PyProof.Rows L2 Pu
variable [Tbs]
def wp__law_take : List D → (D → Prop) → Prop := fun ds k => match ds with
  | [.deck 6, .int m] => (0 < m ∧ m < 1073741824) ∧ ∀ t : Int, 0 ≤ t → t < m → k (.int t)
  | _ => False
def P_choices : PSt := (sSeq (sSet 1 (eLst (aCons (eTup aNil) aNil)))
    (sSeq (sFor (iRange1 (aCons (eV 0) aNil)) (gtName 2)
    (sSet 1 (eOp dAdd (eV 1) (eLc [3] (iSeq (eV 1)) (gtName 3) (fun _ k => k true) (eOp dAdd (eV 3) (eTup (aCons (eV 2) aNil)))))))
    (sRet (eCall gSortedN (aCons (eLc [3] (iSeq (eV 1)) (gtName 3) (tOf (eOp dGt (eCall gLen (aCons (eV 3) aNil)) (eC (.int 1)))) (eV 3)) aNil)))))
def wp_choices : List D → (D → Prop) → Prop := wpOf false 4 P_choices
def P_partings : PSt := (sSeq (sSet 1 (eLst (aCons (eTup (aCons (eSl (eV 0) oNo (oPart (eC (.int 1)))) (aCons (eTup aNil) aNil))) aNil)))
    (sSeq (sFor (iSeq (eSl (eV 0) (oPart (eC (.int 1))) oNo)) (gtName 2)
    (sSet 1 (eOp dAdd (eLc [3, 4] (iSeq (eV 1)) (gtTup 2 (gtCons (gtName 3) (gtCons (gtName 4) gtNil))) (fun _ k => k true) (eTup (aCons (eOp dAdd (eV 3) (eTup (aCons (eV 2) aNil))) (aCons (eV 4) aNil)))) (eLc [3, 4] (iSeq (eV 1)) (gtTup 2 (gtCons (gtName 3) (gtCons (gtName 4) gtNil))) (fun _ k => k true) (eTup (aCons (eV 3) (aCons (eOp dAdd (eV 4) (eTup (aCons (eV 2) aNil))) aNil)))))))
    (sRet (eLc [3, 4] (iSeq (eV 1)) (gtTup 2 (gtCons (gtName 3) (gtCons (gtName 4) gtNil))) (tOf (eOp dNe (eV 4) (eTup aNil))) (eTup (aCons (eV 3) (aCons (eV 4) aNil)))))))
def wp_partings : List D → (D → Prop) → Prop := wpOf false 5 P_partings
def P_steps : PSt := (sRet (eOp dAdd (eCall gAbs (aCons (eOp dSub (eOp dIx (eV 0) (eC (.int 0))) (eOp dIx (eV 1) (eC (.int 0)))) aNil)) (eCall gAbs (aCons (eOp dSub (eOp dIx (eV 0) (eC (.int 1))) (eOp dIx (eV 1) (eC (.int 1)))) aNil))))
def wp_steps : List D → (D → Prop) → Prop := wpOf false 2 P_steps
def P_wanted : PSt := (sSeq (sSet 3 (eOp dIx (eV 0) (eV 1)))
    (sSeq (sSet 4 (eOp dIx (eV 0) (eV 2)))
    (sRet (eOp dAdd (eOp dAdd (eOp dIx (eV 3) (eC (.int 2))) (eOp dIx (eV 4) (eC (.int 2)))) (eCall (fun ds k => ds.length = 2 ∧ wp_steps ds k) (aCons (eSl (eV 3) oNo (oPart (eC (.int 2)))) (aCons (eSl (eV 4) oNo (oPart (eC (.int 2)))) aNil)))))))
def wp_wanted : List D → (D → Prop) → Prop := wpOf false 5 P_wanted
def P_started : PSt := (sRet (eOp dMul (eC (.int 2)) (eCall gSum (aCons (eLc [1, 2, 3, 4] (iSeq (eV 0)) (gtTup 4 (gtCons (gtName 1) (gtCons (gtName 2) (gtCons (gtName 3) (gtCons (gtName 4) gtNil))))) (fun _ k => k true) (eV 3)) aNil))))
def wp_started : List D → (D → Prop) → Prop := wpOf false 5 P_started
def P_height_of : PSt := (sRet (eCall gMaxL (aCons (eLc2 [2, 3] [3] (iSeq (eV 1)) (gtName 2) (fun _ k => k true) (iSeq (eV 1)) (gtName 3) (fun _ k => k true) (eCall (fun ds k => ds.length = 3 ∧ wp_wanted ds k) (aCons (eV 0) (aCons (eV 2) (aCons (eV 3) aNil))))) aNil)))
def wp_height_of : List D → (D → Prop) → Prop := wpOf false 4 P_height_of
def P_is_whole : PSt := (sRet (eAnd (eCall gIsi (aCons (eV 0) (aCons (eC (.ty "int")) aNil))) (eUn dNot (eCall gIsi (aCons (eV 0) (aCons (eC (.ty "bool")) aNil))))))
def wp_is_whole : List D → (D → Prop) → Prop := wpOf false 1 P_is_whole
def P_are_wholes : PSt := (sSeq (sIf (tOrP (tNotP (tOf (eCall gIsi (aCons (eV 0) (aCons (eC (.ty "tuple")) aNil))))) (tOf (eOp dNe (eCall gLen (aCons (eV 0) aNil)) (eV 1)))) (sRet (eC (.bl false))) sNext)
    (sRet (eAsk true [2] (iSeq (eV 0)) (gtName 2) (eCall (fun ds k => ds.length = 1 ∧ wp_is_whole ds k) (aCons (eV 2) aNil)))))
def wp_are_wholes : List D → (D → Prop) → Prop := wpOf false 3 P_are_wholes
def P_numbers_of : PSt := (sSeq (sOwn 2 (eDcG (dcD true) [3] (iRange1 (aCons (eV 0) aNil)) (gtName 3) (fun _ k => k true) (eTup (aCons (eV 3) aNil)) (eC (.int 0))))
    (sSeq (sFor (iSeq (eV 1)) (gtTup 2 (gtCons (gtName 4) (gtCons (gtName 5) gtNil)))
    (sTputN 2 (eV 4) (eV 5)))
    (sRetO 2)))
def wp_numbers_of : List D → (D → Prop) → Prop := wpOf false 6 P_numbers_of
def P_is_row : PSt := (sSeq (sIf (tOrP (tNotP (tOf (eCall gIsi (aCons (eV 1) (aCons (eC (.ty "tuple")) aNil))))) (tOf (eOp dNe (eCall gLen (aCons (eV 1) aNil)) (eC (.int 2))))) (sRet (eC (.bl false))) sNext)
    (sSeq (sAsg (eV 1) (gtTup 2 (gtCons (gtName 2) (gtCons (gtName 3) gtNil))))
    (sRet (eAnd (eCall (fun ds k => ds.length = 2 ∧ wp_are_wholes ds k) (aCons (eV 2) (aCons (eCall gLen (aCons (eV 0) aNil)) aNil))) (eAnd (eOp dEq (eV 2) (eV 0)) (eAnd (eCall (fun ds k => ds.length = 1 ∧ wp_is_whole ds k) (aCons (eV 3) aNil)) (eOp dGe (eV 3) (eC (.int 0)))))))))
def wp_is_row : List D → (D → Prop) → Prop := wpOf false 4 P_is_row
def P_has_form : PSt := (sSeq (sSet 2 (eCall (fun ds k => ds.length = 1 ∧ wp_choices ds k) (aCons (eV 0) aNil)))
    (sSeq (sIf (tOrP (tNotP (tOf (eCall gIsi (aCons (eV 1) (aCons (eC (.ty "tuple")) aNil))))) (tOf (eOp dNe (eCall gLen (aCons (eV 1) aNil)) (eCall gLen (aCons (eV 2) aNil))))) (sRet (eC (.bl false))) sNext)
    (sRet (eAsk true [3, 4] (iZipPY (eV 2) (eV 1)) (gtTup 2 (gtCons (gtName 3) (gtCons (gtName 4) gtNil))) (eCall (fun ds k => ds.length = 2 ∧ wp_is_row ds k) (aCons (eV 3) (aCons (eV 4) aNil)))))))
def wp_has_form : List D → (D → Prop) → Prop := wpOf false 5 P_has_form
def P_most_of : PSt := (sRet (eOp dAdd (eCall (fun ds k => ds.length = 2 ∧ wp_height_of ds k) (aCons (eV 0) (aCons (eV 2) aNil))) (eCall gMinL (aCons (eLc [3, 4] (iSeq (eCall (fun ds k => ds.length = 1 ∧ wp_partings ds k) (aCons (eV 2) aNil))) (gtTup 2 (gtCons (gtName 3) (gtCons (gtName 4) gtNil))) (fun _ k => k true) (eOp dAdd (eOp dTgetN (eV 1) (eV 3)) (eOp dTgetN (eV 1) (eV 4)))) aNil))))
def wp_most_of : List D → (D → Prop) → Prop := wpOf false 5 P_most_of
def P_table_shown : PSt := (sSeq (sSet 2 (eCall gLen (aCons (eV 0) aNil)))
    (sSeq (sIf (tOrP (tOf (eOp dGt (eV 2) (eC (.int 7)))) (tNotP (tOf (eCall (fun ds k => ds.length = 2 ∧ wp_has_form ds k) (aCons (eV 2) (aCons (eV 1) aNil)))))) (sRet (eC .non)) sNext)
    (sSeq (sSet 3 (eCall (fun ds k => ds.length = 2 ∧ wp_numbers_of ds k) (aCons (eV 2) (aCons (eV 1) aNil))))
    (sSeq (sIf (tOf (eAsk false [4, 5] (iSeq (eV 1)) (gtTup 2 (gtCons (gtName 4) (gtCons (gtName 5) gtNil))) (eOp dGt (eV 5) (eCall (fun ds k => ds.length = 3 ∧ wp_most_of ds k) (aCons (eV 0) (aCons (eV 3) (aCons (eV 4) aNil))))))) (sRet (eC .non)) sNext)
    (sSeq (sSet 6 (eRg1 .tup (eV 2)))
    (sRet (eOp dSub (eOp dAdd (eOp dTgetN (eV 3) (eV 6)) (eCall (fun ds k => ds.length = 2 ∧ wp_height_of ds k) (aCons (eV 0) (aCons (eV 6) aNil)))) (eCall (fun ds k => ds.length = 1 ∧ wp_started ds k) (aCons (eV 0) aNil)))))))))
def wp_table_shown : List D → (D → Prop) → Prop := wpOf false 7 P_table_shown
def P_tie (W : List D → List D → (D → List D → Prop) → Prop) : PSt := (sSeq (sIf (tOf (eCall gIsi (aCons (eV 1) (aCons (eC (.ty "int")) aNil)))) (sRetB (eV 1)) sNext)
    (sSeq (sLendS 3 2 W (aCons (eV 0) (aCons (eOp dIx (eV 1) (eC (.int 0))) aNil)))
    (sSeq (sLendS 4 2 W (aCons (eV 0) (aCons (eOp dIx (eV 1) (eC (.int 1))) aNil)))
    (sSeq (sAppend 2 (eTup (aCons (eV 3) (aCons (eV 4) aNil))))
    (sRetB (eOp dSub (eOp dAdd (eV 0) (eCall gLen (aCons (eO 2) aNil))) (eC (.int 1))))))))
def wpR_tie : Nat → List D → List D → (D → List D → Prop) → Prop
  | 0 => fun _ _ _ => False
  | m + 1 => fun ds cs k => ds.length = 2 ∧ wpB 5 (P_tie (wpR_tie m)) ds cs k
def wp_tie : List D → List D → (D → List D → Prop) → Prop := wpR_tie 8
theorem wl_tie : ∀ m ds cs k, wpR_tie m ds cs k → ds.length = 2
  | 0, _, _, _, h => h.elim
  | _ + 1, _, _, _, h => h.1
def P_joining_of : PSt := (sSeq (sOwn 2 (eLst aNil))
    (sSeq (sLend 2 wp_tie (aCons (eV 0) (aCons (eV 1) aNil)))
    (sFrz 2 (sRet (eUn dTuple (eV 2))))))
def wp_joining_of : List D → (D → Prop) → Prop := wpOf false 3 P_joining_of
def P_best_joining : PSt := (sSeq (sSet 1 (eCall gLen (aCons (eV 0) aNil)))
    (sSeq (sIf (tOf (eOp dGt (eV 1) (eC (.int 7)))) sNever sNext)
    (sSeq (sOwn 2 (eDcG (dcD true) [3] (iRange1 (aCons (eV 1) aNil)) (gtName 3) (fun _ k => k true) (eTup (aCons (eV 3) aNil)) (eC (.int 0))))
    (sSeq (sOwn 4 (eDcG (.dpd []) [3] (iRange1 (aCons (eV 1) aNil)) (gtName 3) (fun _ k => k true) (eTup (aCons (eV 3) aNil)) (eV 3)))
    (sSeq (sFor (iSeq (eUn gSortLen (eCall (fun ds k => ds.length = 1 ∧ wp_choices ds k) (aCons (eV 1) aNil)))) (gtName 5)
    (sSeq (sAsg (eCall gMinT (aCons (eLc [7, 8] (iSeq (eCall (fun ds k => ds.length = 1 ∧ wp_partings ds k) (aCons (eV 5) aNil))) (gtTup 2 (gtCons (gtName 7) (gtCons (gtName 8) gtNil))) (fun _ k => k true) (eTup (aCons (eOp dAdd (eOp dTgetN (eO 2) (eV 7)) (eOp dTgetN (eO 2) (eV 8))) (aCons (eV 7) (aCons (eV 8) aNil))))) aNil)) (gtTup 3 (gtCons (gtName 6) (gtCons (gtName 7) (gtCons (gtName 8) gtNil)))))
    (sSeq (sTputN 2 (eV 5) (eOp dAdd (eCall (fun ds k => ds.length = 2 ∧ wp_height_of ds k) (aCons (eV 0) (aCons (eV 5) aNil))) (eV 6)))
    (sXput 4 (eV 5) (eTup (aCons (eOp dXget (eO 4) (eV 7)) (aCons (eOp dXget (eO 4) (eV 8)) aNil)))))))
    (sFrz 2 (sFrz 4 (sSeq (sSet 9 (eUn dTuple (eLc [5] (iSeq (eCall (fun ds k => ds.length = 1 ∧ wp_choices ds k) (aCons (eV 1) aNil))) (gtName 5) (fun _ k => k true) (eTup (aCons (eV 5) (aCons (eOp dTgetN (eV 2) (eV 5)) aNil))))))
    (sRet (eTup (aCons (eCall (fun ds k => ds.length = 2 ∧ wp_joining_of ds k) (aCons (eV 1) (aCons (eOp dXget (eV 4) (eRg1 .tup (eV 1))) aNil))) (aCons (eV 9) aNil))))))))))))
def wp_best_joining : List D → (D → Prop) → Prop := wpOf false 10 P_best_joining
def P__law_place : PSt := (sSeq (sIf (tOf (eOp dEq (eV 1) (eC (.int 0)))) (sRet (eTup (aCons (eCall (fun ds k => ds.length = 2 ∧ wp__law_take ds k) (aCons (eV 0) (aCons (eC (.int 7)) aNil))) (aCons (eCall (fun ds k => ds.length = 2 ∧ wp__law_take ds k) (aCons (eV 0) (aCons (eC (.int 7)) aNil))) aNil)))) sNext)
    (sSeq (sIf (tOf (eOp dEq (eV 1) (eC (.int 1)))) (sRet (eTup (aCons (eCall (fun ds k => ds.length = 2 ∧ wp__law_take ds k) (aCons (eV 0) (aCons (eC (.int 7)) aNil))) (aCons (eC (.int 3)) aNil)))) sNext)
    (sSeq (sIf (tOf (eOp dEq (eV 1) (eC (.int 2)))) (sSeq (sSet 2 (eCall (fun ds k => ds.length = 2 ∧ wp__law_take ds k) (aCons (eV 0) (aCons (eC (.int 7)) aNil))))
    (sRet (eTup (aCons (eV 2) (aCons (eOp dSub (eC (.int 5)) (eV 2)) aNil))))) sNext)
    (sSeq (sIf (tOf (eOp dEq (eV 1) (eC (.int 3)))) (sSeq (sSet 2 (eOp dMul (eOp dSub (eC (.int 1000000)) (eCall (fun ds k => ds.length = 2 ∧ wp__law_take ds k) (aCons (eV 0) (aCons (eC (.int 3)) aNil)))) (eOp dSub (eC (.int 1)) (eOp dMul (eC (.int 2)) (eCall (fun ds k => ds.length = 2 ∧ wp__law_take ds k) (aCons (eV 0) (aCons (eC (.int 2)) aNil)))))))
    (sRet (eTup (aCons (eV 2) (aCons (eOp dMul (eOp dSub (eC (.int 1000000)) (eCall (fun ds k => ds.length = 2 ∧ wp__law_take ds k) (aCons (eV 0) (aCons (eC (.int 3)) aNil)))) (eOp dSub (eC (.int 1)) (eOp dMul (eC (.int 2)) (eCall (fun ds k => ds.length = 2 ∧ wp__law_take ds k) (aCons (eV 0) (aCons (eC (.int 2)) aNil)))))) aNil))))) sNext)
    (sSeq (sIf (tOf (eOp dEq (eV 1) (eC (.int 4)))) (sRet (eTup (aCons (eOp dSub (eCall (fun ds k => ds.length = 2 ∧ wp__law_take ds k) (aCons (eV 0) (aCons (eC (.int 2000001)) aNil))) (eC (.int 1000000))) (aCons (eOp dSub (eCall (fun ds k => ds.length = 2 ∧ wp__law_take ds k) (aCons (eV 0) (aCons (eC (.int 2000001)) aNil))) (eC (.int 1000000))) aNil)))) sNext)
    (sRet (eTup (aCons (eCall (fun ds k => ds.length = 2 ∧ wp__law_take ds k) (aCons (eV 0) (aCons (eC (.int 3)) aNil))) (aCons (eCall (fun ds k => ds.length = 2 ∧ wp__law_take ds k) (aCons (eV 0) (aCons (eC (.int 3)) aNil))) aNil)))))))))
def wp__law_place : List D → (D → Prop) → Prop := wpOf false 3 P__law_place
def P__law_ends : PSt := (sSeq (sSet 2 (eCall (fun ds k => ds.length = 2 ∧ wp__law_take ds k) (aCons (eV 0) (aCons (eC (.int 6)) aNil))))
    (sSeq (sSet 3 (eCall (fun ds k => ds.length = 2 ∧ wp__law_take ds k) (aCons (eV 0) (aCons (eC (.int 4)) aNil))))
    (sSeq (sOwn 4 (eLst aNil))
    (sSeq (sForC (iRange1 (aCons (eV 1) aNil)) (gtName 5)
    (sSeq (sAsg (eCall (fun ds k => ds.length = 2 ∧ wp__law_place ds k) (aCons (eV 0) (aCons (eV 2) aNil))) (gtTup 2 (gtCons (gtName 6) (gtCons (gtName 7) gtNil))))
    (sSeq (sIf (tAndP (tOf (eOp dNe (eO 4) (eLst aNil))) (tOf (eOp dEq (eCall (fun ds k => ds.length = 2 ∧ wp__law_take ds k) (aCons (eV 0) (aCons (eC (.int 4)) aNil))) (eC (.int 0))))) (sAsg (eSl (eOp dIx (eO 4) (eCall (fun ds k => ds.length = 2 ∧ wp__law_take ds k) (aCons (eV 0) (aCons (eCall gLen (aCons (eO 4) aNil)) aNil)))) oNo (oPart (eC (.int 2)))) (gtTup 2 (gtCons (gtName 6) (gtCons (gtName 7) gtNil)))) sNext)
    (sSeq (sSet 8 (eC (.int 0)))
    (sSeq (sIf (tOf (eOp dEq (eV 3) (eC (.int 2)))) (sSet 8 (eCall (fun ds k => ds.length = 2 ∧ wp__law_take ds k) (aCons (eV 0) (aCons (eC (.int 6)) aNil)))) sNext)
    (sSeq (sIf (tOf (eOp dEq (eV 3) (eC (.int 3)))) (sSet 8 (eOp dIx (eLst (aCons (eC (.int 0)) (aCons (eC (.int 1000000)) (aCons (eC (.int 1)) aNil)))) (eCall (fun ds k => ds.length = 2 ∧ wp__law_take ds k) (aCons (eV 0) (aCons (eC (.int 3)) aNil))))) sNext)
    (sAppend 4 (eTup (aCons (eV 6) (aCons (eV 7) (aCons (eV 8) (aCons (eOp dIx (eLst (aCons (eC (.int 0)) (aCons (eC (.int 1)) (aCons (eC (.int 1000000)) aNil)))) (eCall (fun ds k => ds.length = 2 ∧ wp__law_take ds k) (aCons (eV 0) (aCons (eC (.int 3)) aNil)))) aNil))))))))))))
    (sFrz 4 (sRet (eUn dTuple (eV 4))))))))
def wp__law_ends : List D → (D → Prop) → Prop := wpOf false 9 P__law_ends
def P__law_joining : PSt := (sSeq (sSet 2 (eOp dEq (eCall (fun ds k => ds.length = 2 ∧ wp__law_take ds k) (aCons (eV 0) (aCons (eC (.int 8)) aNil))) (eC (.int 5))))
    (sSeq (sOwn 3 (eRg1 .lst (eV 1)))
    (sSeq (sOwn 4 (eLst aNil))
    (sSeq (sForC (iRange1 (aCons (eOp dSub (eV 1) (eC (.int 1))) aNil)) (gtName 5)
    (sSeq (sSet 6 (eCall (fun ds k => ds.length = 2 ∧ wp__law_take ds k) (aCons (eV 0) (aCons (eCall gLen (aCons (eO 3) aNil)) aNil))))
    (sSeq (sIf (tOf (eV 2)) (sSet 6 (eOp dSub (eCall gLen (aCons (eO 3) aNil)) (eC (.int 1)))) sNext)
    (sSeq (sPopAt 7 3 (eV 6))
    (sSeq (sPopAt 8 3 (eCall (fun ds k => ds.length = 2 ∧ wp__law_take ds k) (aCons (eV 0) (aCons (eCall gLen (aCons (eO 3) aNil)) aNil))))
    (sSeq (sIf (tOf (eOp dEq (eCall (fun ds k => ds.length = 2 ∧ wp__law_take ds k) (aCons (eV 0) (aCons (eC (.int 2)) aNil))) (eC (.int 1)))) (sPar 7 8 (aCons (eV 8) (aCons (eV 7) aNil))) sNext)
    (sSeq (sAppend 4 (eTup (aCons (eV 7) (aCons (eV 8) aNil))))
    (sAppend 3 (eOp dAdd (eV 1) (eV 5))))))))))
    (sFrz 3 (sFrz 4 (sRet (eUn dTuple (eV 4)))))))))
def wp__law_joining : List D → (D → Prop) → Prop := wpOf false 9 P__law_joining
def P__law_size : PSt := (sSeq (sIf (tOf (eOp dEq (eCall (fun ds k => ds.length = 2 ∧ wp__law_take ds k) (aCons (eV 0) (aCons (eC (.int 8)) aNil))) (eC (.int 5)))) (sRet (eV 2)) sNext)
    (sRet (eOp dAdd (eC (.int 1)) (eCall (fun ds k => ds.length = 2 ∧ wp__law_take ds k) (aCons (eV 0) (aCons (eV 1) aNil))))))
def wp__law_size : List D → (D → Prop) → Prop := wpOf false 3 P__law_size
def P__law_want : PSt := (sSeq (sSet 3 (eOp dIx (eV 0) (eV 1)))
    (sSeq (sSet 4 (eOp dIx (eV 0) (eV 2)))
    (sRet (eOp dAdd (eOp dAdd (eOp dAdd (eOp dIx (eV 3) (eC (.int 2))) (eOp dIx (eV 4) (eC (.int 2)))) (eCall gAbs (aCons (eOp dSub (eOp dIx (eV 3) (eC (.int 0))) (eOp dIx (eV 4) (eC (.int 0)))) aNil))) (eCall gAbs (aCons (eOp dSub (eOp dIx (eV 3) (eC (.int 1))) (eOp dIx (eV 4) (eC (.int 1)))) aNil))))))
def wp__law_want : List D → (D → Prop) → Prop := wpOf false 5 P__law_want
def P__law_height : PSt := (sSeq (sSet 2 (eC (.int 0)))
    (sSeq (sFor (iSeq (eV 1)) (gtName 3)
    (sSet 2 (eCall gMaxL (aCons (eOp dAdd (eLst (aCons (eV 2) aNil)) (eLc [4] (iSeq (eV 1)) (gtName 4) (fun _ k => k true) (eCall (fun ds k => ds.length = 3 ∧ wp__law_want ds k) (aCons (eV 0) (aCons (eV 3) (aCons (eV 4) aNil)))))) aNil))))
    (sRet (eV 2))))
def wp__law_height : List D → (D → Prop) → Prop := wpOf false 5 P__law_height
def P__law_members : PSt := (sRet (eUn dTuple (eLc [2] (iRange1 (aCons (eV 1) aNil)) (gtName 2) (tOf (eOp dEq (eOp dAnd2 (eOp dShr (eV 0) (eV 2)) (eC (.int 1))) (eC (.int 1)))) (eV 2))))
def wp__law_members : List D → (D → Prop) → Prop := wpOf false 3 P__law_members
def P__law_whole : PSt := (sRet (eAnd (eCall gIsi (aCons (eV 0) (aCons (eC (.ty "int")) aNil))) (eUn dNot (eCall gIsi (aCons (eV 0) (aCons (eC (.ty "bool")) aNil))))))
def wp__law_whole : List D → (D → Prop) → Prop := wpOf false 1 P__law_whole
def P__law_starts : PSt := (sRet (eOp dMul (eC (.int 2)) (eCall gSum (aCons (eLc [1] (iSeq (eV 0)) (gtName 1) (fun _ k => k true) (eOp dIx (eV 1) (eC (.int 2)))) aNil))))
def wp__law_starts : List D → (D → Prop) → Prop := wpOf false 2 P__law_starts
def P__law_even : PSt := (sSeq (sSet 2 (eCall gLen (aCons (eV 0) aNil)))
    (sSeq (sOwn 3 (eLc [4] (iRange1 (aCons (eV 2) aNil)) (gtName 4) (fun _ k => k true) (eTup (aCons (eV 4) aNil))))
    (sSeq (sSet 5 (eC (.int 0)))
    (sSeq (sSet 6 (eOp dMul (eC (.int 2)) (eOp dIx (eOp dIx (eV 0) (eC (.int 0))) (eC (.int 2)))))
    (sSeq (sFor (iSeq (eV 1)) (gtTup 2 (gtCons (gtName 7) (gtCons (gtName 8) gtNil)))
    (sSeq (sAppend 3 (eOp dAdd (eOp dIx (eO 3) (eV 7)) (eOp dIx (eO 3) (eV 8))))
    (sSeq (sSet 6 (eCall (fun ds k => ds.length = 2 ∧ wp__law_height ds k) (aCons (eV 0) (aCons (eOp dIx (eO 3) (eUn dNeg (eC (.int 1)))) aNil))))
    (sSet 5 (eOp dAdd (eV 5) (eV 6))))))
    (sFrz 3 (sRet (eOp dSub (eOp dAdd (eV 5) (eV 6)) (eCall (fun ds k => ds.length = 1 ∧ wp__law_starts ds k) (aCons (eV 0) aNil))))))))))
def wp__law_even : List D → (D → Prop) → Prop := wpOf false 9 P__law_even
def P__law_partings_least : PSt := (sSeq (sOwn 2 (eLst aNil))
    (sSeq (sSet 3 (eOp dAnd2 (eOp dSub (eV 1) (eC (.int 1))) (eV 1)))
    (sSeq (sWhile (tOf (eOp dGt (eV 3) (eC (.int 0))))
    (sSeq (sAppend 2 (eOp dAdd (eOp dZget (eV 0) (eV 3)) (eOp dZget (eV 0) (eOp dXor2 (eV 1) (eV 3)))))
    (sSet 3 (eOp dAnd2 (eOp dSub (eV 3) (eC (.int 1))) (eV 1)))))
    (sFrz 2 (sRet (eCall gMinL (aCons (eV 2) aNil)))))))
def wp__law_partings_least : List D → (D → Prop) → Prop := wpOf false 4 P__law_partings_least
def P__law_lower : PSt := (sSeq (sSet 3 (eCall gLen (aCons (eV 1) aNil)))
    (sSeq (sOwn 4 eDic0)
    (sSeq (sForC (iRange2 (aCons (eC (.int 1)) (aCons (eOp dShl (eC (.int 1)) (eV 3)) aNil))) (gtName 5)
    (sSeq (sDput 4 (eV 5) (eC (.int 0)))
    (sIf (tOf (eOp dGt (eOp dAnd2 (eOp dSub (eV 5) (eC (.int 1))) (eV 5)) (eC (.int 0)))) (sSeq (sSet 6 (eCall (fun ds k => ds.length = 2 ∧ wp__law_members ds k) (aCons (eV 5) (aCons (eV 3) aNil))))
    (sSeq (sSet 7 (eOp dAdd (pLock 4 (eCall (fun ds k => ds.length = 2 ∧ wp__law_partings_least ds k) (aCons (eV 4) (aCons (eV 5) aNil)))) (eCall (fun ds k => ds.length = 2 ∧ wp__law_height ds k) (aCons (eV 1) (aCons (eV 6) aNil)))))
    (sSeq (sSet 8 (eOp dMul (eV 2) (eCall (fun ds k => ds.length = 2 ∧ wp__law_take ds k) (aCons (eV 0) (aCons (eC (.int 4)) aNil)))))
    (sSeq (sIf (tOf (eOp dEq (eV 8) (eC (.int 3)))) (sSet 8 (eCall (fun ds k => ds.length = 2 ∧ wp__law_take ds k) (aCons (eV 0) (aCons (eOp dAdd (eV 7) (eC (.int 1))) aNil)))) sNext)
    (sDput 4 (eV 5) (eCall gMaxN (aCons (eC (.int 0)) (aCons (eOp dSub (eV 7) (eV 8)) aNil)))))))) sNext)))
    (sRetO 4))))
def wp__law_lower : List D → (D → Prop) → Prop := wpOf true 9 P__law_lower
def P__law_table : PSt := (sSeq (sSet 2 (eLc [3] (iDz (eV 0)) (gtName 3) (tOf (eOp dGt (eOp dAnd2 (eOp dSub (eV 3) (eC (.int 1))) (eV 3)) (eC (.int 0)))) (eTup (aCons (eCall (fun ds k => ds.length = 2 ∧ wp__law_members ds k) (aCons (eV 3) (aCons (eV 1) aNil))) (aCons (eOp dZget (eV 0) (eV 3)) aNil)))))
    (sRet (eUn dTuple (eCall gSortedP (aCons (eV 2) aNil)))))
def wp__law_table : List D → (D → Prop) → Prop := wpOf false 4 P__law_table
def P_law : PSt := (sSeq (sSet 2 (eCall gInt (aCons (eOp dGt (eCall (fun ds k => ds.length = 2 ∧ wp__law_take ds k) (aCons (eV 1) (aCons (eC (.int 4)) aNil))) (eC (.int 0))) aNil)))
    (sSeq (sSet 3 (eCall (fun ds k => ds.length = 2 ∧ wp__law_take ds k) (aCons (eV 1) (aCons (eC (.int 7)) aNil))))
    (sSeq (sSet 4 (eCall (fun ds k => ds.length = 3 ∧ wp__law_size ds k) (aCons (eV 1) (aCons (eC (.int 5)) (aCons (eOp dAdd (eC (.int 6)) (eCall (fun ds k => ds.length = 2 ∧ wp__law_take ds k) (aCons (eV 1) (aCons (eC (.int 2)) aNil)))) aNil)))))
    (sSeq (sSet 5 (eCall (fun ds k => ds.length = 2 ∧ wp__law_ends ds k) (aCons (eV 1) (aCons (eV 4) aNil))))
    (sSeq (sOwn 6 (eCall (fun ds k => ds.length = 3 ∧ wp__law_lower ds k) (aCons (eV 1) (aCons (eV 5) (aCons (eV 2) aNil)))))
    (sSeq (sSet 7 (eOp dSub (eOp dShl (eC (.int 1)) (eV 4)) (eC (.int 1))))
    (sSeq (sSet 8 (eCall (fun ds k => ds.length = 2 ∧ wp__law_height ds k) (aCons (eV 5) (aCons (eRg1 .tup (eV 4)) aNil))))
    (sSeq (sSet 9 (eOp dAdd (eOp dDget (eO 6) (eV 7)) (eOp dMul (eOp dSub (eV 8) (eCall (fun ds k => ds.length = 1 ∧ wp__law_starts ds k) (aCons (eV 5) aNil))) (eCall gInt (aCons (eOp dGt (eV 4) (eC (.int 1))) aNil)))))
    (sSeq (sSet 10 (eCall (fun ds k => ds.length = 2 ∧ wp_table_shown ds k) (aCons (eV 5) (aCons (pLock 6 (eCall (fun ds k => ds.length = 2 ∧ wp__law_table ds k) (aCons (eV 6) (aCons (eV 4) aNil)))) aNil))))
    (sSeq (sIf (tOrP (tNotP (tOf (eCall (fun ds k => ds.length = 1 ∧ wp__law_whole ds k) (aCons (eV 10) aNil)))) (tOf (eOp dNe (eV 10) (eV 9)))) (sRet (eC (.bl false))) sNext)
    (sSeq (sForC (iRange1 (aCons (eV 3) aNil)) (gtName 11)
    (sIf (tOf (eOp dGt (eV 10) (eCall (fun ds k => ds.length = 2 ∧ wp__law_even ds k) (aCons (eV 5) (aCons (eCall (fun ds k => ds.length = 2 ∧ wp__law_joining ds k) (aCons (eV 1) (aCons (eV 4) aNil))) aNil))))) (sRet (eC (.bl false))) sNext))
    (sSeq (sSet 12 (eCall (fun ds k => ds.length = 2 ∧ wp__law_even ds k) (aCons (eV 5) (aCons (eOp dIx (eCall (fun ds k => ds.length = 1 ∧ wp_best_joining ds k) (aCons (eV 5) aNil)) (eC (.int 0))) aNil))))
    (sSeq (sIf (tOrP (tOf (eOp dGt (eV 10) (eV 12))) (tAndP (tOf (eOp dEq (eV 2) (eC (.int 0)))) (tOf (eOp dNe (eV 10) (eV 12))))) (sRet (eC (.bl false))) sNext)
    (sSeq (sIf (tOf (eOp dGt (eV 4) (eC (.int 1)))) (sSeq (sDput 6 (eV 7) (eOp dAdd (eOp dAdd (eC (.int 1)) (eV 8)) (pLock 6 (eCall (fun ds k => ds.length = 2 ∧ wp__law_partings_least ds k) (aCons (eV 6) (aCons (eV 7) aNil))))))
    (sRet (eOp (dIs false) (eCall (fun ds k => ds.length = 2 ∧ wp_table_shown ds k) (aCons (eV 5) (aCons (pLock 6 (eCall (fun ds k => ds.length = 2 ∧ wp__law_table ds k) (aCons (eV 6) (aCons (eV 4) aNil)))) aNil))) (eC .non)))) sNext)
    (sFrz 6 (sRet (eC (.bl true))))))))))))))))))
end Ew
namespace Ew
open PySem PySem.Spec PyProof.Rows L2 Pu
variable [Tbs]
section
local macro_rules | `(tactic| walk_at "pscall") => `(tactic| fail)
local macro_rules | `(tactic| walk_at "psside") => `(tactic| first
  | exact Or.inl ⟨by decide, by decide⟩
  | exact Or.inr ⟨by decide, by decide⟩
  | exact ⟨by decide, by decide, by decide⟩
  | exact ⟨by decide, by decide⟩
  | decide
  | omega
  | (unfold CMul; omega)
  | (unfold CDiv; omega))
local macro_rules | `(tactic| walk_at "ps") => `(tactic| first
  | with_reducible refine nx_i ?_
  | with_reducible refine rt_i ?_
  | with_reducible refine blK_i ?_
  | with_reducible refine sSeq_set ?_
  | with_reducible refine sSeq_setM ?_
  | with_reducible refine sSetM_i ?_
  | ((with_reducible refine' sDput_i ?ps1 ?_); (case ps1 => exact rfl))
  | ((with_reducible refine' eO_d ?ps1 ?_); (case ps1 => exact rfl))
  | with_reducible refine dDin_i ?_
  | with_reducible refine mE_i ?_
  | with_reducible refine mLst_i ?_
  | with_reducible refine mTup_i ?_
  | with_reducible refine mCons_i ?_
  | with_reducible refine mNil_i ?_
  | ((with_reducible refine' mPop_i ?ps1 ?_); (case ps1 => exact rfl))
  | ((with_reducible refine' mPop0_i ?ps1 ?_); (case ps1 => exact rfl))
  | with_reducible refine sSeq_ifr ?_
  | with_reducible refine sSeq_asg ?_
  | with_reducible refine sSeq_own ?_
  | with_reducible refine sSeq_app ?_
  | with_reducible refine sSeq_for ?_
  | with_reducible refine sSeq_par ?_
  | with_reducible refine sSeq_drop ?_
  | with_reducible refine sSeq_put ?_
  | with_reducible refine sSeq_pop ?_
  | with_reducible refine sSeq_ifn ?_
  | ((with_reducible refine' eV_i ?ps1 ?_); (case ps1 => exact rfl))
  | with_reducible refine eOp_i ?_
  | with_reducible refine eC_i ?_
  | ((with_reducible refine' dIx_t ?ps1 ?_); (case ps1 => exact rfl))
  | with_reducible refine dI0_i ?_
  | with_reducible refine dAdd_i ?_
  | with_reducible refine aCons_i ?_
  | with_reducible refine dEq_int ?_
  | with_reducible refine dNe_int ?_
  | with_reducible refine aNil_i ?_
  | with_reducible refine eCall_i ?_
  | walk_at "pscall"
  | ((with_reducible refine' and_rfl ?ps1 ?_); (case ps1 => exact rfl))
  | with_reducible refine sSet_i ?_
  | with_reducible refine sNext_i ?_
  | with_reducible refine sRet_i ?_
  | with_reducible refine eTup_i ?_
  | ((with_reducible refine' and_le ?ps1 ?_); (case ps1 => exact rfl))
  | with_reducible refine tOf_i ?_
  | with_reducible refine sIf_i ?_
  | with_reducible refine tAndP_i ?_
  | with_reducible refine tOrP_i ?_
  | with_reducible refine tNotP_i ?_
  | with_reducible refine gMax_2 ?_
  | with_reducible refine gMin_2 ?_
  | with_reducible refine gMax_3 ?_
  | with_reducible refine gMin_3 ?_
  | with_reducible refine gMax_4 ?_
  | with_reducible refine gMin_4 ?_
  | with_reducible refine gMax_5 ?_
  | with_reducible refine gAbs_i ?_
  | with_reducible refine gLen_t ?_
  | with_reducible refine gLen_l ?_
  | with_reducible refine gInt_i ?_
  | with_reducible refine gInt_b ?_
  | ((with_reducible refine' gIsi_i ?ps1 ?ps2 ?_); (case ps1 => exact rfl); (case ps2 => exact rfl))
  | with_reducible refine sAsg_i ?_
  | ((with_reducible refine' gtTup_i ?ps1 ?_); (case ps1 => exact rfl))
  | with_reducible refine gtCons_i ?_
  | with_reducible refine gtNil_i ?_
  | with_reducible refine gtName_i ?_
  | with_reducible refine sPar_i ?_
  | with_reducible refine prK_i ?_
  | with_reducible refine inK_i ?_
  | with_reducible refine sqK_t ?_
  | with_reducible refine sqK_l ?_
  | with_reducible refine bk_i ?_
  | with_reducible refine ct_i ?_
  | with_reducible refine eUn_i ?_
  | with_reducible refine dNeg_i ?_
  | with_reducible refine dNot_i ?_
  | with_reducible refine eAnd_i ?_
  | with_reducible refine eOr_i ?_
  | with_reducible refine eChain_i ?_
  | with_reducible refine eIf_i ?_
  | ((with_reducible refine' dIx_l ?ps1 ?_); (case ps1 => exact rfl))
  | with_reducible refine eLst_i ?_
  | with_reducible refine dTuple_l ?_
  | with_reducible refine dTuple_t ?_
  | with_reducible refine dList_l ?_
  | with_reducible refine dList_t ?_
  | ((with_reducible refine' eO_i ?ps1 ?_); (case ps1 => exact rfl))
  | with_reducible refine sOwn_i ?_
  | ((with_reducible refine' and_lt ?ps1 ?_); (case ps1 => exact rfl))
  | ((with_reducible refine' sAppend_i ?ps1 ?_); (case ps1 => exact rfl))
  | ((with_reducible refine' sFrz_i ?ps1 ?_); (case ps1 => exact rfl))
  | ((with_reducible refine' sRetO_i ?ps1 ?_); (case ps1 => exact rfl))
  | with_reducible refine sRetN_i ?_
  | with_reducible refine sDrop_i ?_
  | with_reducible refine sFor_i ?_
  | with_reducible refine iRange1_i ?_
  | with_reducible refine iRange2_i ?_
  | with_reducible refine iSeq_i ?_
  | with_reducible refine iEnumS_i ?_
  | with_reducible refine iEnum0_i ?_
  | with_reducible refine en0K_t ?_
  | with_reducible refine en0K_l ?_
  | with_reducible refine iRev1_i ?_
  | with_reducible refine sSeq_ins ?_
  | with_reducible refine sSeq_aug ?_
  | ((with_reducible refine' sAug_i ?ps1 ?_); (case ps1 => exact rfl))
  | ((with_reducible refine' sInsert_i ?ps1 ?_); (case ps1 => exact rfl))
  | ((with_reducible refine' sPopAt_i ?ps1 ?_); (case ps1 => exact rfl))
  | with_reducible refine eSl_i ?_
  | with_reducible refine eLc_i ?_
  | with_reducible refine eLc2_i ?_
  | with_reducible refine oNo_i ?_
  | with_reducible refine oPart_i ?_
  | with_reducible refine dSl_t ?_
  | with_reducible refine dSl_l ?_
  | with_reducible refine dRevL_i ?_
  | with_reducible refine eRg1_i ?_
  | with_reducible refine bCase_t ?_
  | with_reducible refine bCase_f ?_
  | with_reducible refine ite_t ?_
  | with_reducible refine ite_f ?_
  | with_reducible refine ite_nt ?_
  | with_reducible refine ite_nf ?_
  | ((with_reducible refine' dII_i ?ps1 ?_); (case ps1 => walk_at "psside")))
local macro_rules | `(tactic| walk_at "psenv") => `(tactic| simp only [List.map_cons, List.map_nil, List.cons_append, List.nil_append, List.length_cons, List.length_nil, Nat.reduceAdd, Nat.reduceSub, List.replicate])
/-! choices of few ends: as tuples, as masks -/
def bt (m k : Nat) : Bool := ((m / 2 ^ k) &&& 1) == 1
def mm (n m : Nat) : List Int := ((List.range n).filter fun k => bt m k).map fun k : Nat => (k : Int)
def mk (c : List Int) : Nat := (c.map fun x => 2 ^ x.toNat).sum
def nosg (m : Nat) : Bool := decide (0 < ((m - 1) &&& m))
def msk (n : Nat) : List Nat := (List.range (2 ^ n)).filter nosg
def insL (x : List Int) : List (List Int) → List (List Int)
  | [] => [x]
  | y :: l => if lexI x y = true then x :: y :: l else y :: insL x l
def chs (n : Nat) : List (List Int) := ((msk n).map (mm n)).foldr insL []
def fnd : Nat → List (List Int)
  | 0 => [[]]
  | k + 1 => fnd k ++ (fnd k).map fun c => c ++ [((k : Nat) : Int)]
def prtS (l : List (List Int × List Int)) (e : Int) : List (List Int × List Int) := l.map (fun p => (p.1 ++ [e], p.2)) ++ l.map fun p => (p.1, p.2 ++ [e])
def prtA (c : List Int) : List (List Int × List Int) := (c.drop 1).foldl prtS [(c.take 1, [])]
def prt (c : List Int) : List (List Int × List Int) := (prtA c).filter fun p => !decide (p.2 = [])
def subF : Nat → Nat → Nat → List (Nat × Nat)
  | 0, _, _ => []
  | f + 1, m, p => if p = 0 then [] else (p, m ^^^ p) :: subF f m ((p - 1) &&& m)
def sub (m : Nat) : List (Nat × Nat) := subF 128 m ((m - 1) &&& m)
theorem insL_perm (x : List Int) : ∀ l, (insL x l).Perm (x :: l)
  | [] => .refl _
  | y :: l => by
    unfold insL
    split
    · exact .refl _
    · exact ((insL_perm x l).cons y).trans (.swap x y l)
theorem foldr_perm : ∀ l : List (List Int), (l.foldr insL []).Perm l
  | [] => .refl _
  | x :: l => (insL_perm x _).trans ((foldr_perm l).cons x)
theorem lexI_ne : ∀ a b : List Int, lexI a b = false → lexI b a = false → a = b
  | [], [], _, _ => rfl
  | [], _ :: _, h, _ => by cases h
  | _ :: _, [], _, h => by cases h
  | x :: r, y :: t, h1, h2 => by
    simp only [lexI, Bool.or_eq_false_iff, decide_eq_false_iff_not, Bool.and_eq_false_iff, Bool.not_eq_false', decide_eq_true_eq] at h1 h2
    obtain rfl : x = y := by omega
    rw [lexI_ne r t (h1.2.resolve_left (by omega)) (h2.2.resolve_left (by omega))]
theorem srt_uniq {α : Type} {lt : α → α → Bool} (key : ∀ a b, lt a b = false → lt b a = false → a = b) : ∀ (xs ys : List α), xs.Perm ys → xs.Pairwise (fun q r => lt r q = false) → ys.Pairwise (fun q r => lt r q = false) → xs = ys
  | [], ys, p, _, _ => (List.nil_perm.mp p).symm
  | x :: xs, [], p, _, _ => absurd (List.perm_nil.mp p) (by simp)
  | x :: xs, y :: ys, p, h1, h2 => by
    rw [List.pairwise_cons] at h1 h2
    have e : x = y := by
      rcases List.mem_cons.mp (p.mem_iff.mp List.mem_cons_self) with q | q
      · exact q
      · rcases List.mem_cons.mp (p.mem_iff.mpr List.mem_cons_self) with q2 | q2
        · exact q2.symm
        · exact key x y (h2.1 x q) (h1.1 y q2)
    subst e
    rw [srt_uniq key xs ys (p.cons_inv) h1.2 h2.2]
theorem T1 : ((List.range 8).all fun n => decide ((fnd n).filter (fun c => decide (1 < c.length)) = (msk n).map (mm n))) = true := by decide +kernel
theorem T2 : ((List.range 8).all fun n => decide ((chs n).Pairwise fun q r => lexI r q = false)) = true := by decide +kernel
theorem T3 : ((List.range 8).all fun n => (chs n).all fun c => decide (c = mm n (mk c)) && (decide (mk c ∈ msk n) && decide (1 < c.length))) = true := by decide +kernel
theorem T4 : ((List.range 8).all fun n => (msk n).all fun m => decide (mk (mm n m) = m) && (decide (m < 2 ^ n) && decide (1 < (mm n m).length))) = true := by decide +kernel
theorem T5 : ((List.range 8).all fun n => (chs n).all fun c => (prt c).all fun p => decide ((mk p.1, mk p.2) ∈ sub (mk c))) = true := by decide +kernel
theorem T6 : ((List.range 8).all fun n => (msk n).all fun m => (sub m).all fun q => decide ((mm n q.1, mm n q.2) ∈ prt (mm n m)) || decide ((mm n q.2, mm n q.1) ∈ prt (mm n m))) = true := by decide +kernel
theorem T7 : ((List.range 8).all fun n => (msk n).all fun m => !(sub m).isEmpty && (sub m).all fun q => decide (1 ≤ q.1) && (decide (1 ≤ q.2) && (decide (q.1 + q.2 = m) && decide (m < 2 ^ n)))) = true := by decide +kernel
structure En where
  (x y s l : Int)
abbrev enD (e : En) : D := .tup [.int e.x, .int e.y, .int e.s, .int e.l]
def want (p q : En) : Int := p.s + q.s + (max (p.x - q.x) (-(p.x - q.x)) + max (p.y - q.y) (-(p.y - q.y)))
theorem at_nat {α : Type} {xs : List α} {i : Int} {d : α} (h0 : 0 ≤ i) (h : xs[i.toNat]? = some d) : atI xs i = some d := by
  have hl : i.toNat < xs.length := (List.getElem?_eq_some_iff.mp h).1
  unfold atI ixN
  rw [if_pos h0, if_pos (by omega)]
  exact h
theorem atE {es : List En} {i : Int} {p : En} (i0 : 0 ≤ i) (hp : es[i.toNat]? = some p) : atI (es.map enD) i = some (enD p) := at_nat i0 (by rw [List.getElem?_map, hp]; rfl)
theorem steps_i {a b c d : Int} {k : D → Prop} (h : k (.int (max (a - c) (-(a - c)) + max (b - d) (-(b - d))))) : wp_steps [.tup [.int a, .int b], .tup [.int c, .int d]] k := by
  unfold wp_steps wpOf
  walk_at "psenv"
  unfold P_steps
  repeat walk_at "ps"
  exact h
theorem wanted_i {es : List En} {i j : Int} {p q : En} {k : D → Prop} (i0 : 0 ≤ i) (j0 : 0 ≤ j) (hp : es[i.toNat]? = some p) (hq : es[j.toNat]? = some q) (h : k (.int (want p q))) : wp_wanted [.tup (es.map enD), .int i, .int j] k := by
  unfold wp_wanted wpOf
  walk_at "psenv"
  unfold P_wanted
  repeat walk_at "ps"
  refine dIx_t (atE i0 hp) ?_
  repeat walk_at "ps"
  refine dIx_t (atE j0 hq) ?_
  repeat walk_at "ps"
  exact steps_i h
theorem take_i {m : Int} {k : D → Prop} (m0 : 0 < m) (m1 : m < 1073741824) (h : ∀ t : Int, 0 ≤ t → t < m → k (.int t)) : wp__law_take [.deck 6, .int m] k := ⟨⟨m0, m1⟩, h⟩
def eAt (E : List En) (i : Int) : En := (E[i.toNat]?).getD ⟨0, 0, 0, 0⟩
theorem eAt_some {E : List En} {i : Int} (h0 : 0 ≤ i) (h1 : i < E.length) : atI (E.map enD) i = some (enD (eAt E i)) := by
  have hl : i.toNat < E.length := by omega
  refine at_nat h0 ?_
  unfold eAt
  rw [List.getElem?_map, List.getElem?_eq_getElem hl]
  rfl
theorem lcP2_g {α β : Type} {vs1 : List Nat} {pg : PGt} {pt : PTs'} {pi1 : PIt} {pg1 : PGt} {pt1 : PTs'} {pe : PX} {env : List SV} {k : List D → Prop} (e : α → D) (ys : α → List β) (c : α → β → Bool) (f : α → β → D) (m : Nat) (xs : List α) (hm : ∀ x ∈ xs, (ys x).length ≤ m) (hl : xs.length * m ≤ 100000)
    (hs : ∀ x ∈ xs, ∀ (acc : List D) (A : List D → Prop) (B : Prop), acc.length + (ys x).length ≤ 100000 → A (acc ++ ((ys x).filter (c x)).map (f x)) → pg (e x) env fun env1 => pt env1 fun b => if b = true then pi1 env1 fun ds1 => noOwn env1 vs1 ∧ lcP pg1 pt1 pe (wipeE env1 vs1) ds1 acc A else B)
    (hk : k (xs.flatMap fun x => ((ys x).filter (c x)).map (f x))) : lcP2 vs1 pg pt pi1 pg1 pt1 pe env (xs.map e) [] k := by
  have go : ∀ (xs : List α) (acc : List D), (∀ x ∈ xs, (ys x).length ≤ m) → acc.length + xs.length * m ≤ 100000 → (∀ x ∈ xs, ∀ (acc : List D) (A : List D → Prop) (B : Prop), acc.length + (ys x).length ≤ 100000 → A (acc ++ ((ys x).filter (c x)).map (f x)) → pg (e x) env fun env1 => pt env1 fun b => if b = true then pi1 env1 fun ds1 => noOwn env1 vs1 ∧ lcP pg1 pt1 pe (wipeE env1 vs1) ds1 acc A else B) →
      k (acc ++ xs.flatMap fun x => ((ys x).filter (c x)).map (f x)) → lcP2 vs1 pg pt pi1 pg1 pt1 pe env (xs.map e) acc k := by
    intro xs
    induction xs with
    | nil => intro acc _ _ _ hk; simp only [List.map_nil, lcP2]; simpa using hk
    | cons x xs ih =>
      intro acc hm hl hs hk
      rw [List.map_cons]
      unfold lcP2
      have hl' : acc.length + (xs.length * m + m) ≤ 100000 := by rw [List.length_cons, Nat.succ_mul] at hl; exact hl
      have hf := List.length_filter_le (c x) (ys x)
      have hx := hm x List.mem_cons_self
      refine hs x List.mem_cons_self acc _ _ (by omega) (ih _ (fun y h => hm y (List.mem_cons_of_mem _ h)) (by rw [List.length_append, List.length_map]; omega) (fun y h => hs y (List.mem_cons_of_mem _ h)) ?_)
      rw [List.flatMap_cons] at hk
      rw [List.append_assoc]
      exact hk
  exact go xs [] hm (by simpa using hl) hs (by simpa using hk)
theorem flat_map_map {α β γ : Type} {f : α → List β} {g : β → γ} : ∀ {l : List α}, (l.flatMap f).map g = l.flatMap fun x => (f x).map g
  | [] => rfl
  | x :: l => by rw [List.flatMap_cons, List.map_append, flat_map_map, List.flatMap_cons]
theorem sSeq_forC {it : PIt} {g : PGt} {b Q : PSt} {env : List SV} {K : PK'} (h : it env fun ds => ds.length ≤ 100000 ∧ forP g b ds env { K with nx := fun env' => Q env' K }) : sSeq (sForC it g b) Q env K := h
theorem rangeD_at {lo : Int} {n i : Nat} {d : D} (h : (rangeD lo n)[i]? = some d) : d = .int (lo + (i : Nat)) ∧ i < n := by
  have hl := (List.getElem?_eq_some_iff.mp h).1
  have hi : i < n := by simpa [rangeD] using hl
  refine ⟨?_, hi⟩
  simpa [rangeD, hi, List.getElem?_map, List.getElem?_range] using h.symm
theorem rangeD_len {lo : Int} {n : Nat} : (rangeD lo n).length = n := by simp [rangeD]
theorem plnInt2 {e : En} {n : Nat} : pln (n + 1) (enD e) = true := by simp [pln, plnA]
theorem plnEn {n : Nat} (es : List En) : plnA (n + 1) (es.map enD) = true := by
  rw [plnA_iff]
  intro x hx
  obtain ⟨e, _, rfl⟩ := List.mem_map.mp hx
  exact plnInt2
def OkI (x : Int) : Prop := -1000000 ≤ x ∧ x ≤ 1000000
def OkE (e : En) : Prop := OkI e.x ∧ OkI e.y ∧ 0 ≤ e.s ∧ e.s ≤ 1000000 ∧ 0 ≤ e.l ∧ e.l ≤ 1000000
theorem is_whole_i {a : Int} {k : D → Prop} (h : k (.bl true)) : wp_is_whole [.int a] k := by
  unfold wp_is_whole wpOf
  walk_at "psenv"
  unfold P_is_whole
  repeat walk_at "ps"
  exact h
theorem all_true {α : Type} (l : List α) : l.all (fun _ => true) = true := by simp
theorem are_wholes_i {ns : List Int} {m : Int} {k : D → Prop} (hm : (ns.length : Int) = m) (h : k (.bl true)) : wp_are_wholes [.tup (ns.map D.int), .int m] k := by
  unfold wp_are_wholes wpOf
  walk_at "psenv"
  unfold P_are_wholes
  repeat walk_at "ps"
  rw [List.length_map]
  refine ite_n (fun q => (q hm).elim) (fun _ => ?_)
  repeat walk_at "ps"
  refine eAsk_i ?_
  repeat walk_at "ps"
  refine ⟨by simp [noOwn], ?_⟩
  refine askP_i D.int (fun _ => true) ns (fun x hx k' hk => ?_) ?_
  · repeat walk_at "ps"
    exact is_whole_i hk
  · rw [if_pos rfl, all_true]
    exact h
theorem sIx_p {n m : Nat} {i : Int} (h : 0 ≤ i) : HT.sIx n m (some i) = min i.toNat n := by
  unfold HT.sIx
  simp only
  rw [if_neg (by omega)]
theorem cut_tl (xs : List D) {i : Int} (h : 0 ≤ i) (hi : i.toNat ≤ xs.length) : Pu.cutD xs (some i) none = xs.drop i.toNat := by
  unfold Pu.cutD
  rw [sIx_p h, HT.sIx_none, Nat.min_eq_left hi]
  exact List.take_of_length_le (by rw [List.length_drop]; omega)
theorem sSeq_ifs {s : PTs'} {A B Q : PSt} {env : List SV} {K : PK'} (h : sIf s A B env { K with nx := fun env' => Q env' K }) : sSeq (sIf s A B) Q env K := h
theorem intsD_m2 {α : Type} (l : List α) (f : α → Int) : intsD (l.map fun x => D.int (f x)) = some (l.map f) := by
  have : (l.map fun x => D.int (f x)) = (l.map f).map D.int := by rw [List.map_map]; rfl
  rw [this]
  exact intsD_map _
abbrev Jn := List (Int × Int)
def rgI (n : Nat) : List Int := (List.range n).map fun i : Nat => ((i : Nat) : Int)
def at? {α : Type} (L : List (List α)) (i : Int) : List α := (L[i.toNat]?).getD []
def ext {α : Type} (L : List (List α)) : Jn → List (List α)
  | [] => L
  | r :: J => ext (L ++ [at? L r.1 ++ at? L r.2]) J
def JV : Nat → Jn → Prop
  | _, [] => True
  | n, r :: J => (0 ≤ r.1 ∧ r.1 < n ∧ 0 ≤ r.2 ∧ r.2 < n) ∧ JV (n + 1) J
def sds (J : Jn) : List Int := J.flatMap fun r => [r.1, r.2]
/-- a joining of n ends, each knot but the last one in just one row -/
structure JOk (n : Nat) (J : Jn) : Prop where
  v : JV n J
  len : J.length + 1 = n
  use : (sds J ++ [(n : Int) + J.length - 1]).Perm (rgI (n + J.length))
  all : ∀ {α : Type} (L : List (List α)), L.length = n → (at? (ext L J) ((n : Int) + J.length - 1)).Perm L.flatten
  few : ∀ {α : Type} (L : List (List α)), L.length = n → ∀ i, (at? (ext L J) i).length ≤ L.flatten.length
theorem jv_at : ∀ (J : Jn) (m i : Nat) (r : Int × Int), JV m J → J[i]? = some r → 0 ≤ r.1 ∧ r.1 < (m + i : Nat) ∧ 0 ≤ r.2 ∧ r.2 < (m + i : Nat)
  | r0 :: J, m, 0, r, hv, h => by
    cases h
    exact hv.1
  | r0 :: J, m, i + 1, r, hv, h => by
    have := jv_at J (m + 1) i r hv.2 (by simpa using h)
    omega
def lenAt (ls : List Int) (w : Int) : Int := (ls[w.toNat]?).getD 0
structure OvOk (n : Nat) (J : Jn) (O : List Int) : Prop where
  len : (O.length : Int) = (n : Int) + J.length - 1
  hit : ∀ (i : Nat) (r : Int × Int), J[i]? = some r → O[r.1.toNat]? = some ((n + i : Nat) : Int) ∧ O[r.2.toNat]? = some ((n + i : Nat) : Int)
theorem mem_sds {J : Jn} {x : Int} : x ∈ sds J ↔ ∃ (i : Nat) (r : Int × Int), J[i]? = some r ∧ (x = r.1 ∨ x = r.2) := by
  unfold sds
  rw [List.mem_flatMap]
  constructor
  · rintro ⟨r, hr, hx⟩
    obtain ⟨i, hi⟩ := List.getElem?_of_mem hr
    exact ⟨i, r, hi, by simpa using hx⟩
  · rintro ⟨i, r, hi, hx⟩
    exact ⟨r, List.mem_of_getElem? hi, by simpa using hx⟩
theorem rgI_mem {n : Nat} {w : Int} : w ∈ rgI n ↔ 0 ≤ w ∧ w < n := by
  unfold rgI
  rw [List.mem_map]
  constructor
  · rintro ⟨i, hi, rfl⟩
    have := List.mem_range.mp hi
    omega
  · rintro ⟨h0, h1⟩
    exact ⟨w.toNat, List.mem_range.mpr (by omega), by omega⟩
theorem root_only {n : Nat} {J : Jn} (h : JOk n J) {x : Int} (x0 : 0 ≤ x) (x1 : x < (n + J.length : Nat)) (hx : x ∉ sds J) : x = (n : Int) + J.length - 1 := by
  have := h.use.mem_iff.mpr (rgI_mem.mpr ⟨x0, x1⟩)
  rcases List.mem_append.mp this with q | q
  · exact absurd q hx
  · exact List.mem_singleton.mp q
theorem OvOk.at {n : Nat} {J : Jn} {O : List Int} (h : OvOk n J O) (hJ : JOk n J) {x : Int} (x0 : 0 ≤ x) (x1 : x < O.length) : x ∈ sds J ∧ ∃ (i : Nat) (r : Int × Int), J[i]? = some r ∧ (x = r.1 ∨ x = r.2) ∧ i < J.length ∧ O[x.toNat]? = some ((n + i : Nat) : Int) := by
  have hl := h.len
  have hx : x ∈ sds J := by
    by_cases q : x ∈ sds J
    · exact q
    · have := root_only hJ x0 (by omega) q
      omega
  obtain ⟨i, r, hr, hy⟩ := mem_sds.mp hx
  refine ⟨hx, i, r, hr, hy, (List.getElem?_eq_some_iff.mp hr).1, ?_⟩
  rcases hy with e | e
  · rw [e]; exact (h.hit i r hr).1
  · rw [e]; exact (h.hit i r hr).2
theorem OvOk.nx {n : Nat} {J : Jn} {O : List Int} (h : OvOk n J O) (hJ : JOk n J) {x : Int} (x0 : 0 ≤ x) (x1 : x < O.length) : ∃ (i : Nat) (r : Int × Int), J[i]? = some r ∧ (x = r.1 ∨ x = r.2) ∧ lenAt O x = ((n + i : Nat) : Int) ∧ x < lenAt O x ∧ i < J.length := by
  obtain ⟨_, i, r, hr, hy, hi, ho⟩ := h.at hJ x0 x1
  have e : lenAt O x = ((n + i : Nat) : Int) := by unfold lenAt; rw [ho]; rfl
  have hv := jv_at J n i r hJ.v hr
  refine ⟨i, r, hr, hy, e, ?_, hi⟩
  rw [e]
  rcases hy with q | q <;> omega
theorem whileN_i {c : PTs'} {body : PSt} {k : PK'} {n : Nat} {env : List SV} (h : c env fun b => if b = true then body env { nx := whileN c body k n, rt := k.rt, bk := k.nx, ct := whileN c body k n } else k.nx env) : whileN c body k (n + 1) env := h
theorem plnI (ns : List Int) {n : Nat} : plnA (n + 1) (ns.map D.int) = true := by
  rw [plnA_iff]
  intro x hx
  obtain ⟨a, _, rfl⟩ := List.mem_map.mp hx
  rfl
def noOwn1 : SV → Prop
  | .own _ => False
  | _ => True
/-! tables: the program -/
theorem cut_tk {xs : List D} {i : Nat} : Pu.cutD xs none (some (i : Int)) = xs.take i := by
  unfold Pu.cutD
  have h1 : HT.sIx xs.length xs.length (some ((i : Nat) : Int)) = min i xs.length := by
    unfold HT.sIx
    simp only []
    rw [if_neg (by omega), Int.toNat_natCast]
  rw [h1, HT.sIx_none, List.drop_zero, Nat.sub_zero]
  rcases Nat.le_total i xs.length with q | q
  · rw [Nat.min_eq_left q]
  · rw [Nat.min_eq_right q, List.take_length, List.take_of_length_le q]
theorem cut_dr (xs : List D) : Pu.cutD xs (some 1) none = xs.drop 1 := by
  cases xs with
  | nil => rfl
  | cons x xs => simpa using cut_tl (xs := x :: xs) (i := 1) (by simp)
theorem all8 {f : Nat → Bool} (h : (List.range 8).all f = true) {n : Nat} (hn : n ≤ 7) : f n = true := List.all_eq_true.mp h n (List.mem_range.mpr (by omega))
theorem fnd_len : ∀ (n : Nat), (fnd n).length = 2 ^ n
  | 0 => rfl
  | n + 1 => by
    unfold fnd
    rw [List.length_append, List.length_map, fnd_len n, Nat.pow_succ]
    omega
theorem fnd_mem : ∀ (n : Nat), ∀ c ∈ fnd n, c.length ≤ n
  | 0, c, h => by
    rw [show c = [] from List.mem_singleton.mp h]
    exact Nat.le_refl 0
  | n + 1, c, h => by
    unfold fnd at h
    rcases List.mem_append.mp h with q | q
    · have := fnd_mem n c q
      omega
    · obtain ⟨b, hb, rfl⟩ := List.mem_map.mp q
      have := fnd_mem n b hb
      rw [List.length_append, List.length_singleton]
      omega
theorem p128 {n : Nat} (h : n ≤ 7) : 2 ^ n ≤ 128 := Nat.pow_le_pow_right (by decide) h
theorem chs_perm (n : Nat) : (chs n).Perm ((msk n).map (mm n)) := foldr_perm _
theorem choices_i {n : Nat} {k : D → Prop} (hn : n ≤ 7) (h : k (.lst ((chs n).map tupI))) : wp_choices [.int n] k := by
  unfold wp_choices wpOf
  walk_at "psenv"
  unfold P_choices
  repeat walk_at "ps"
  refine rgK1_i (by omega) (by omega) ?_
  refine forP_i (fun i env => ∃ (v2 : SV), noOwn1 v2 ∧ env = [SV.val (.int n), SV.val (.lst ((fnd i).map tupI)), v2, SV.no]) _ 0 ⟨SV.no, trivial, rfl⟩ ?_ ?_
  · rintro i d env hd ⟨v2, _, rfl⟩ N hN
    obtain ⟨rfl, hi⟩ := rangeD_at hd
    rw [Nat.zero_add] at hN ⊢
    rw [Int.zero_add]
    have hl := fnd_len i
    have hp := p128 (n := i) (by omega)
    repeat walk_at "ps"
    refine ⟨by simp [noOwn], lcP_m tupI (fun c => tupI (c ++ [((i : Nat) : Int)])) (fnd i) (by omega) (fun c hc A B hA => ?_) ?_⟩
    · have hcl := fnd_mem i c hc
      unfold tupI at hA ⊢
      rw [List.map_append] at hA
      repeat walk_at "ps"
      refine dAdd_t (by rw [List.length_map]; show _ + 1 ≤ _; omega) ?_
      exact hA
    repeat walk_at "ps"
    refine dAdd_l (by rw [List.length_map, List.length_map]; omega) ?_
    have := hN _ ⟨SV.val (.int ((i : Nat) : Int)), trivial, rfl⟩
    unfold fnd at this
    rw [List.map_append, List.map_map] at this
    exact this
  · rintro env ⟨v2, _, rfl⟩
    rw [Nat.zero_add, rangeD_len, Int.toNat_natCast]
    have hl := fnd_len n
    have hp := p128 hn
    repeat walk_at "ps"
    refine ⟨by simp [noOwn], lcP_flt tupI (fun c => decide (1 < c.length)) tupI (fnd n) (by omega) (fun c hc A B hA hB => ?_) ?_⟩
    · unfold tupI at hA ⊢
      repeat walk_at "ps"
      rw [List.length_map]
      refine ite_d (fun q => ?_) (fun q => ?_)
      · repeat walk_at "ps"
        exact hA (decide_eq_true (by omega))
      · exact hB (decide_eq_false (by omega))
    have e := of_decide_eq_true (all8 T1 hn)
    rw [e]
    refine (?_ : gSortedN _ _)
    refine gSortedN_i (fun c hc => ?_) fun ys hp hs => ?_
    · obtain ⟨m, hm, rfl⟩ := List.mem_map.mp hc
      have := List.all_eq_true.mp (all8 T4 hn) m hm
      simp only [Bool.and_eq_true, decide_eq_true_eq] at this
      intro q
      rw [q] at this
      exact absurd this.2.2 (by decide)
    · rw [srt_uniq lexI_ne ys (chs n) (hp.trans (chs_perm n).symm) hs (of_decide_eq_true (all8 T2 hn))]
      exact h
abbrev ppI (p : List Int × List Int) : D := .tup [tupI p.1, tupI p.2]
theorem prtA_ok (e0 : List Int) : ∀ (es : List Int) (l : List (List Int × List Int)) (a b : Nat), (∀ p ∈ l, p.1.length ≤ a ∧ p.2.length ≤ b) → (∀ p ∈ es.foldl prtS l, p.1.length ≤ a + es.length ∧ p.2.length ≤ b + es.length) ∧ (es.foldl prtS l).length = l.length * 2 ^ es.length
  | [], l, a, b, h => ⟨h, by simp⟩
  | e :: es, l, a, b, h => by
    rw [List.foldl_cons]
    have := prtA_ok e0 es (prtS l e) (a + 1) (b + 1) fun p hp => by
      unfold prtS at hp
      rcases List.mem_append.mp hp with q | q
      · obtain ⟨x, hx, rfl⟩ := List.mem_map.mp q
        have := h x hx
        simp only [List.length_append, List.length_singleton]
        omega
      · obtain ⟨x, hx, rfl⟩ := List.mem_map.mp q
        have := h x hx
        simp only [List.length_append, List.length_singleton]
        omega
    refine ⟨fun p hp => ?_, ?_⟩
    · have := this.1 p hp
      rw [List.length_cons]
      omega
    · rw [this.2]
      unfold prtS
      rw [List.length_append, List.length_map, List.length_map, List.length_cons, Nat.pow_succ, Nat.mul_comm (2 ^ es.length) 2, ← Nat.mul_assoc]
      congr 1
      omega
theorem partings_i {c : List Int} {k : D → Prop} (hc : c.length ≤ 7) (h : k (.lst ((prt c).map ppI))) : wp_partings [tupI c] k := by
  unfold tupI wp_partings wpOf
  walk_at "psenv"
  unfold P_partings
  repeat walk_at "ps"
  rw [show (1 : Int) = ((1 : Nat) : Int) from rfl, cut_tk, ← List.map_take]
  rw [show ((1 : Nat) : Int) = 1 from rfl]
  repeat walk_at "ps"
  rw [cut_dr, ← List.map_drop]
  refine forP_i (fun i env => ∃ (v2 : SV), noOwn1 v2 ∧ env = [SV.val (.tup (c.map D.int)), SV.val (.lst ((((c.drop 1).take i).foldl prtS [(c.take 1, [])]).map ppI)), v2, SV.no, SV.no]) _ 0 ⟨SV.no, trivial, rfl⟩ ?_ ?_
  · rintro i d env hd ⟨v2, _, rfl⟩ N hN
    rw [List.getElem?_map] at hd
    obtain ⟨e, he, rfl⟩ := Option.map_eq_some_iff.mp hd
    rw [Nat.zero_add] at hN ⊢
    have hil := (List.getElem?_eq_some_iff.mp he).1
    rw [List.length_drop] at hil
    have et : (c.drop 1).take (i + 1) = (c.drop 1).take i ++ [e] := by rw [List.take_add_one, he]; rfl
    rw [et, List.foldl_append] at hN
    have ok := prtA_ok [] ((c.drop 1).take i) [(c.take 1, [])] 1 0 fun p hp => by
      rw [List.mem_singleton.mp hp]
      exact ⟨by rw [List.length_take]; omega, Nat.le_refl 0⟩
    have tl : ((c.drop 1).take i).length ≤ 7 := by rw [List.length_take, List.length_drop]; omega
    have pw := p128 tl
    generalize ((c.drop 1).take i).foldl prtS [(c.take 1, [])] = l at ok hN ⊢
    have ll : l.length ≤ 128 := by rw [ok.2]; simpa using pw
    repeat walk_at "ps"
    refine ⟨by simp [noOwn], lcP_m ppI (fun p => ppI (p.1 ++ [e], p.2)) l (by omega) (fun p hp A B hA => ?_) ?_⟩
    · have hb := ok.1 p hp
      unfold ppI tupI at hA ⊢
      dsimp only at hA
      rw [List.map_append] at hA
      repeat walk_at "ps"
      refine dAdd_t (by rw [List.length_map]; show _ + 1 ≤ _; omega) ?_
      repeat walk_at "ps"
      exact hA
    repeat walk_at "ps"
    refine ⟨by simp [noOwn], lcP_m ppI (fun p => ppI (p.1, p.2 ++ [e])) l (by omega) (fun p hp A B hA => ?_) ?_⟩
    · have hb := ok.1 p hp
      unfold ppI tupI at hA ⊢
      dsimp only at hA
      rw [List.map_append] at hA
      repeat walk_at "ps"
      refine dAdd_t (by rw [List.length_map]; show _ + 1 ≤ _; omega) ?_
      repeat walk_at "ps"
      exact hA
    repeat walk_at "ps"
    refine dAdd_l (by rw [List.length_map, List.length_map]; omega) ?_
    have := hN _ ⟨SV.val (.int e), trivial, rfl⟩
    simp only [List.foldl_cons, List.foldl_nil] at this
    unfold prtS at this
    rw [List.map_append, List.map_map, List.map_map] at this
    exact this
  · rintro env ⟨v2, _, rfl⟩
    rw [Nat.zero_add, List.length_map, List.take_length]
    have ok := prtA_ok [] (c.drop 1) [(c.take 1, [])] 1 0 fun p hp => by
      rw [List.mem_singleton.mp hp]
      exact ⟨by rw [List.length_take]; omega, Nat.le_refl 0⟩
    have tl : (c.drop 1).length ≤ 7 := by rw [List.length_drop]; omega
    have pw := p128 tl
    have ll : (prtA c).length ≤ 128 := by
      show ((c.drop 1).foldl prtS [(c.take 1, [])]).length ≤ 128
      rw [ok.2]
      simpa using pw
    have fin : (((c.drop 1).foldl prtS [(c.take 1, [])]).filter fun p => !decide (p.2 = [])) = prt c := rfl
    change (prtA c).length ≤ 128 at ll
    have ll2 : ((c.drop 1).foldl prtS [(c.take 1, [])]).length ≤ 128 := ll
    generalize (c.drop 1).foldl prtS [(c.take 1, [])] = l at fin ll2 ok ⊢
    repeat walk_at "ps"
    refine ⟨by simp [noOwn], lcP_flt ppI (fun p => !decide (p.2 = [])) ppI l (by omega) (fun p hp A B hA hB => ?_) ?_⟩
    · have hb := ok.1 p hp
      unfold ppI tupI at hA ⊢
      repeat walk_at "ps"
      refine dNe_i (by simp [pln]; exact plnI _) rfl fun c' hc' => ?_
      repeat walk_at "ps"
      cases c' with
      | true =>
        refine hB ?_
        have : p.2 = [] := by
          have := hc'.mp rfl
          simpa using this
        simp [this]
      | false =>
        have ne : ¬ p.2 = [] := fun q => by
          have := hc'.mpr (by rw [q]; rfl)
          cases this
        have hA' := hA (by simp [ne])
        repeat walk_at "ps"
        exact hA'
    rw [fin]
    repeat walk_at "ps"
    exact h
theorem lcP_fa {α : Type} {pg : PGt} {pt : PTs'} {pe : PX} {env : List SV} {k : List D → Prop} (e : α → D) (c : α → Bool) (f : α → D) : ∀ (xs : List α) (acc : List D), acc.length + xs.length ≤ 100000 →
    (∀ x ∈ xs, ∀ (A : D → Prop) (B : Prop), (c x = true → A (f x)) → (c x = false → B) → pg (e x) env fun env1 => pt env1 fun b => if b = true then pe env1 A else B) → k (acc ++ (xs.filter c).map f) → lcP pg pt pe env (xs.map e) acc k := by
  intro xs
  induction xs with
  | nil => intro acc _ _ hk; simp only [List.map_nil, lcP]; simpa using hk
  | cons x xs ih =>
    intro acc hl hs hk
    rw [List.map_cons]
    unfold lcP
    have hl' : acc.length + (xs.length + 1) ≤ 100000 := hl
    refine hs x List.mem_cons_self _ _ (fun hc => ?_) (fun hc => ?_)
    · refine ⟨by omega, ih _ (by simp; omega) (fun y h => hs y (List.mem_cons_of_mem _ h)) ?_⟩
      rw [List.filter_cons, if_pos hc, List.map_cons] at hk
      rw [List.append_assoc]
      exact hk
    · refine ih _ (by omega) (fun y h => hs y (List.mem_cons_of_mem _ h)) ?_
      rw [List.filter_cons, if_neg (by rw [hc]; exact Bool.false_ne_true)] at hk
      exact hk
theorem T8 : ((List.range 8).all fun n => (List.range (2 ^ n)).all fun m => nosg m || (decide (m = 0) || (List.range n).any fun e => decide (mm n m = [((e : Nat) : Int)]) && decide (m = 2 ^ e))) = true := by decide +kernel
theorem T9 : ((List.range 8).all fun n => (chs n).all fun c => (prt c).all fun p => decide (p.1 = mm n (mk p.1)) && decide (p.2 = mm n (mk p.2))) = true := by decide +kernel
theorem T10 : ((List.range 8).all fun n => decide ((chs n).length ≤ 120) && decide (mm n (2 ^ n - 1) = (List.range n).map fun i : Nat => ((i : Nat) : Int))) = true := by decide +kernel
/-- the height of some ends -/
def ht (E : List En) (c : List Int) : Int := maxI (c.flatMap fun x => c.map fun y => want (eAt E x) (eAt E y))
def stT (E : List En) : Int := 2 * (E.map En.s).sum
def ls (N : Nat → Int) (c : List Int) : Int := minI ((prt c).map fun p => N (mk p.1) + N (mk p.2))
theorem chs_at {n : Nat} (hn : n ≤ 7) {c : List Int} (h : c ∈ chs n) : c = mm n (mk c) ∧ mk c ∈ msk n ∧ 1 < c.length := by
  have := List.all_eq_true.mp (all8 T3 hn) c h
  simp only [Bool.and_eq_true, decide_eq_true_eq] at this
  exact this
theorem msk_at {n : Nat} (hn : n ≤ 7) {m : Nat} (h : m ∈ msk n) : mk (mm n m) = m ∧ m < 2 ^ n ∧ 1 < (mm n m).length ∧ mm n m ∈ chs n := by
  have := List.all_eq_true.mp (all8 T4 hn) m h
  simp only [Bool.and_eq_true, decide_eq_true_eq] at this
  exact ⟨this.1, this.2.1, this.2.2, (chs_perm n).mem_iff.mpr (List.mem_map.mpr ⟨m, h, rfl⟩)⟩
theorem msk_sg {n : Nat} (hn : n ≤ 7) {m : Nat} (h0 : 1 ≤ m) (h1 : m < 2 ^ n) : m ∈ msk n ∨ ∃ e, e < n ∧ mm n m = [((e : Nat) : Int)] ∧ m = 2 ^ e := by
  have := List.all_eq_true.mp (all8 T8 hn) m (List.mem_range.mpr h1)
  cases q : nosg m with
  | true => exact .inl (List.mem_filter.mpr ⟨List.mem_range.mpr h1, q⟩)
  | false =>
    rw [q, Bool.false_or, decide_eq_false (by omega), Bool.false_or, List.any_eq_true] at this
    obtain ⟨e, he, h⟩ := this
    simp only [Bool.and_eq_true, decide_eq_true_eq] at h
    exact .inr ⟨e, List.mem_range.mp he, h⟩
theorem mm_mem {n m : Nat} {x : Int} (h : x ∈ mm n m) : 0 ≤ x ∧ x < n := by
  obtain ⟨k, hk, rfl⟩ := List.mem_map.mp h
  have := List.mem_range.mp (List.mem_filter.mp hk).1
  omega
theorem mm_len {n m : Nat} : (mm n m).length ≤ n := by
  unfold mm
  rw [List.length_map]
  exact Nat.le_trans (List.length_filter_le _ _) (by rw [List.length_range]; exact Nat.le_refl _)
theorem sub_at {n : Nat} (hn : n ≤ 7) {m : Nat} (h : m ∈ msk n) : sub m ≠ [] ∧ ∀ q ∈ sub m, 1 ≤ q.1 ∧ 1 ≤ q.2 ∧ q.1 + q.2 = m ∧ m < 2 ^ n := by
  have := List.all_eq_true.mp (all8 T7 hn) m h
  rw [Bool.and_eq_true, List.all_eq_true] at this
  refine ⟨fun q => by rw [q] at this; exact absurd this.1 (by decide), fun q hq => ?_⟩
  have := this.2 q hq
  simp only [Bool.and_eq_true, decide_eq_true_eq] at this
  exact this
theorem prt_at {n : Nat} (hn : n ≤ 7) {c : List Int} (h : c ∈ chs n) {p : List Int × List Int} (hp : p ∈ prt c) : p.1 = mm n (mk p.1) ∧ p.2 = mm n (mk p.2) ∧ (mk p.1, mk p.2) ∈ sub (mk c) := by
  have h1 := List.all_eq_true.mp (List.all_eq_true.mp (all8 T9 hn) c h) p hp
  have h2 := List.all_eq_true.mp (List.all_eq_true.mp (all8 T5 hn) c h) p hp
  simp only [Bool.and_eq_true, decide_eq_true_eq] at h1 h2
  exact ⟨h1.1, h1.2, h2⟩
theorem prt_ne {n : Nat} (hn : n ≤ 7) {c : List Int} (h : c ∈ chs n) : prt c ≠ [] := fun q => by
  obtain ⟨h1, h2, _⟩ := chs_at hn h
  obtain ⟨s1, s2⟩ := sub_at hn h2
  obtain ⟨x, hx⟩ := List.exists_mem_of_ne_nil _ s1
  have := List.all_eq_true.mp (List.all_eq_true.mp (all8 T6 hn) _ h2) x hx
  rw [← h1, q] at this
  simp at this
theorem height_of_i {E : List En} {c : List Int} {k : D → Prop} (c0 : c ≠ []) (c7 : c.length ≤ 24) (hc : ∀ x ∈ c, 0 ≤ x ∧ x < E.length) (h : k (.int (ht E c))) : wp_height_of [.tup (E.map enD), tupI c] k := by
  unfold tupI wp_height_of wpOf
  walk_at "psenv"
  unfold P_height_of
  repeat walk_at "ps"
  have cc : c.length * c.length ≤ 24 * 24 := Nat.mul_le_mul c7 c7
  have at' : ∀ x ∈ c, E[x.toNat]? = some (eAt E x) := fun x hx => by
    have := hc x hx
    unfold eAt
    rw [List.getElem?_eq_getElem (show x.toNat < E.length by omega)]
    rfl
  refine ⟨by simp [noOwn], ?_⟩
  refine lcP2_g D.int (fun _ => c) (fun _ _ => true) (fun x y => D.int (want (eAt E x) (eAt E y))) c.length c (fun x hx => Nat.le_refl _) (by omega) (fun x hx acc A B hacc hA => ?_) ?_
  · repeat walk_at "ps"
    refine ⟨by simp [noOwn, wipeE], ?_⟩
    refine lcP_fa D.int (fun _ => true) (fun y => D.int (want (eAt E x) (eAt E y))) c acc hacc (fun y hy A B hA hB => ?_) hA
    repeat walk_at "ps"
    exact wanted_i (hc x hx).1 (hc y hy).1 (at' x hx) (at' y hy) (hA rfl)
  have e : (c.flatMap fun x => (c.filter fun _ => true).map fun y => D.int (want (eAt E x) (eAt E y))) = (c.flatMap fun x => c.map fun y => want (eAt E x) (eAt E y)).map D.int := by
    rw [flat_map_map]
    congr 1
    funext x
    rw [List.map_map, List.filter_eq_self.mpr (fun _ _ => rfl)]
    rfl
  rw [e]
  repeat walk_at "ps"
  refine gMaxL_i (intsD_map _) (fun q => ?_) ?_
  · obtain ⟨x, hx⟩ := List.exists_mem_of_ne_nil _ c0
    rw [List.flatMap_eq_nil_iff] at q
    have := q x hx
    rw [List.map_eq_nil_iff] at this
    exact c0 this
  repeat walk_at "ps"
  exact h
theorem started_i {E : List En} {k : D → Prop} (hE : E.length ≤ 24) (h : k (.int (stT E))) : wp_started [.tup (E.map enD)] k := by
  unfold wp_started wpOf
  walk_at "psenv"
  unfold P_started
  repeat walk_at "ps"
  refine ⟨by simp [noOwn], lcP_m enD (fun e => D.int e.s) E (by omega) (fun e he A B hA => ?_) ?_⟩
  · repeat walk_at "ps"
    exact hA
  repeat walk_at "ps"
  refine gSum_i (intsD_m2 _ _) ?_
  repeat walk_at "ps"
  exact h
abbrev tbD (n : Nat) (N : Nat → Int) : D := .tup ((chs n).map fun c => prI (c, N (mk c)))
structure OkN (n : Nat) (N : Nat → Int) : Prop where
  pos : ∀ m, 0 ≤ N m
  sg : ∀ e, e < n → N (2 ^ e) = 0
theorem numbers_of_i {n : Nat} {N : Nat → Int} {k : D → Prop} (hn : n ≤ 7) (hN : OkN n N) (h : ∀ ds : List (List Int × Int), (∀ m, 1 ≤ m → m < 2 ^ n → valT ds (mm n m) = some (N m)) → k (.dpr ds)) : wp_numbers_of [.int n, tbD n N] k := by
  have cl : (chs n).length ≤ 120 := by
    have := all8 T10 hn
    simp only [Bool.and_eq_true, decide_eq_true_eq] at this
    exact this.1
  unfold wp_numbers_of wpOf
  walk_at "psenv"
  unfold P_numbers_of
  repeat walk_at "ps"
  refine eDcG_i ?_
  repeat walk_at "ps"
  refine rgK1_i (by omega) (by omega) ⟨by simp [noOwn], ?_⟩
  refine dcQ_i (fun i d => ∃ ds : List (List Int × Int), d = .dpr ds ∧ ds.length ≤ i ∧ ∀ e : Nat, e < i → valT ds [((e : Nat) : Int)] = some 0) _ 0 ⟨[], rfl, Nat.le_refl 0, fun e he => absurd he (Nat.not_lt_zero e)⟩ ?_ ?_
  · rintro i d acc hd ⟨ds, rfl, hl, hv⟩ N' hN'
    obtain ⟨rfl, hi⟩ := rangeD_at hd
    rw [Nat.zero_add] at hl hv hN'
    rw [Int.zero_add]
    repeat walk_at "ps"
    refine ⟨_, putDD_t (ns := [((i : Nat) : Int)]) (by omega), hN' _ ⟨_, rfl, by have := putT_len ds [((i : Nat) : Int)] 0; omega, fun e he => ?_⟩⟩
    rw [valT_put]
    by_cases q : e = i
    · rw [q, if_pos rfl]
    · rw [if_neg (fun w => q (by have := (List.cons.inj w).1; omega))]
      exact hv e (by omega)
  · rintro _ ⟨ds, rfl, hl, hv⟩
    rw [rangeD_len, Nat.zero_add, Int.toNat_natCast] at hl hv
    refine ⟨by show 2 < 6; decide, ?_⟩
    repeat walk_at "ps"
    refine forP_i (fun j env => ∃ (ds : List (List Int × Int)) (v4 v5 : SV), env = [SV.val (.int n), SV.val (tbD n N), SV.own (.dpr ds), SV.no, v4, v5] ∧ ds.length ≤ n + j ∧ (∀ e : Nat, e < n → valT ds [((e : Nat) : Int)] = some 0) ∧ ∀ i < j, ∀ c, (chs n)[i]? = some c → valT ds c = some (N (mk c))) _ 0 ⟨ds, _, _, rfl, by omega, hv, fun i hi => absurd hi (Nat.not_lt_zero i)⟩ ?_ ?_
    · rintro j d env hd ⟨ds, v4, v5, rfl, hl, hv, hw⟩ N' hN'
      rw [Nat.zero_add] at hl hw hN'
      rw [List.getElem?_map] at hd
      obtain ⟨c, hc, rfl⟩ := Option.map_eq_some_iff.mp hd
      have hj := (List.getElem?_eq_some_iff.mp hc).1
      obtain ⟨_, _, c2⟩ := chs_at hn (List.mem_of_getElem? hc)
      unfold prI tupI
      dsimp only
      repeat walk_at "ps"
      refine sTputN_i rfl ?_
      repeat walk_at "ps"
      refine prKn_i ⟨by omega, ?_⟩
      refine hN' _ ⟨_, _, _, rfl, by have := putT_len ds c (N (mk c)); omega, fun e he => ?_, fun i hi c' hc' => ?_⟩
      · rw [valT_put, if_neg (fun q => by rw [← q] at c2; exact absurd c2 (by simp)), hv e he]
      · rw [valT_put]
        by_cases q : c' = c
        · rw [if_pos q, q]
        · rw [if_neg q]
          by_cases q2 : i = j
          · rw [q2, hc] at hc'
            exact absurd (Option.some.inj hc').symm q
          · exact hw i (by omega) c' hc'
    · rintro env ⟨ds, v4, v5, rfl, hl, hv, hw⟩
      rw [List.length_map, Nat.zero_add] at hw
      repeat walk_at "ps"
      refine h ds fun m m0 m1 => ?_
      rcases msk_sg hn m0 m1 with q | ⟨e, he, e1, e2⟩
      · obtain ⟨q1, _, _, q2⟩ := msk_at hn q
        obtain ⟨i, hi⟩ := List.getElem?_of_mem q2
        have := hw i (List.getElem?_eq_some_iff.mp hi).1 _ hi
        rw [q1] at this
        exact this
      · rw [e1, hv e he, e2, hN.sg e he]
theorem most_of_i {E : List En} {n : Nat} {N : Nat → Int} {ds : List (List Int × Int)} {c : List Int} {k : D → Prop} (he : E.length = n) (hn : n ≤ 7) (hd : ∀ m, 1 ≤ m → m < 2 ^ n → valT ds (mm n m) = some (N m)) (hc : c ∈ chs n) (h : k (.int (ht E c + ls N c))) : wp_most_of [.tup (E.map enD), .dpr ds, tupI c] k := by
  obtain ⟨e1, e2, e3⟩ := chs_at hn hc
  have cb : ∀ x ∈ c, 0 ≤ x ∧ x < E.length := fun x hx => by
    rw [e1] at hx
    have := mm_mem hx
    omega
  have c7 : c.length ≤ 7 := by rw [e1]; exact Nat.le_trans mm_len hn
  have sb := (sub_at hn e2).2
  unfold wp_most_of wpOf
  walk_at "psenv"
  unfold P_most_of
  repeat walk_at "ps"
  refine height_of_i (fun q => by rw [q] at e3; cases e3) (by omega) cb ?_
  repeat walk_at "ps"
  refine partings_i c7 ?_
  have pl : (prt c).length ≤ 128 := by
    have ok := prtA_ok [] (c.drop 1) [(c.take 1, [])] 1 0 fun p hp => by
      rw [List.mem_singleton.mp hp]
      exact ⟨by rw [List.length_take]; omega, Nat.le_refl 0⟩
    refine Nat.le_trans (List.length_filter_le _ _) ?_
    show ((c.drop 1).foldl prtS [(c.take 1, [])]).length ≤ 128
    rw [ok.2]
    simpa using p128 (n := (c.drop 1).length) (by rw [List.length_drop]; omega)
  repeat walk_at "ps"
  refine ⟨by simp [noOwn], lcP_m ppI (fun p => D.int (N (mk p.1) + N (mk p.2))) (prt c) (by omega) (fun p hp A B hA => ?_) ?_⟩
  · obtain ⟨p1, p2, p3⟩ := prt_at hn hc hp
    obtain ⟨q1, q2, q3, q4⟩ := sb _ p3
    have v1 := hd (mk p.1) q1 (by omega)
    have v2 := hd (mk p.2) q2 (by omega)
    rw [← p1] at v1
    rw [← p2] at v2
    unfold ppI tupI
    repeat walk_at "ps"
    refine dTgetN_i v1 ?_
    repeat walk_at "ps"
    refine dTgetN_i v2 ?_
    repeat walk_at "ps"
    exact hA
  repeat walk_at "ps"
  refine gMinL_i (intsD_m2 _ _) (fun q => prt_ne hn hc (List.map_eq_nil_iff.mp q)) ?_
  repeat walk_at "ps"
  exact h
theorem is_row_i {c : List Int} {v : Int} {k : D → Prop} (hv : 0 ≤ v) (h : k (.bl true)) : wp_is_row [tupI c, prI (c, v)] k := by
  unfold prI tupI wp_is_row wpOf
  walk_at "psenv"
  unfold P_is_row
  repeat walk_at "ps"
  refine ite_n (fun q => absurd rfl q) (fun _ => ?_)
  repeat walk_at "ps"
  refine are_wholes_i (by rw [List.length_map]) ?_
  repeat walk_at "ps"
  refine dEq_i (by simp only [pln]; exact plnI _) (by simp only [pln]; exact plnI _) fun c' hc' => ?_
  rw [hc'.mpr rfl]
  repeat walk_at "ps"
  refine is_whole_i ?_
  repeat walk_at "ps"
  rw [decide_eq_true (show v ≥ 0 from hv)]
  exact h
theorem has_form_i {n : Nat} {N : Nat → Int} {k : D → Prop} (hn : n ≤ 7) (hN : OkN n N) (h : k (.bl true)) : wp_has_form [.int n, tbD n N] k := by
  have cl : (chs n).length ≤ 120 := by
    have := all8 T10 hn
    simp only [Bool.and_eq_true, decide_eq_true_eq] at this
    exact this.1
  unfold wp_has_form wpOf
  walk_at "psenv"
  unfold P_has_form
  repeat walk_at "ps"
  refine choices_i hn ?_
  repeat walk_at "ps"
  rw [List.length_map, List.length_map]
  refine ite_n (fun q => absurd rfl q) (fun _ => ?_)
  repeat walk_at "ps"
  refine eAsk_i ?_
  repeat walk_at "ps"
  refine iZipPY_i ?_
  repeat walk_at "ps"
  refine zipKY_t ?_
  have ez : zipD ((chs n).map tupI) ((chs n).map fun c => prI (c, N (mk c))) = (chs n).map fun c => D.tup [tupI c, prI (c, N (mk c))] := by
    unfold zipD
    rw [List.zip_map', List.map_map]
    rfl
  rw [ez]
  refine ⟨by simp [noOwn], ?_⟩
  refine askP_i (fun c => D.tup [tupI c, prI (c, N (mk c))]) (fun _ => true) (chs n) (fun c hc k' hk => ?_) ?_
  · repeat walk_at "ps"
    exact is_row_i (hN.pos _) hk
  · rw [if_pos rfl, all_true]
    exact h
def allC (n : Nat) : List Int := (List.range n).map fun i : Nat => ((i : Nat) : Int)
def tsh (E : List En) (n : Nat) (N : Nat → Int) : D := if (chs n).any (fun c => decide (N (mk c) > ht E c + ls N c)) = true then .non else .int (N (2 ^ n - 1) + ht E (allC n) - stT E)
theorem table_i {E : List En} {n : Nat} {N : Nat → Int} {k : D → Prop} (he : E.length = n) (n0 : 1 ≤ n) (hn : n ≤ 7) (hN : OkN n N) (h : k (tsh E n N)) : wp_table_shown [.tup (E.map enD), tbD n N] k := by
  have elen : (((E.map enD).length : Nat) : Int) = (n : Int) := by rw [List.length_map, he]
  unfold wp_table_shown wpOf
  walk_at "psenv"
  unfold P_table_shown
  repeat walk_at "ps"
  rw [elen]
  refine ite_d (fun q => by omega) (fun _ => ?_)
  repeat walk_at "ps"
  refine has_form_i hn hN ?_
  repeat walk_at "ps"
  refine numbers_of_i hn hN fun ds hd => ?_
  repeat walk_at "ps"
  refine eAsk_i ?_
  repeat walk_at "ps"
  refine ⟨by simp [noOwn], ?_⟩
  refine askP_i (fun c => prI (c, N (mk c))) (fun c => decide (N (mk c) > ht E c + ls N c)) (chs n) (fun c hc k' hk => ?_) ?_
  · unfold prI
    repeat walk_at "ps"
    refine most_of_i he hn hd hc ?_
    repeat walk_at "ps"
    exact hk
  rw [if_neg Bool.false_ne_true]
  unfold tsh at h
  cases ha : (chs n).any fun c => decide (N (mk c) > ht E c + ls N c) with
  | true =>
    rw [ha, if_pos rfl] at h
    repeat walk_at "ps"
    exact h
  | false =>
    rw [ha, if_neg Bool.false_ne_true] at h
    repeat walk_at "ps"
    refine dRg_i (by omega) ?_
    have er : rangeD 0 ((n : Int) - 0).toNat = (allC n).map D.int := by
      unfold rangeD allC
      rw [List.map_map, show ((n : Int) - 0).toNat = n by omega]
      apply List.map_congr_left
      intro i _
      show D.int (0 + (i : Int)) = D.int (i : Int)
      rw [Int.zero_add]
    rw [er]
    have e2 : mm n (2 ^ n - 1) = allC n := by
      have := all8 T10 hn
      simp only [Bool.and_eq_true, decide_eq_true_eq] at this
      exact this.2
    have p0 : 2 ≤ 2 ^ n := by
      calc 2 = 2 ^ 1 := rfl
        _ ≤ 2 ^ n := Nat.pow_le_pow_right (by decide) n0
    have v := hd (2 ^ n - 1) (by omega) (by omega)
    rw [e2] at v
    repeat walk_at "ps"
    refine dTgetN_i v ?_
    repeat walk_at "ps"
    refine height_of_i (c := allC n) (fun q => ?_) (by unfold allC; rw [List.length_map, List.length_range]; omega) (fun x hx => ?_) ?_
    · have : (allC n).length = n := by unfold allC; rw [List.length_map, List.length_range]
      rw [q] at this
      simp at this
      omega
    · obtain ⟨i, hi, rfl⟩ := List.mem_map.mp hx
      have := List.mem_range.mp hi
      omega
    repeat walk_at "ps"
    refine started_i (by omega) ?_
    repeat walk_at "ps"
    exact h
/-! tables: the law's own measures -/
theorem rg_nat {n : Nat} {a : Int} (ha : a = (n : Nat)) : rangeD 0 a.toNat = (List.range n).map fun i : Nat => D.int ((i : Nat) : Int) := by
  unfold rangeD
  rw [ha, Int.toNat_natCast]
  apply List.map_congr_left
  intro i _
  rw [Int.zero_add]
theorem shl_i {n : Nat} {k : D → Prop} (hn : n ≤ 1000) (h : k (.int ((2 ^ n : Nat) : Int))) : dShl (.int 1) (.int (n : Int)) k := by
  refine dShl_i ⟨by omega, by omega, by decide⟩ ?_
  rw [Int.toNat_natCast, Int.one_mul, show ((2 : Int) ^ n) = ((2 ^ n : Nat) : Int) by rw [Int.natCast_pow]; rfl]
  exact h
theorem lwant_i {E : List En} {i j : Int} {k : D → Prop} (i0 : 0 ≤ i) (i1 : i < E.length) (j0 : 0 ≤ j) (j1 : j < E.length) (h : k (.int (want (eAt E i) (eAt E j)))) : wp__law_want [.tup (E.map enD), .int i, .int j] k := by
  unfold wp__law_want wpOf
  walk_at "psenv"
  unfold P__law_want
  repeat walk_at "ps"
  refine dIx_t (eAt_some i0 i1) ?_
  repeat walk_at "ps"
  refine dIx_t (eAt_some j0 j1) ?_
  repeat walk_at "ps"
  unfold want at h
  rw [← Int.add_assoc] at h
  exact h
theorem want_ge {p q : En} (hp : 0 ≤ p.s) (hq : 0 ≤ q.s) : 0 ≤ want p q := by unfold want; omega
theorem want_b {p q : En} (hp : OkE p) (hq : OkE q) : want p q ≤ 6000000 := by
  obtain ⟨⟨a1, a2⟩, ⟨a3, a4⟩, a5, a6, -⟩ := hp
  obtain ⟨⟨b1, b2⟩, ⟨b3, b4⟩, b5, b6, -⟩ := hq
  unfold want
  omega
theorem eAt_ok {E : List En} (ho : ∀ e ∈ E, OkE e) (i : Int) : OkE (eAt E i) := by
  unfold eAt
  cases q : E[i.toNat]? with
  | none => exact ⟨⟨by decide, by decide⟩, ⟨by decide, by decide⟩, by decide, by decide, by decide, by decide⟩
  | some e => exact ho e (List.mem_of_getElem? q)
theorem ht_b {E : List En} {c : List Int} (ho : ∀ e ∈ E, OkE e) (c0 : c ≠ []) : 0 ≤ ht E c ∧ ht E c ≤ 6000000 := by
  have : (c.flatMap fun x => c.map fun y => want (eAt E x) (eAt E y)) ≠ [] := fun q => by
    obtain ⟨x, hx⟩ := List.exists_mem_of_ne_nil _ c0
    rw [List.flatMap_eq_nil_iff] at q
    have := q x hx
    rw [List.map_eq_nil_iff] at this
    exact c0 this
  have := maxI_mem this
  obtain ⟨x, _, h⟩ := List.mem_flatMap.mp this
  obtain ⟨y, _, h⟩ := List.mem_map.mp h
  unfold ht
  rw [← h]
  exact ⟨want_ge (eAt_ok ho x).2.2.1 (eAt_ok ho y).2.2.1, want_b (eAt_ok ho x) (eAt_ok ho y)⟩
theorem lheight_i {E : List En} {c : List Int} {k : D → Prop} (ho : ∀ e ∈ E, OkE e) (c0 : c ≠ []) (c7 : c.length ≤ 24) (hc : ∀ x ∈ c, 0 ≤ x ∧ x < E.length) (h : k (.int (ht E c))) : wp__law_height [.tup (E.map enD), tupI c] k := by
  unfold tupI wp__law_height wpOf
  walk_at "psenv"
  unfold P__law_height
  repeat walk_at "ps"
  refine forP_i (fun i env => ∃ (b : Int) (v3 : SV), env = [SV.val (.tup (E.map enD)), SV.val (.tup (c.map D.int)), SV.val (.int b), v3, SV.no] ∧ (b = 0 ∨ ∃ x ∈ c, ∃ y ∈ c, b = want (eAt E x) (eAt E y)) ∧ 0 ≤ b ∧ ∀ j < i, ∀ x, c[j]? = some x → ∀ y ∈ c, want (eAt E x) (eAt E y) ≤ b) _ 0 ⟨0, SV.no, rfl, .inl rfl, by decide, fun j hj => absurd hj (Nat.not_lt_zero j)⟩ ?_ ?_
  · rintro i d env hd ⟨b, v3, rfl, h1, h2, h3⟩ N hN
    rw [Nat.zero_add] at h3 hN
    rw [List.getElem?_map] at hd
    obtain ⟨x, hx, rfl⟩ := Option.map_eq_some_iff.mp hd
    have xc := List.mem_of_getElem? hx
    have hxc := hc x xc
    repeat walk_at "ps"
    refine ⟨by simp [noOwn], ?_⟩
    refine lcP_m D.int (fun y => D.int (want (eAt E x) (eAt E y))) c (by omega) (fun y hy A B hA => ?_) ?_
    · repeat walk_at "ps"
      exact lwant_i hxc.1 hxc.2 (hc y hy).1 (hc y hy).2 hA
    repeat walk_at "ps"
    refine dAdd_l (by rw [List.length_map]; show 1 + _ ≤ _; omega) ?_
    have e : [D.int b] ++ (c.map fun y => D.int (want (eAt E x) (eAt E y))) = (b :: c.map fun y => want (eAt E x) (eAt E y)).map D.int := by
      rw [List.map_cons, List.map_map]
      rfl
    rw [e]
    repeat walk_at "ps"
    refine gMaxL_i (intsD_map _) (List.cons_ne_nil _ _) ?_
    repeat walk_at "ps"
    have le : ∀ y ∈ c, want (eAt E x) (eAt E y) ≤ maxI (b :: c.map fun y => want (eAt E x) (eAt E y)) := fun y hy => maxI_le (List.mem_cons_of_mem _ (List.mem_map.mpr ⟨y, hy, rfl⟩))
    have lb : b ≤ maxI (b :: c.map fun y => want (eAt E x) (eAt E y)) := maxI_le List.mem_cons_self
    have mm := maxI_mem (List.cons_ne_nil b (c.map fun y => want (eAt E x) (eAt E y)))
    refine hN _ ⟨_, _, rfl, ?_, by omega, fun j hj x' hx' y hy => ?_⟩
    · rcases List.mem_cons.mp mm with q | q
      · rw [q]; exact h1
      · obtain ⟨y, hy, q⟩ := List.mem_map.mp q
        exact .inr ⟨x, xc, y, hy, q.symm⟩
    · by_cases q : j = i
      · rw [q, hx] at hx'
        rw [← Option.some.inj hx']
        exact le y hy
      · have := h3 j (by omega) x' hx' y hy
        omega
  · rintro env ⟨b, v3, rfl, h1, h2, h3⟩
    rw [List.length_map, Nat.zero_add] at h3
    have e : b = ht E c := by
      refine maxI_eq ?_ fun y hy => ?_
      · rcases h1 with q | ⟨x, hx, y, hy, q⟩
        · obtain ⟨x, hx⟩ := List.exists_mem_of_ne_nil _ c0
          obtain ⟨j, hj⟩ := List.getElem?_of_mem hx
          have := h3 j (List.getElem?_eq_some_iff.mp hj).1 x hj x hx
          have ge := want_ge (eAt_ok ho x).2.2.1 (eAt_ok ho x).2.2.1
          exact List.mem_flatMap.mpr ⟨x, hx, List.mem_map.mpr ⟨x, hx, by omega⟩⟩
        · rw [q]
          exact List.mem_flatMap.mpr ⟨x, hx, List.mem_map.mpr ⟨y, hy, rfl⟩⟩
      · obtain ⟨x, hx, hy⟩ := List.mem_flatMap.mp hy
        obtain ⟨z, hz, rfl⟩ := List.mem_map.mp hy
        obtain ⟨j, hj⟩ := List.getElem?_of_mem hx
        exact h3 j (List.getElem?_eq_some_iff.mp hj).1 x hj z hz
    repeat walk_at "ps"
    rw [e]
    exact h
theorem lstarts_i {E : List En} {k : D → Prop} (hE : E.length ≤ 24) (h : k (.int (stT E))) : wp__law_starts [.tup (E.map enD)] k := by
  unfold wp__law_starts wpOf
  walk_at "psenv"
  unfold P__law_starts
  repeat walk_at "ps"
  refine ⟨by simp [noOwn], lcP_m enD (fun e => D.int e.s) E (by omega) (fun e he A B hA => ?_) ?_⟩
  · repeat walk_at "ps"
    exact hA
  repeat walk_at "ps"
  refine gSum_i (intsD_m2 _ _) ?_
  repeat walk_at "ps"
  exact h
theorem place_i {way : Int} {k : D → Prop} (h : ∀ x y : Int, OkI x → OkI y → k (.tup [.int x, .int y])) : wp__law_place [.deck 6, .int way] k := by
  have edge : ∀ t u : Int, 0 ≤ t → t < 3 → 0 ≤ u → u < 2 → OkI ((1000000 - t) * (1 - 2 * u)) := fun t u t0 t1 u0 u1 => by
    have : u = 0 ∨ u = 1 := by omega
    rcases this with rfl | rfl <;> exact ⟨by omega, by omega⟩
  unfold wp__law_place wpOf
  walk_at "psenv"
  unfold P__law_place
  repeat walk_at "ps"
  refine ite_d (fun _ => ?_) (fun _ => ?_)
  · repeat walk_at "ps"
    refine take_i (by decide) (by decide) fun t t0 t1 => ?_
    repeat walk_at "ps"
    refine take_i (by decide) (by decide) fun u u0 u1 => ?_
    repeat walk_at "ps"
    exact h _ _ ⟨by omega, by omega⟩ ⟨by omega, by omega⟩
  repeat walk_at "ps"
  refine ite_d (fun _ => ?_) (fun _ => ?_)
  · repeat walk_at "ps"
    refine take_i (by decide) (by decide) fun t t0 t1 => ?_
    repeat walk_at "ps"
    exact h _ _ ⟨by omega, by omega⟩ ⟨by omega, by omega⟩
  repeat walk_at "ps"
  refine sSeq_ifs ?_
  repeat walk_at "ps"
  refine ite_d (fun _ => ?_) (fun _ => ?_)
  · repeat walk_at "ps"
    refine take_i (by decide) (by decide) fun t t0 t1 => ?_
    repeat walk_at "ps"
    exact h _ _ ⟨by omega, by omega⟩ ⟨by omega, by omega⟩
  repeat walk_at "ps"
  refine sSeq_ifs ?_
  repeat walk_at "ps"
  refine ite_d (fun _ => ?_) (fun _ => ?_)
  · repeat walk_at "ps"
    refine take_i (by decide) (by decide) fun t t0 t1 => ?_
    repeat walk_at "ps"
    refine take_i (by decide) (by decide) fun u u0 u1 => ?_
    repeat walk_at "ps"
    refine take_i (by decide) (by decide) fun t' t0' t1' => ?_
    repeat walk_at "ps"
    refine take_i (by decide) (by decide) fun u' u0' u1' => ?_
    repeat walk_at "ps"
    exact h _ _ (edge t u t0 t1 u0 u1) (edge t' u' t0' t1' u0' u1')
  repeat walk_at "ps"
  refine ite_d (fun _ => ?_) (fun _ => ?_)
  · repeat walk_at "ps"
    refine take_i (by decide) (by decide) fun t t0 t1 => ?_
    repeat walk_at "ps"
    refine take_i (by decide) (by decide) fun u u0 u1 => ?_
    repeat walk_at "ps"
    exact h _ _ ⟨by omega, by omega⟩ ⟨by omega, by omega⟩
  repeat walk_at "ps"
  refine take_i (by decide) (by decide) fun t t0 t1 => ?_
  repeat walk_at "ps"
  refine take_i (by decide) (by decide) fun u u0 u1 => ?_
  repeat walk_at "ps"
  exact h _ _ ⟨by omega, by omega⟩ ⟨by omega, by omega⟩
/-! tables: ends, the least numbers, their table -/
theorem endsF_i {n : Nat} {k : D → Prop} (n1 : n ≤ 24) (h : ∀ es : List En, es.length = n → (∀ e ∈ es, OkE e) → k (.tup (es.map enD))) : wp__law_ends [.deck 6, .int n] k := by
  unfold wp__law_ends wpOf
  walk_at "psenv"
  unfold P__law_ends
  repeat walk_at "ps"
  refine take_i (by decide) (by decide) fun way w0 w1 => ?_
  repeat walk_at "ps"
  refine take_i (by decide) (by decide) fun la la0 la1 => ?_
  repeat walk_at "ps"
  refine sSeq_forC ?_
  repeat walk_at "ps"
  refine rgK1_i (by omega) (by omega) ⟨by rw [rangeD_len]; omega, ?_⟩
  refine forP_i (fun i env => ∃ (es : List En) (v5 v6 v7 v8 : SV), env = [SV.val (.deck 6), SV.val (.int n), SV.val (.int way), SV.val (.int la), SV.own (.lst (es.map enD)), v5, v6, v7, v8] ∧ es.length = i ∧ ∀ e ∈ es, OkE e) _ 0 ⟨[], _, _, _, _, rfl, rfl, fun _ q => nomatch q⟩ ?_ ?_
  · rintro i d env hd ⟨es, v5, v6, v7, v8, rfl, hl, ho⟩ N hN
    obtain ⟨rfl, hi⟩ := rangeD_at hd
    repeat walk_at "ps"
    refine place_i fun x y hx hy => ?_
    repeat walk_at "ps"
    refine sSeq_mid (fun env => ∃ (px py : Int), OkI px ∧ OkI py ∧ env = [SV.val (.deck 6), SV.val (.int n), SV.val (.int way), SV.val (.int la), SV.own (.lst (es.map enD)), SV.val (.int (0 + (i : Nat))), SV.val (.int px), SV.val (.int py), v8]) ?_ ?_
    · intro N' hN'
      have skip : N' [SV.val (.deck 6), SV.val (.int n), SV.val (.int way), SV.val (.int la), SV.own (.lst (es.map enD)), SV.val (.int (0 + (i : Nat))), SV.val (.int x), SV.val (.int y), v8] := hN' _ ⟨x, y, hx, hy, rfl⟩
      repeat walk_at "ps"
      refine dNe_nil (plnEn es) ?_
      repeat walk_at "ps"
      refine ite_n (fun hne => ?_) (fun _ => skip)
      have hpos : 0 < es.length := List.length_pos_iff.mpr fun q => hne (by rw [q]; rfl)
      repeat walk_at "ps"
      refine take_i (by decide) (by decide) fun t t0 t1 => ?_
      repeat walk_at "ps"
      refine ite_d (fun _ => ?_) (fun _ => skip)
      repeat walk_at "ps"
      refine take_i (by rw [List.length_map]; omega) (by rw [List.length_map]; omega) fun j j0 j1 => ?_
      refine dIx_in j0 j1 fun d hd => ?_
      obtain ⟨e, he, rfl⟩ := List.mem_map.mp hd
      repeat walk_at "ps"
      have hoe := ho e he
      exact hN' _ ⟨e.x, e.y, hoe.1, hoe.2.1, rfl⟩
    · rintro env ⟨px, py, hpx, hpy, rfl⟩
      repeat walk_at "ps"
      refine sSeq_mid (fun env => ∃ (s : Int), (0 ≤ s ∧ s ≤ 1000000) ∧ env = [SV.val (.deck 6), SV.val (.int n), SV.val (.int way), SV.val (.int la), SV.own (.lst (es.map enD)), SV.val (.int (0 + (i : Nat))), SV.val (.int px), SV.val (.int py), SV.val (.int s)]) ?_ ?_
      · intro N' hN'
        repeat walk_at "ps"
        refine ite_d (fun _ => ?_) (fun _ => hN' _ ⟨0, ⟨by decide, by decide⟩, rfl⟩)
        repeat walk_at "ps"
        refine take_i (by decide) (by decide) fun t t0 t1 => ?_
        exact hN' _ ⟨t, ⟨t0, by omega⟩, rfl⟩
      rintro env ⟨s, hs, rfl⟩
      repeat walk_at "ps"
      refine sSeq_mid (fun env => ∃ (s : Int), (0 ≤ s ∧ s ≤ 1000000) ∧ env = [SV.val (.deck 6), SV.val (.int n), SV.val (.int way), SV.val (.int la), SV.own (.lst (es.map enD)), SV.val (.int (0 + (i : Nat))), SV.val (.int px), SV.val (.int py), SV.val (.int s)]) ?_ ?_
      · intro N' hN'
        repeat walk_at "ps"
        refine ite_d (fun _ => ?_) (fun _ => hN' _ ⟨s, hs, rfl⟩)
        repeat walk_at "ps"
        refine take_i (by decide) (by decide) fun t t0 t1 => dIx_in t0 t1 fun d hd => ?_
        have hd : ∃ s : Int, d = .int s ∧ 0 ≤ s ∧ s ≤ 1000000 := by
          simp only [List.mem_cons, List.not_mem_nil, or_false] at hd
          rcases hd with rfl | rfl | rfl <;> exact ⟨_, rfl, by decide, by decide⟩
        obtain ⟨s', rfl, hs'⟩ := hd
        exact hN' _ ⟨s', hs', rfl⟩
      rintro env ⟨s, hs, rfl⟩
      repeat walk_at "ps"
      refine take_i (by decide) (by decide) fun t t0 t1 => dIx_in t0 t1 fun d hd => ?_
      have hd : ∃ l : Int, d = .int l ∧ 0 ≤ l ∧ l ≤ 1000000 := by
        simp only [List.mem_cons, List.not_mem_nil, or_false] at hd
        rcases hd with rfl | rfl | rfl <;> exact ⟨_, rfl, by decide, by decide⟩
      obtain ⟨l, rfl, hl'⟩ := hd
      repeat walk_at "ps"
      refine ⟨by rw [List.length_map]; omega, hN _ ⟨es ++ [⟨px, py, s, l⟩], _, _, _, _, by rw [List.map_append]; rfl, by simp [hl], fun e he => ?_⟩⟩
      rcases List.mem_append.mp he with q | q
      · exact ho e q
      · rw [List.mem_singleton.mp q]; exact ⟨hpx, hpy, hs.1, hs.2, hl'⟩
  · rintro env ⟨es, v5, v6, v7, v8, rfl, hl, ho⟩
    rw [rangeD_len] at hl
    repeat walk_at "ps"
    exact h es (by omega) ho
theorem while_i {c : PTs'} {body : PSt} {K : PK'} (Inv : Nat → List SV → Prop) (hs : ∀ n env, Inv n env → ∀ N : List SV → Prop, (∀ m e, n = m + 1 → Inv m e → N e) → c env fun b => if b = true then body env { nx := N, rt := K.rt, bk := K.nx, ct := N } else K.nx env) : ∀ (n : Nat) (env : List SV), Inv n env → whileN c body K (n + 1) env
  | 0, env, h => whileN_i (hs 0 env h _ fun m e q => by omega)
  | n + 1, env, h => whileN_i (hs (n + 1) env h _ fun m e q hm => by
      cases q
      exact while_i Inv hs n e hm)
theorem sWhile_i {c : PTs'} {body : PSt} {env : List SV} {K : PK'} (Inv : Nat → List SV → Prop) (n : Nat) (h : Inv n env) (hs : ∀ n env, Inv n env → ∀ N : List SV → Prop, (∀ m e, n = m + 1 → Inv m e → N e) → c env fun b => if b = true then body env { nx := N, rt := K.rt, bk := K.nx, ct := N } else K.nx env) : sWhile c body env K := ⟨n + 1, while_i Inv hs n env h⟩
theorem dic0_i {env : List SV} {k : D → Prop} (h : k (.dic [])) : eDic0 env k := h
def kz (i : Nat) (N : Nat → Int) : List (Int × Int) := (List.range i).map fun j => (((j + 1 : Nat) : Int), N (j + 1))
def upN (N : Nat → Int) (m : Nat) (v : Int) : Nat → Int := fun x => if x = m then v else N x
theorem zD_kz {i : Nat} {N : Nat → Int} : zD (kz i N) = (List.range i).map fun j => ((Sum.inl ((j + 1 : Nat) : Int) : Key), D.int (N (j + 1))) := by
  unfold zD kz
  rw [List.map_map]
  rfl
theorem putD_new {i : Nat} {N : Nat → Int} {v : Int} : putD (zD (kz i N)) (.inl ((i + 1 : Nat) : Int)) (.int v) = zD (kz (i + 1) (upN N (i + 1) v)) := by
  rw [zD_kz, zD_kz]
  unfold putD
  rw [if_neg, List.range_succ, List.map_append]
  · congr 1
    · apply List.map_congr_left
      intro j hj
      have := List.mem_range.mp hj
      unfold upN
      rw [if_neg (by omega)]
    · simp [upN]
  · rw [List.any_map, List.any_eq_true]
    rintro ⟨j, hj, q⟩
    have := List.mem_range.mp hj
    have q := of_decide_eq_true q
    have q := Sum.inl.inj q
    omega
theorem putD_old {i m : Nat} {N : Nat → Int} {v : Int} (m0 : 1 ≤ m) (m1 : m ≤ i) : putD (zD (kz i N)) (.inl (m : Int)) (.int v) = zD (kz i (upN N m v)) := by
  rw [zD_kz, zD_kz]
  unfold putD
  rw [if_pos, List.map_map]
  · apply List.map_congr_left
    intro j hj
    unfold upN
    simp only [Function.comp_apply, Sum.inl.injEq]
    by_cases q : j + 1 = m
    · rw [if_pos (by omega), if_pos q]
    · rw [if_neg (by omega), if_neg q]
  · rw [List.any_map, List.any_eq_true]
    refine ⟨m - 1, List.mem_range.mpr (by omega), decide_eq_true ?_⟩
    show (Sum.inl ((m - 1 + 1 : Nat) : Int) : Key) = _
    rw [show m - 1 + 1 = m by omega]
theorem valZ_kz {m : Nat} {N : Nat → Int} (m0 : 1 ≤ m) : ∀ {i : Nat}, m ≤ i → valZ (kz i N) (m : Int) = some (N m)
  | 0, h => by omega
  | i + 1, h => by
    have e : kz (i + 1) N = kz i N ++ [(((i + 1 : Nat) : Int), N (i + 1))] := by unfold kz; rw [List.range_succ, List.map_append]; rfl
    unfold valZ
    rw [e, List.find?_append]
    by_cases q : m ≤ i
    · have := valZ_kz (N := N) m0 q
      unfold valZ at this
      obtain ⟨p, hp, e2⟩ := Option.map_eq_some_iff.mp this
      rw [hp, Option.some_or, Option.map_some, e2]
    · have qe : m = i + 1 := by omega
      subst qe
      have : (kz i N).find? (fun p => decide (p.1 = ((i + 1 : Nat) : Int))) = none := by
        rw [List.find?_eq_none]
        intro p hp
        unfold kz at hp
        obtain ⟨j, hj, rfl⟩ := List.mem_map.mp hp
        have := List.mem_range.mp hj
        simp only [decide_eq_true_eq]
        omega
      rw [this, Option.none_or, List.find?_cons, decide_eq_true rfl]
      rfl
theorem valD_zD : ∀ (ds : List (Int × Int)) (n : Int), valD (zD ds) (.inl n) = (valZ ds n).map D.int
  | [], n => rfl
  | p :: ds, n => by
    have ih := valD_zD ds n
    unfold valD valZ zD at ih ⊢
    rw [List.map_cons, List.find?_cons, List.find?_cons]
    by_cases q : p.1 = n
    · rw [decide_eq_true (show (Sum.inl p.1 : Key) = Sum.inl n by rw [q]), decide_eq_true q]
      rfl
    · rw [decide_eq_false (fun w => q (Sum.inl.inj w)), decide_eq_false q]
      exact ih
theorem valD_kz {i m : Nat} {N : Nat → Int} (m0 : 1 ≤ m) (m1 : m ≤ i) : valD (zD (kz i N)) (.inl (m : Int)) = some (.int (N m)) := by rw [valD_zD, valZ_kz m0 m1]; rfl
theorem kz_len {i : Nat} {N : Nat → Int} : (zD (kz i N)).length = i := by rw [zD_kz, List.length_map, List.length_range]
structure Lst (E : List En) (n : Nat) (N : Nat → Int) (i : Nat) : Prop where
  on : ∀ m, m ≤ i → m ∈ msk n → N m = ht E (mm n m) + minI ((sub m).map fun q => N q.1 + N q.2)
  off : ∀ m, i < m ∨ m ∉ msk n → N m = 0
theorem up_same {N : Nat → Int} {m : Nat} {v : Int} (h : N m = v) : upN N m v = N := by
  funext x
  unfold upN
  split
  · rename_i q; rw [q, h]
  · rfl
/-! tables: the law's own judge -/
theorem sub_prt {n : Nat} (hn : n ≤ 7) {m : Nat} (h : m ∈ msk n) {N : Nat → Int} {q : Nat × Nat} (hq : q ∈ sub m) : ls N (mm n m) ≤ N q.1 + N q.2 := by
  have h6 := List.all_eq_true.mp (List.all_eq_true.mp (all8 T6 hn) m h) q hq
  obtain ⟨a, b, c, d⟩ := (sub_at hn h).2 q hq
  have bk : ∀ m', 1 ≤ m' → m' < 2 ^ n → mk (mm n m') = m' := fun m' h0 h1 => by
    rcases msk_sg hn h0 h1 with w | ⟨e, _, e1, e2⟩
    · exact (msk_at hn w).1
    · rw [e1, e2]
      show 2 ^ (((e : Nat) : Int).toNat) + 0 = _
      rw [Int.toNat_natCast, Nat.add_zero]
  have b1 := bk q.1 a (by omega)
  have b2 := bk q.2 b (by omega)
  unfold ls
  rw [Bool.or_eq_true, decide_eq_true_eq, decide_eq_true_eq] at h6
  rcases h6 with w | w
  · have := minI_le (List.mem_map.mpr ⟨_, w, rfl⟩ : N (mk (mm n q.1)) + N (mk (mm n q.2)) ∈ (prt (mm n m)).map fun p => N (mk p.1) + N (mk p.2))
    rw [b1, b2] at this
    exact this
  · have := minI_le (List.mem_map.mpr ⟨_, w, rfl⟩ : N (mk (mm n q.2)) + N (mk (mm n q.1)) ∈ (prt (mm n m)).map fun p => N (mk p.1) + N (mk p.2))
    rw [b1, b2, Int.add_comm] at this
    exact this
theorem prt_sub {n : Nat} (hn : n ≤ 7) {c : List Int} (h : c ∈ chs n) {N : Nat → Int} : ∃ q ∈ sub (mk c), ls N c = N q.1 + N q.2 := by
  have := minI_mem (ns := (prt c).map fun p => N (mk p.1) + N (mk p.2)) (fun w => prt_ne hn h (List.map_eq_nil_iff.mp w))
  obtain ⟨p, hp, e⟩ := List.mem_map.mp this
  exact ⟨_, (prt_at hn h hp).2.2, e.symm⟩
theorem tsh_non {E : List En} {n m : Nat} {N : Nat → Int} (hn : n ≤ 7) (h : m ∈ msk n) {q : Nat × Nat} (hq : q ∈ sub m) (w : N m > ht E (mm n m) + N q.1 + N q.2) : tsh E n N = .non := by
  unfold tsh
  rw [if_pos]
  obtain ⟨a, _, _, b⟩ := msk_at hn h
  refine List.any_eq_true.mpr ⟨_, b, decide_eq_true ?_⟩
  rw [a]
  have := sub_prt (N := N) hn h hq
  omega
theorem tsh_int {E : List En} {n : Nat} {N : Nat → Int} (hn : n ≤ 7) (h : ∀ m ∈ msk n, ∀ q ∈ sub m, N m ≤ ht E (mm n m) + N q.1 + N q.2) : tsh E n N = .int (N (2 ^ n - 1) + ht E (allC n) - stT E) := by
  unfold tsh
  rw [if_neg]
  intro w
  obtain ⟨c, hc, w⟩ := List.any_eq_true.mp w
  have w := of_decide_eq_true w
  obtain ⟨e1, e2, _⟩ := chs_at hn hc
  obtain ⟨q, hq, e⟩ := prt_sub (N := N) hn hc
  have := h _ e2 q hq
  rw [← e1] at this
  omega
theorem tsh_one {E : List En} {N : Nat → Int} (he : E.length = 1) (hN : OkN 1 N) : tsh E 1 N = .int 0 := by
  have e1 := hN.sg 0 (by decide)
  rw [tsh_int (by decide) (fun m hm => by rw [show msk 1 = [] from rfl] at hm; cases hm)]
  match E, he with
  | [e], _ =>
    have h1 : ht [e] (allC 1) = want e e := rfl
    have h2 : stT [e] = 2 * (e.s + 0) := rfl
    rw [show (2 ^ 1 - 1 : Nat) = 2 ^ 0 from rfl, e1, h1, h2]
    unfold want
    congr 1
    omega
theorem sSeq_while {c : PTs'} {b Q : PSt} {env : List SV} {K : PK'} (h : sWhile c b env { K with nx := fun env' => Q env' K }) : sSeq (sWhile c b) Q env K := h
/-! ### nests, tied -/
inductive Nt where
  | lf (n : Int) | pr (a b : Nt)
def Nt.d : Nt → D
  | .lf n => .int n
  | .pr a b => .tup [a.d, b.d]
def Nt.h : Nt → Nat
  | .lf _ => 1
  | .pr a b => 1 + max a.h b.h
def Nt.sz : Nt → Nat
  | .lf _ => 0
  | .pr a b => a.sz + b.sz + 1
abbrev pD (r : Int × Int) : D := .tup [.int r.1, .int r.2]
def tieF (n : Int) : Nt → List (Int × Int) → Int × List (Int × Int)
  | .lf i, rows => (i, rows)
  | .pr a b, rows => (n + ((tieF n b (tieF n a rows).2).2.length : Nat), (tieF n b (tieF n a rows).2).2 ++ [((tieF n a rows).1, (tieF n b (tieF n a rows).2).1)])
theorem tieF_len (n : Int) : ∀ (t : Nt) (rows : List (Int × Int)), (tieF n t rows).2.length = rows.length + t.sz
  | .lf _, rows => rfl
  | .pr a b, rows => by
    simp only [tieF, Nt.sz, List.length_append, List.length_cons, List.length_nil]
    rw [tieF_len n b, tieF_len n a]; omega
theorem lendS_b {i r : Nat} {wp : List D → List D → (D → List D → Prop) → Prop} {g : PAs} {env : List SV} {k : PK'} {cs : List D} (e : env[r]? = some (.own (.bor cs))) (h : g env fun ds => wp ds cs fun d cs' => k.nx ((env.set r (.own (.bor cs'))).set i (.val d))) : sLendS i r wp g env k := by
  unfold sLendS lendP; rw [e]; exact h
theorem lend_l {r : Nat} {wp : List D → List D → (D → List D → Prop) → Prop} {g : PAs} {env : List SV} {k : PK'} {cs : List D} (e : env[r]? = some (.own (.lst cs))) (h : g env fun ds => wp ds cs fun d cs' => k.nx (env.set r (.own (.lst cs')))) : sLend r wp g env k := by
  unfold sLend lendP; rw [e]; exact h
theorem append_b {i : Nat} {p : PX} {env : List SV} {k : PK'} {xs : List D} (e : env[i]? = some (.own (.bor xs))) (h : p env fun d => xs.length ≤ 100000 ∧ k.nx (env.set i (.own (.bor (xs ++ [d]))))) : sAppend i p env k := by
  unfold sAppend; rw [e]; exact h
theorem eO_b {i : Nat} {env : List SV} {xs : List D} {k : D → Prop} (e : env[i]? = some (.own (.bor xs))) (h : k (.lst xs)) : eO i env k := by unfold eO; rw [e]; exact h
theorem sRetB_i {p : PX} {env : List SV} {k : PK'} (h : p env fun d => k.re env d) : sRetB p env k := h
set_option maxHeartbeats 2000000 in
theorem tie_i {n : Int} : ∀ (m : Nat) (t : Nt) (rows : List (Int × Int)) (k : D → List D → Prop), t.h ≤ m → rows.length + t.sz ≤ 90000 → k (.int (tieF n t rows).1) ((tieF n t rows).2.map pD) → wpR_tie m [.int n, t.d] (rows.map pD) k
  | 0, t, rows, k, hh, _, _ => by cases t <;> simp [Nt.h] at hh
  | m + 1, .lf i, rows, k, hh, hb, hk => by
    refine ⟨rfl, ?_⟩
    unfold wpB
    show P_tie (wpR_tie m) [SV.val (.int n), SV.val (.int i), SV.own (.bor (rows.map pD)), SV.no, SV.no] _
    unfold P_tie
    refine sSeq_i ?_
    repeat walk_at "ps"
    refine sRetB_i ?_
    repeat walk_at "ps"
    exact hk
  | m + 1, .pr a b, rows, k, hh, hb, hk => by
    have ih := tie_i (n := n) m
    simp only [Nt.h, Nt.sz] at hh hb
    refine ⟨rfl, ?_⟩
    unfold wpB
    show P_tie (wpR_tie m) [SV.val (.int n), SV.val (.tup [a.d, b.d]), SV.own (.bor (rows.map pD)), SV.no, SV.no] _
    unfold P_tie
    refine sSeq_i ?_
    repeat walk_at "ps"
    dsimp only
    refine sSeq_i ?_
    refine lendS_b (by rfl) ?_
    repeat walk_at "ps"
    refine ih a rows _ (by omega) (by omega) ?_
    repeat walk_at "ps"
    dsimp only
    refine sSeq_i ?_
    refine lendS_b (by rfl) ?_
    repeat walk_at "ps"
    refine ih b _ _ (by omega) (by rw [tieF_len]; omega) ?_
    repeat walk_at "ps"
    have hl : ((tieF n b (tieF n a rows).2).2.map pD).length ≤ 100000 := by rw [List.length_map, tieF_len, tieF_len]; omega
    dsimp only
    refine append_b (by rfl) ?_
    repeat walk_at "ps"
    refine ⟨hl, ?_⟩
    dsimp only
    refine sRetB_i ?_
    repeat walk_at "ps"
    refine eO_b (by rfl) ?_
    repeat walk_at "ps"
    have e1 : n + (((tieF n b (tieF n a rows).2).2.map pD ++ [pD ((tieF n a rows).1, (tieF n b (tieF n a rows).2).1)]).length : Nat) - 1 = (tieF n (.pr a b) rows).1 := by
      simp only [tieF, List.length_append, List.length_map, List.length_cons, List.length_nil]; omega
    have e2 : (tieF n b (tieF n a rows).2).2.map pD ++ [pD ((tieF n a rows).1, (tieF n b (tieF n a rows).2).1)] = (tieF n (.pr a b) rows).2.map pD := by
      simp only [tieF, List.map_append, List.map_cons, List.map_nil]
    show k (.int (n + (((tieF n b (tieF n a rows).2).2.map pD ++ [pD ((tieF n a rows).1, (tieF n b (tieF n a rows).2).1)]).length : Nat) - 1)) ((tieF n b (tieF n a rows).2).2.map pD ++ [pD ((tieF n a rows).1, (tieF n b (tieF n a rows).2).1)])
    rw [e1, e2]
    exact hk
set_option maxHeartbeats 2000000 in
theorem joining_of_i {n : Int} {t : Nt} {k : D → Prop} (hh : t.h ≤ 8) (hb : t.sz ≤ 90000) (hk : k (.tup ((tieF n t []).2.map pD))) : wp_joining_of [.int n, t.d] k := by
  unfold wp_joining_of wpOf
  walk_at "psenv"
  unfold P_joining_of
  repeat walk_at "ps"
  refine sSeq_i ?_
  refine lend_l (by rfl) ?_
  repeat walk_at "ps"
  refine tie_i 8 t [] _ hh (by simpa using hb) ?_
  repeat walk_at "ps"
  exact hk
/-! the best joining: its numbers, its nests -/
theorem T12 : ((List.range 8).all fun n => (chs n).all fun c => (prt c).all fun p => (p.1 ++ p.2).isPerm c && decide (p.1 ≠ []) && decide (p.2 ≠ [])) = true := by decide +kernel
def LN (E : List En) (n : Nat) : Nat → Nat → Int
  | 0, _ => 0
  | f + 1, m => if m ∈ msk n then ht E (mm n m) + minI ((sub m).map fun q => LN E n f q.1 + LN E n f q.2) else 0
theorem ln_succ (E : List En) (n f m : Nat) : LN E n (f + 1) m = if m ∈ msk n then ht E (mm n m) + minI ((sub m).map fun q => LN E n f q.1 + LN E n f q.2) else 0 := rfl
theorem pw_no {n e : Nat} (he : e < 7) : 2 ^ e ∉ msk n := fun w => by
  have := (List.mem_filter.mp w).2
  have t := List.all_eq_true.mp (show ((List.range 7).all fun e => !nosg (2 ^ e)) = true from by decide) e (List.mem_range.mpr he)
  rw [this] at t
  cases t
def NN (E : List En) (n m : Nat) : Int := LN E n (m + 1) m
theorem nn_def (E : List En) (n m : Nat) : NN E n m = LN E n (m + 1) m := rfl
theorem nn_127 (E : List En) (n m : Nat) : NN E n m = if m ∈ msk n then ht E (mm n m) + minI ((sub m).map fun q => LN E n m q.1 + LN E n m q.2) else 0 := ln_succ E n m m
theorem ln_stab {E : List En} {n : Nat} (hn : n ≤ 7) : ∀ (f f' m : Nat), m < f → m < f' → LN E n f m = LN E n f' m
  | 0, _, _, h, _ => by omega
  | _, 0, _, _, h => by omega
  | f + 1, f' + 1, m, h, h' => by
    rw [ln_succ, ln_succ]
    split
    · rename_i hm
      refine congrArg (fun z => ht E (mm n m) + minI z) (List.map_congr_left fun q hq => ?_)
      obtain ⟨a, b, c, _⟩ := (sub_at hn hm).2 q hq
      rw [ln_stab hn f f' q.1 (by omega) (by omega), ln_stab hn f f' q.2 (by omega) (by omega)]
    · rfl
theorem nn_lst (E : List En) {n : Nat} (hn : n ≤ 7) : Lst E n (NN E n) (2 ^ n - 1) := by
  have p1 := p128 hn
  have nn := nn_127 E n
  refine ⟨fun m h1 h2 => ?_, fun m h1 => ?_⟩
  · rw [nn, if_pos h2]
    refine congrArg (fun z => ht E (mm n m) + minI z) (List.map_congr_left fun q hq => ?_)
    obtain ⟨a, b, c, d⟩ := (sub_at hn h2).2 q hq
    rw [ln_stab hn m (q.1 + 1) q.1 (by omega) (by omega), ln_stab hn m (q.2 + 1) q.2 (by omega) (by omega), nn_def, nn_def]
  · rw [nn, if_neg]
    intro w
    rcases h1 with q | q
    · have := (msk_at hn w).2.1
      omega
    · exact q w
theorem sub_prt' {n : Nat} (hn : n ≤ 7) {m : Nat} (h : m ∈ msk n) {N : Nat → Int} : ls N (mm n m) = minI ((sub m).map fun q => N q.1 + N q.2) := by
  obtain ⟨a, _, _, d⟩ := msk_at hn h
  obtain ⟨q, hq, e⟩ := prt_sub (N := N) hn d
  rw [a] at hq
  refine minI_eq (List.mem_map.mpr ⟨q, hq, e.symm⟩) fun y hy => ?_
  obtain ⟨q', hq', rfl⟩ := List.mem_map.mp hy
  exact sub_prt hn h hq'
/-- the parting that is taken -/
def trs (N : Nat → Int) (c : List Int) : List (Int × List Int × List Int) := (prt c).map fun p => (N (mk p.1) + N (mk p.2), p.1, p.2)
def bst (N : Nat → Int) (c : List Int) : Int × List Int × List Int := match trs N c with
  | [] => (0, [], [])
  | t :: ts => minTri t ts
theorem bst_ok {n : Nat} {N : Nat → Int} {c : List Int} (hn : n ≤ 7) (hc : c ∈ chs n) : ((bst N c).2.1, (bst N c).2.2) ∈ prt c ∧ (bst N c).1 = N (mk (bst N c).2.1) + N (mk (bst N c).2.2) ∧ (bst N c).1 = ls N c := by
  have ne := prt_ne hn hc
  unfold bst
  cases e : trs N c with
  | nil => exact absurd (List.map_eq_nil_iff.mp e) ne
  | cons t ts =>
    dsimp only
    have mem := minTri_mem ts t
    rw [← e] at mem
    obtain ⟨p, hp, ep⟩ := List.mem_map.mp mem
    refine ⟨by rw [← ep]; exact hp, by rw [← ep], ?_⟩
    refine minI_eq ?_ fun y hy => ?_
    · rw [← ep]
      exact List.mem_map.mpr ⟨p, hp, rfl⟩
    · obtain ⟨p', hp', rfl⟩ := List.mem_map.mp hy
      have := minTri_le ts t (N (mk p'.1) + N (mk p'.2), p'.1, p'.2) (by rw [← e]; exact List.mem_map.mpr ⟨p', hp', rfl⟩)
      exact this
def NE (n : Nat) (N : Nat → Int) : Nat → Nat → Nt
  | 0, _ => .lf 0
  | f + 1, m => if m ∈ msk n then .pr (NE n N f (mk (bst N (mm n m)).2.1)) (NE n N f (mk (bst N (mm n m)).2.2)) else .lf (m.log2 : Nat)
theorem ne_succ (n : Nat) (N : Nat → Int) (f m : Nat) : NE n N (f + 1) m = if m ∈ msk n then .pr (NE n N f (mk (bst N (mm n m)).2.1)) (NE n N f (mk (bst N (mm n m)).2.2)) else .lf (m.log2 : Nat) := rfl
theorem bst_at {n m : Nat} {N : Nat → Int} (hn : n ≤ 7) (hm : m ∈ msk n) : ∃ a b : Nat, a = mk (bst N (mm n m)).2.1 ∧ b = mk (bst N (mm n m)).2.2 ∧ 1 ≤ a ∧ 1 ≤ b ∧ a + b = m ∧ (bst N (mm n m)).2.1 = mm n a ∧ (bst N (mm n m)).2.2 = mm n b ∧ (mm n a ++ mm n b).Perm (mm n m) ∧ mm n a ≠ [] ∧ mm n b ≠ [] := by
  obtain ⟨m1, m2, m3, m4⟩ := msk_at hn hm
  obtain ⟨h1, h2, h3⟩ := bst_ok (N := N) hn m4
  obtain ⟨p1, p2, p3⟩ := prt_at hn m4 h1
  dsimp only at p1 p2 p3
  rw [m1] at p3
  obtain ⟨a, b, c, _⟩ := (sub_at hn hm).2 _ p3
  have t := List.all_eq_true.mp (List.all_eq_true.mp (all8 T12 hn) _ m4) _ h1
  simp only [Bool.and_eq_true, decide_eq_true_eq, List.isPerm_iff] at t
  refine ⟨_, _, rfl, rfl, a, b, c, p1, p2, ?_, ?_, ?_⟩
  · rw [← p1, ← p2]; exact t.1.1
  · rw [← p1]; exact t.1.2
  · rw [← p2]; exact t.2
theorem ne_stab {n : Nat} {N : Nat → Int} (hn : n ≤ 7) : ∀ (f f' m : Nat), m < f → m < f' → NE n N f m = NE n N f' m
  | 0, _, _, h, _ => by omega
  | _, 0, _, _, h => by omega
  | f + 1, f' + 1, m, h, h' => by
    unfold NE
    split
    · rename_i hm
      obtain ⟨a, b, ea, eb, a1, b1, ab, _⟩ := bst_at (N := N) hn hm
      rw [← ea, ← eb, ne_stab hn f f' a (by omega) (by omega), ne_stab hn f f' b (by omega) (by omega)]
    · rfl
def NT (n : Nat) (N : Nat → Int) (m : Nat) : Nt := NE n N (m + 1) m
theorem nt_pr {n m : Nat} {N : Nat → Int} (hn : n ≤ 7) (hm : m ∈ msk n) : NT n N m = .pr (NT n N (mk (bst N (mm n m)).2.1)) (NT n N (mk (bst N (mm n m)).2.2)) := by
  have p1 := p128 hn
  have m1 := (msk_at hn hm).2.1
  obtain ⟨a, b, ea, eb, a1, b1, ab, _⟩ := bst_at (N := N) hn hm
  have nt : NT n N m = _ := ne_succ n N m m
  rw [nt, if_pos hm, ← ea, ← eb]
  unfold NT
  rw [ne_stab hn m (a + 1) a (by omega) (by omega), ne_stab hn m (b + 1) b (by omega) (by omega)]
theorem nt_lf {n e : Nat} {N : Nat → Int} (he : e < 7) : NT n N (2 ^ e) = .lf (e : Nat) := by
  have nt : NT n N (2 ^ e) = _ := ne_succ n N (2 ^ e) (2 ^ e)
  rw [nt, if_neg (pw_no he), Nat.log2_two_pow]
theorem best_i {E : List En} {n : Nat} {k : D → Prop} (he : E.length = n) (n0 : 1 ≤ n) (hn : n ≤ 7) (hh : (NT n (NN E n) (2 ^ n - 1)).h ≤ 8) (hb : (NT n (NN E n) (2 ^ n - 1)).sz ≤ 90000) (h : k (.tup [.tup ((tieF (n : Int) (NT n (NN E n) (2 ^ n - 1)) []).2.map pD), tbD n (NN E n)])) : wp_best_joining [.tup (E.map enD)] k := by
  have L := nn_lst E hn
  generalize hN : NN E n = N at *
  have elen : (((E.map enD).length : Nat) : Int) = (n : Int) := by rw [List.length_map, he]
  have cl : (chs n).length ≤ 120 := by
    have := all8 T10 hn
    simp only [Bool.and_eq_true, decide_eq_true_eq] at this
    exact this.1
  have p1 := p128 hn
  have p0 : 2 ≤ 2 ^ n := by
    calc 2 = 2 ^ 1 := rfl
      _ ≤ 2 ^ n := Nat.pow_le_pow_right (by decide) n0
  unfold wp_best_joining wpOf
  walk_at "psenv"
  unfold P_best_joining
  repeat walk_at "ps"
  rw [elen]
  refine sSeq_ifs ?_
  repeat walk_at "ps"
  refine ite_d (fun q => by omega) (fun _ => ?_)
  repeat walk_at "ps"
  refine eDcG_i ?_
  repeat walk_at "ps"
  refine rgK1_i (by omega) (by omega) ⟨by simp [noOwn], ?_⟩
  refine dcQ_i (fun i d => ∃ ds : List (List Int × Int), d = .dpr ds ∧ ds.length ≤ i ∧ ∀ e : Nat, e < i → valT ds [((e : Nat) : Int)] = some 0) _ 0 ⟨[], rfl, Nat.le_refl 0, fun e he => absurd he (Nat.not_lt_zero e)⟩ ?_ ?_
  · rintro i d acc hd ⟨ds, rfl, hl, hv⟩ N' hN'
    obtain ⟨rfl, hi⟩ := rangeD_at hd
    rw [Nat.zero_add] at hl hv hN'
    rw [Int.zero_add]
    repeat walk_at "ps"
    refine ⟨_, putDD_t (ns := [((i : Nat) : Int)]) (by omega), hN' _ ⟨_, rfl, by have := putT_len ds [((i : Nat) : Int)] 0; omega, fun e he => ?_⟩⟩
    rw [valT_put]
    by_cases q : e = i
    · rw [q, if_pos rfl]
    · rw [if_neg (fun w => q (by have := (List.cons.inj w).1; omega))]
      exact hv e (by omega)
  rintro _ ⟨ds, rfl, hl, hv⟩
  rw [rangeD_len, Nat.zero_add, Int.toNat_natCast] at hl hv
  refine ⟨by show 2 < 10; decide, ?_⟩
  repeat walk_at "ps"
  refine eDcG_i ?_
  repeat walk_at "ps"
  refine rgK1_i (by omega) (by omega) ⟨by simp [noOwn], ?_⟩
  refine dcQ_i (fun i d => ∃ xs : List (List Int × D), d = .dpd xs ∧ xs.length ≤ i ∧ ∀ e : Nat, e < i → valX xs [((e : Nat) : Int)] = some (.int (e : Nat))) _ 0 ⟨[], rfl, Nat.le_refl 0, fun e he => absurd he (Nat.not_lt_zero e)⟩ ?_ ?_
  · rintro i d acc hd ⟨xs, rfl, hl', hv'⟩ N' hN'
    obtain ⟨rfl, hi⟩ := rangeD_at hd
    rw [Nat.zero_add] at hl' hv' hN'
    rw [Int.zero_add]
    repeat walk_at "ps"
    refine ⟨_, putDD_x (ns := [((i : Nat) : Int)]) (by omega), hN' _ ⟨_, rfl, by have := putX_len xs [((i : Nat) : Int)] (.int (i : Nat)); omega, fun e he => ?_⟩⟩
    rw [valX_put]
    by_cases q : e = i
    · rw [q, if_pos rfl]
    · rw [if_neg (fun w => q (by have := (List.cons.inj w).1; omega))]
      exact hv' e (by omega)
  rintro _ ⟨xs, rfl, hl', hv'⟩
  rw [rangeD_len, Nat.zero_add, Int.toNat_natCast] at hl' hv'
  refine ⟨by show 4 < 10; decide, ?_⟩
  repeat walk_at "ps"
  refine choices_i hn ?_
  refine gSortLen_i fun ys hp hs => ?_
  repeat walk_at "ps"
  have yl : ys.length ≤ 120 := by rw [hp.length_eq]; exact cl
  refine forP_i (fun j env => ∃ (ds : List (List Int × Int)) (xs : List (List Int × D)) (v5 v6 v7 v8 : SV), (noOwn1 v5 ∧ noOwn1 v7 ∧ noOwn1 v8) ∧ env = [SV.val (.tup (E.map enD)), SV.val (.int n), SV.own (.dpr ds), SV.no, SV.own (.dpd xs), v5, v6, v7, v8, SV.no] ∧ ds.length ≤ n + j ∧ xs.length ≤ n + j ∧ (∀ e : Nat, e < n → valT ds [((e : Nat) : Int)] = some 0 ∧ valX xs [((e : Nat) : Int)] = some (.int (e : Nat))) ∧ ∀ i < j, ∀ c, ys[i]? = some c → valT ds c = some (N (mk c)) ∧ valX xs c = some (NT n N (mk c)).d) _ 0 ⟨ds, xs, SV.no, SV.no, SV.no, SV.no, ⟨trivial, trivial, trivial⟩, rfl, by omega, by omega, fun e q => ⟨hv e q, hv' e q⟩, fun i q => absurd q (Nat.not_lt_zero i)⟩ ?_ ?_
  · rintro j d env hd ⟨ds, xs, v5, v6, v7, v8, ⟨w5, w7, w8⟩, rfl, hl, hl', hv, hw⟩ N' hN'
    rw [Nat.zero_add] at hl hl' hw hN'
    rw [List.getElem?_map] at hd
    obtain ⟨c, hc, rfl⟩ := Option.map_eq_some_iff.mp hd
    have hj := (List.getElem?_eq_some_iff.mp hc).1
    have hcm : c ∈ chs n := hp.mem_iff.mp (List.mem_of_getElem? hc)
    obtain ⟨c1, c2, c3⟩ := chs_at hn hcm
    have c7 : c.length ≤ 7 := by rw [c1]; exact Nat.le_trans mm_len hn
    have cb : ∀ x ∈ c, 0 ≤ x ∧ x < E.length := fun x hx => by
      rw [c1] at hx
      have := mm_mem hx
      omega
    -- what is smaller is known
    have kn : ∀ m : Nat, 1 ≤ m → m < 2 ^ n → (mm n m).length < c.length → valT ds (mm n m) = some (N m) ∧ valX xs (mm n m) = some (NT n N m).d := fun m m0 m1 ml => by
      rcases msk_sg hn m0 m1 with q | ⟨e, he', e1, e2⟩
      · obtain ⟨q1, _, _, q2⟩ := msk_at hn q
        obtain ⟨i, hi⟩ := List.getElem?_of_mem (hp.mem_iff.mpr q2)
        have il := (List.getElem?_eq_some_iff.mp hi).1
        have lt : i < j := by
          by_cases q : i < j
          · exact q
          · exfalso
            have e3 : ys[i] = mm n m := (List.getElem?_eq_some_iff.mp hi).2
            have e4 : ys[j] = c := (List.getElem?_eq_some_iff.mp hc).2
            by_cases q2 : i = j
            · subst q2
              rw [e3] at e4
              rw [e4] at ml
              omega
            · have := List.pairwise_iff_getElem.mp hs j i hj il (by omega)
              rw [e3, e4] at this
              omega
        have := hw i lt _ hi
        rw [q1] at this
        exact this
      · obtain ⟨a1, a2⟩ := hv e he'
        have z := L.off m (.inr (by rw [e2]; exact pw_no (by omega)))
        rw [e1, a1, a2, z]
        refine ⟨rfl, ?_⟩
        rw [e2, nt_lf (by omega)]
        rfl
    have part : ∀ p ∈ prt c, ∃ a b : Nat, p.1 = mm n a ∧ p.2 = mm n b ∧ a = mk p.1 ∧ b = mk p.2 ∧ 1 ≤ a ∧ 1 ≤ b ∧ a < 2 ^ n ∧ b < 2 ^ n ∧ (mm n a).length < c.length ∧ (mm n b).length < c.length := fun p hp' => by
      obtain ⟨a1, a2, a3⟩ := prt_at hn hcm hp'
      obtain ⟨q1, q2, q3, q4⟩ := (sub_at hn c2).2 _ a3
      have t := List.all_eq_true.mp (List.all_eq_true.mp (all8 T12 hn) _ hcm) _ hp'
      simp only [Bool.and_eq_true, decide_eq_true_eq, List.isPerm_iff] at t
      have lp := t.1.1.length_eq
      rw [List.length_append] at lp
      have l1 := List.length_pos_iff.mpr t.1.2
      have l2 := List.length_pos_iff.mpr t.2
      refine ⟨_, _, a1, a2, rfl, rfl, q1, q2, by omega, by omega, ?_, ?_⟩
      · rw [← a1]; omega
      · rw [← a2]; omega
    obtain ⟨bm, bN, bL⟩ := bst_ok (N := N) hn hcm
    have pl : (prt c).length ≤ 128 := by
      have ok := prtA_ok [] (c.drop 1) [(c.take 1, [])] 1 0 fun p hp => by
        rw [List.mem_singleton.mp hp]
        exact ⟨by rw [List.length_take]; omega, Nat.le_refl 0⟩
      refine Nat.le_trans (List.length_filter_le _ _) ?_
      show ((c.drop 1).foldl prtS [(c.take 1, [])]).length ≤ 128
      rw [ok.2]
      simpa using p128 (n := (c.drop 1).length) (by rw [List.length_drop]; omega)
    repeat walk_at "ps"
    refine partings_i c7 ?_
    repeat walk_at "ps"
    refine ⟨?_, ?_⟩
    · cases v7 with
      | own d => exact w7.elim
      | no => cases v8 with
        | own d => exact w8.elim
        | no => simp [noOwn]
        | val d => simp [noOwn]
      | val d => cases v8 with
        | own d => exact w8.elim
        | no => simp [noOwn]
        | val d => simp [noOwn]
    refine lcP_m ppI (fun p => tri (N (mk p.1) + N (mk p.2), p.1, p.2)) (prt c) (by omega) (fun p hp' A B hA => ?_) ?_
    · obtain ⟨a, b, e1, e2, e3, e4, a1, b1, a2, b2, la, lb⟩ := part p hp'
      have va := (kn a a1 a2 la).1
      have vb := (kn b b1 b2 lb).1
      rw [← e1, e3] at va
      rw [← e2, e4] at vb
      unfold ppI tupI
      repeat walk_at "ps"
      refine eO_p rfl ?_
      repeat walk_at "ps"
      refine dTgetN_i va ?_
      repeat walk_at "ps"
      refine eO_p rfl ?_
      repeat walk_at "ps"
      refine dTgetN_i vb ?_
      repeat walk_at "ps"
      exact hA
    have et : ((prt c).map fun p => tri (N (mk p.1) + N (mk p.2), p.1, p.2)) = (trs N c).map tri := by unfold trs; rw [List.map_map]; rfl
    rw [et]
    have eb : ∀ (kk : D → Prop), kk (tri (bst N c)) → gMinT [.lst ((trs N c).map tri)] kk := fun kk hk => by
      unfold bst at hk
      cases e : trs N c with
      | nil => exact absurd (List.map_eq_nil_iff.mp e) (prt_ne hn hcm)
      | cons t ts =>
        rw [e] at hk
        exact gMinT_i hk
    repeat walk_at "ps"
    refine eb _ ?_
    obtain ⟨a, b, e1, e2, e3, e4, a1, b1, a2, b2, la, lb⟩ := part _ bm
    dsimp only at e1 e2 e3 e4
    have va := (kn a a1 a2 la).2
    have vb := (kn b b1 b2 lb).2
    rw [← e1] at va
    rw [← e2] at vb
    have val : N (mk c) = ht E c + (bst N c).1 := by
      rw [bL, L.on (mk c) (by have := (msk_at hn c2).2.1; omega) c2, ← c1]
      congr 1
      have := sub_prt' (N := N) hn c2
      rw [← c1] at this
      exact this.symm
    have nest : NT n N (mk c) = .pr (NT n N a) (NT n N b) := by
      have := nt_pr (N := N) hn c2
      rw [← c1] at this
      rw [this, e3, e4]
    unfold tri tupI
    repeat walk_at "ps"
    refine sSeq_tputN ?_
    refine sTputN_i rfl ?_
    repeat walk_at "ps"
    refine height_of_i (fun q => by rw [q] at c3; cases c3) (by omega) cb ?_
    repeat walk_at "ps"
    refine prKn_i ⟨by omega, ?_⟩
    repeat walk_at "ps"
    refine sXput_i rfl ?_
    repeat walk_at "ps"
    refine eO_x rfl ?_
    repeat walk_at "ps"
    refine dXget_i va ?_
    repeat walk_at "ps"
    refine eO_x rfl ?_
    repeat walk_at "ps"
    refine dXget_i vb ?_
    repeat walk_at "ps"
    refine prKn_i ⟨by omega, ?_⟩
    rw [← val]
    refine hN' _ ⟨_, _, .val _, .val _, .val _, .val _, ⟨trivial, trivial, trivial⟩, rfl, by have := putT_len ds c (N (mk c)); omega, Nat.le_trans (putX_len xs _ _) (by omega), fun e q => ?_, fun i q c' hc' => ?_⟩
    · have ne : ¬ [((e : Nat) : Int)] = c := fun w => by rw [← w] at c3; exact absurd c3 (by simp)
      rw [valT_put, valX_put, if_neg ne, if_neg ne]
      exact hv e q
    · rw [valT_put, valX_put]
      by_cases w : c' = c
      · rw [if_pos w, if_pos w, w, nest]
        exact ⟨rfl, rfl⟩
      · rw [if_neg w, if_neg w]
        by_cases u : i = j
        · rw [u, hc] at hc'
          exact absurd (Option.some.inj hc').symm w
        · exact hw i (by omega) c' hc'
  rintro env ⟨ds, xs, v5, v6, v7, v8, ⟨w5, w7, w8⟩, rfl, hl, hl', hv, hw⟩
  rw [List.length_map, Nat.zero_add] at hw
  have kn : ∀ m : Nat, 1 ≤ m → m < 2 ^ n → valT ds (mm n m) = some (N m) ∧ valX xs (mm n m) = some (NT n N m).d := fun m m0 m1 => by
    rcases msk_sg hn m0 m1 with q | ⟨e, he', e1, e2⟩
    · obtain ⟨q1, _, _, q2⟩ := msk_at hn q
      obtain ⟨i, hi⟩ := List.getElem?_of_mem (hp.mem_iff.mpr q2)
      have := hw i (List.getElem?_eq_some_iff.mp hi).1 _ hi
      rw [q1] at this
      exact this
    · obtain ⟨a1, a2⟩ := hv e he'
      have z := L.off m (.inr (by rw [e2]; exact pw_no (by omega)))
      rw [e1, a1, a2, z]
      refine ⟨rfl, ?_⟩
      rw [e2, nt_lf (by omega)]
      rfl
  have full : mm n (2 ^ n - 1) = allC n := by
    have := all8 T10 hn
    simp only [Bool.and_eq_true, decide_eq_true_eq] at this
    exact this.2
  have er2 : rangeD 0 ((n : Int) - 0).toNat = (allC n).map D.int := by
    unfold rangeD allC
    rw [List.map_map, show ((n : Int) - 0).toNat = n by omega]
    apply List.map_congr_left
    intro i _
    show D.int (0 + (i : Int)) = D.int (i : Int)
    rw [Int.zero_add]
  repeat walk_at "ps"
  refine choices_i hn ?_
  repeat walk_at "ps"
  refine ⟨?_, ?_⟩
  · cases v5 with
    | own d => exact w5.elim
    | no => simp [noOwn]
    | val d => simp [noOwn]
  refine lcP_m tupI (fun c => prI (c, N (mk c))) (chs n) (by omega) (fun c hc A B hA => ?_) ?_
  · obtain ⟨c1, c2, c3⟩ := chs_at hn hc
    have m1 := (msk_at hn c2).2.1
    have m0 : 1 ≤ mk c := by
      obtain ⟨s1, s2⟩ := sub_at hn c2
      obtain ⟨q, hq⟩ := List.exists_mem_of_ne_nil _ s1
      have := s2 q hq
      omega
    have v := (kn (mk c) m0 m1).1
    rw [← c1] at v
    unfold prI tupI at hA
    unfold tupI
    repeat walk_at "ps"
    refine dTgetN_i v ?_
    repeat walk_at "ps"
    exact hA
  repeat walk_at "ps"
  refine dRg_i (by omega) ?_
  rw [er2]
  have vf := (kn (2 ^ n - 1) (by omega) (by omega)).2
  rw [full] at vf
  refine dXget_i vf ?_
  repeat walk_at "ps"
  refine joining_of_i hh hb ?_
  repeat walk_at "ps"
  exact h
theorem members_i {n m : Nat} {k : D → Prop} (hn : n ≤ 24) (h : k (tupI (mm n m))) : wp__law_members [.int (m : Int), .int (n : Int)] k := by
  unfold wp__law_members wpOf
  walk_at "psenv"
  unfold P__law_members
  repeat walk_at "ps"
  refine rgK1_i (by omega) (by omega) ⟨by simp [noOwn], ?_⟩
  rw [rg_nat rfl]
  refine lcP_flt (fun i : Nat => D.int (i : Int)) (fun i => bt m i) (fun i : Nat => D.int (i : Int)) (List.range n) (by rw [List.length_range]; omega) (fun i hi A B hA hB => ?_) ?_
  · repeat walk_at "ps"
    refine dShr_i (by omega) ?_
    rw [Int.toNat_natCast, show ((m : Int) / 2 ^ i) = ((m / 2 ^ i : Nat) : Int) by rw [Int.natCast_ediv, Int.natCast_pow]; rfl]
    repeat walk_at "ps"
    refine dAnd_i (j := 1) ?_
    repeat walk_at "ps"
    have e : decide ((((m / 2 ^ i) &&& 1 : Nat) : Int) = 1) = bt m i := by
      unfold bt
      rw [Bool.eq_iff_iff, decide_eq_true_eq, beq_iff_eq]
      omega
    rw [e]
    cases q : bt m i with
    | true => exact hA q
    | false => exact hB q
  · repeat walk_at "ps"
    have : (((List.range n).filter fun i => bt m i).map fun i : Nat => D.int (i : Int)) = (mm n m).map D.int := by
      unfold mm
      rw [List.map_map]
      rfl
    rw [this]
    exact h
theorem ltable_i {n : Nat} {N : Nat → Int} {k : D → Prop} (hn : n ≤ 7) (h : k (tbD n N)) : wp__law_table [.dfz (kz (2 ^ n - 1) N), .int n] k := by
  have p1 := p128 hn
  have p0 : 1 ≤ 2 ^ n := Nat.one_le_two_pow
  have ek : keysZ (kz (2 ^ n - 1) N) = ((List.range (2 ^ n - 1)).map (· + 1)).map fun m : Nat => D.int (m : Int) := by
    unfold keysZ kz
    rw [List.map_map, List.map_map]
    rfl
  have em : ((List.range (2 ^ n - 1)).map (· + 1)).filter nosg = msk n := by
    unfold msk
    rw [show 2 ^ n = (2 ^ n - 1) + 1 by omega, List.range_succ_eq_map, List.filter_cons, if_neg (by decide)]
    rfl
  unfold wp__law_table wpOf
  walk_at "psenv"
  unfold P__law_table
  repeat walk_at "ps"
  refine iDz_i ?_
  repeat walk_at "ps"
  dsimp only
  rw [ek]
  refine ⟨by simp [noOwn], ?_⟩
  refine lcP_flt (fun m : Nat => D.int (m : Int)) nosg (fun m : Nat => prI (mm n m, N m)) _ (by rw [List.length_map, List.length_range]; omega) (fun m hm A B hA hB => ?_) ?_
  · obtain ⟨j, hj, rfl⟩ := List.mem_map.mp hm
    have hj := List.mem_range.mp hj
    repeat walk_at "ps"
    rw [show (((j + 1 : Nat) : Int) - 1) = ((j + 1 - 1 : Nat) : Int) by omega]
    refine dAnd_i ?_
    repeat walk_at "ps"
    have e : decide ((((j + 1 - 1) &&& (j + 1) : Nat) : Int) > 0) = nosg (j + 1) := by
      unfold nosg
      rw [decide_eq_decide]
      omega
    rw [e]
    cases q : nosg (j + 1) with
    | true =>
      repeat walk_at "ps"
      refine members_i (by omega) ?_
      repeat walk_at "ps"
      refine dZget_i (valZ_kz (by omega) (by omega)) ?_
      repeat walk_at "ps"
      exact hA q
    | false => exact hB q
  rw [em]
  repeat walk_at "ps"
  have ex : ((msk n).map fun m => prI (mm n m, N m)) = ((msk n).map fun m => (mm n m, N m)).map prI := by rw [List.map_map]; rfl
  rw [ex]
  have inj : ∀ p ∈ (msk n).map fun m => (mm n m, N m), p.2 = N (mk p.1) := fun p hp => by
    obtain ⟨m, hm, rfl⟩ := List.mem_map.mp hp
    show N m = N (mk (mm n m))
    rw [(msk_at hn hm).1]
  refine gSortedP_i (fun p hp q hq e => by rw [inj p hp, inj q hq, e]) fun ys hp hs => ?_
  have hf : ys.map (·.1) = chs n := by
    refine srt_uniq lexI_ne _ _ ?_ (List.pairwise_map.mpr hs) (of_decide_eq_true (all8 T2 hn))
    refine (hp.map _).trans ?_
    rw [List.map_map]
    exact (chs_perm n).symm
  have hy : ys = (chs n).map fun c => (c, N (mk c)) := by
    rw [← hf, List.map_map]
    refine (List.map_id ys).symm.trans (List.map_congr_left fun p hp' => ?_)
    show p = (p.1, N (mk p.1))
    rw [← inj p (hp.mem_iff.mp hp')]
  rw [hy, List.map_map]
  repeat walk_at "ps"
  exact h
/-! the best joining: a joining, its wire -/
def nw (n : Nat) : Nt → Nat → Int × List (Int × Int)
  | .lf i, _ => (i, [])
  | .pr a b, s => (((n + (s + (nw n a s).2.length + (nw n b (s + (nw n a s).2.length)).2.length) : Nat) : Int), (nw n a s).2 ++ (nw n b (s + (nw n a s).2.length)).2 ++ [((nw n a s).1, (nw n b (s + (nw n a s).2.length)).1)])
theorem tieF_nw (n : Nat) : ∀ (t : Nt) (rows : List (Int × Int)), tieF (n : Int) t rows = ((nw n t rows.length).1, rows ++ (nw n t rows.length).2)
  | .lf i, rows => by simp [tieF, nw]
  | .pr a b, rows => by
    have e1 := tieF_nw n a rows
    have e2 := tieF_nw n b (rows ++ (nw n a rows.length).2)
    rw [List.length_append] at e2
    simp only [tieF, nw]
    rw [e1]
    dsimp only
    rw [e2]
    dsimp only
    rw [List.length_append, List.length_append]
    refine Prod.ext ?_ ?_
    · show (n : Int) + ((_ : Nat) : Int) = ((_ : Nat) : Int)
      omega
    · show _ ++ _ ++ _ ++ _ = _ ++ (_ ++ _ ++ _)
      simp only [List.append_assoc]
def lvs : Nt → List Int
  | .lf i => [i]
  | .pr a b => lvs a ++ lvs b
def post : Nt → List (List Int)
  | .lf _ => []
  | .pr a b => post a ++ post b ++ [lvs a ++ lvs b]
theorem nw_len (n : Nat) : ∀ (t : Nt) (s : Nat), (nw n t s).2.length = (post t).length
  | .lf _, _ => rfl
  | .pr a b, s => by
    simp only [nw, post, List.length_append, List.length_singleton, nw_len n a, nw_len n b]
theorem lvs_ne : ∀ t : Nt, lvs t ≠ []
  | .lf _ => by simp [lvs]
  | .pr a b => by
    have := lvs_ne a
    simp [lvs, this]
/-! is it a joining -/
/-! the wire of a joining -/
def evS (E : List En) (s : List (List Int) × Int × Int) (r : Int × Int) : List (List Int) × Int × Int := (s.1 ++ [at? s.1 r.1 ++ at? s.1 r.2], s.2.1 + ht E (at? s.1 r.1 ++ at? s.1 r.2), ht E (at? s.1 r.1 ++ at? s.1 r.2))
def EvOk (n : Nat) : List (List Int) → List (Int × Int) → Prop
  | _, [] => True
  | U, r :: J => (0 ≤ r.1 ∧ r.1 < U.length ∧ 0 ≤ r.2 ∧ r.2 < U.length) ∧ ((at? U r.1 ++ at? U r.2) ≠ [] ∧ (at? U r.1 ++ at? U r.2).length ≤ 24 ∧ ∀ x ∈ at? U r.1 ++ at? U r.2, 0 ≤ x ∧ x < n) ∧ EvOk n (U ++ [at? U r.1 ++ at? U r.2]) J
theorem ev_app (n : Nat) (E : List En) : ∀ (J1 : List (Int × Int)) (s : List (List Int) × Int × Int) (J2 : List (Int × Int)), EvOk n s.1 J1 → EvOk n (J1.foldl (evS E) s).1 J2 → EvOk n s.1 (J1 ++ J2)
  | [], s, J2, _, h => h
  | r :: J1, s, J2, h1, h2 => ⟨h1.1, h1.2.1, ev_app n E J1 (evS E s r) J2 h1.2.2 h2⟩
theorem at_app {U X : List (List Int)} {i : Int} (h0 : 0 ≤ i) (h1 : i < U.length) : at? (U ++ X) i = at? U i := by
  unfold at?
  rw [List.getElem?_append_left (by omega)]
theorem ev_tie (n : Nat) (E : List En) : ∀ (t : Nt) (s : Nat) (U : List (List Int)) (tot h : Int), U.length = n + s → (∀ i ∈ lvs t, at? U i = [i] ∧ 0 ≤ i ∧ i < n) → (lvs t).length ≤ 24 →
    EvOk n U (nw n t s).2 ∧ (nw n t s).2.foldl (evS E) (U, tot, h) = (U ++ post t, tot + ((post t).map (ht E)).sum, if post t = [] then h else ht E (lvs t)) ∧ at? (U ++ post t) (nw n t s).1 = lvs t ∧ 0 ≤ (nw n t s).1 ∧ (nw n t s).1 < (n + s + (post t).length : Nat)
  | .lf i, s, U, tot, h, hU, hl, _ => by
    obtain ⟨a, b, c⟩ := hl i (by simp [lvs])
    refine ⟨trivial, ?_, ?_, b, ?_⟩
    · simp [nw, post]
    · simpa [nw, post, lvs] using a
    · show i < _
      omega
  | .pr a b, s, U, tot, h, hU, hl, h24 => by
    have l24 : (lvs a).length + (lvs b).length ≤ 24 := by rw [← List.length_append]; exact h24
    obtain ⟨a1, a2, a3, a4, a5⟩ := ev_tie n E a s U tot h hU (fun i hi => hl i (List.mem_append_left _ hi)) (by omega)
    have na := nw_len n a s
    have hU' : (U ++ post a).length = n + (s + (nw n a s).2.length) := by rw [List.length_append, na]; omega
    have lb : ∀ i ∈ lvs b, at? (U ++ post a) i = [i] ∧ 0 ≤ i ∧ i < n := fun i hi => by
      obtain ⟨x, y, z⟩ := hl i (List.mem_append_right _ hi)
      rw [at_app y (by omega)]
      exact ⟨x, y, z⟩
    obtain ⟨b1, b2, b3, b4, b5⟩ := ev_tie n E b (s + (nw n a s).2.length) (U ++ post a) (tot + ((post a).map (ht E)).sum) (if post a = [] then h else ht E (lvs a)) hU' lb (by omega)
    have nb := nw_len n b (s + (nw n a s).2.length)
    generalize hia : (nw n a s).1 = ia at *
    generalize hib : (nw n b (s + (nw n a s).2.length)).1 = ib at *
    have ea : at? (U ++ post a ++ post b) ia = lvs a := by rw [at_app a4 (by rw [hU']; omega)]; exact a3
    have e1 : (nw n (.pr a b) s).2 = (nw n a s).2 ++ (nw n b (s + (nw n a s).2.length)).2 ++ [(ia, ib)] := by simp only [nw, hia, hib]
    have hl2 : (U ++ post a ++ post b).length = n + (s + (nw n a s).2.length + (nw n b (s + (nw n a s).2.length)).2.length) := by rw [List.length_append, hU', nb]; omega
    have bound : ∀ x ∈ lvs a ++ lvs b, 0 ≤ x ∧ x < n := fun x hx => (hl x hx).2
    have fold : ((nw n a s).2 ++ (nw n b (s + (nw n a s).2.length)).2).foldl (evS E) (U, tot, h) = (U ++ post a ++ post b, tot + ((post a).map (ht E)).sum + ((post b).map (ht E)).sum, if post b = [] then (if post a = [] then h else ht E (lvs a)) else ht E (lvs b)) := by
      rw [List.foldl_append, a2, b2]
    refine ⟨?_, ?_, ?_, ?_, ?_⟩
    · rw [e1]
      refine ev_app n E _ (U, tot, h) _ (ev_app n E _ (U, tot, h) _ a1 ?_) ?_
      · rw [a2]; exact b1
      · rw [fold]
        refine ⟨⟨a4, ?_, b4, ?_⟩, ⟨?_, ?_, ?_⟩, trivial⟩
        · show ia < ((U ++ post a ++ post b).length : Nat)
          rw [hl2]; omega
        · show ib < ((U ++ post a ++ post b).length : Nat)
          rw [hl2]; omega
        · show at? (U ++ post a ++ post b) ia ++ at? (U ++ post a ++ post b) ib ≠ []
          rw [ea, b3]
          have := lvs_ne a
          simp [this]
        · show (at? (U ++ post a ++ post b) ia ++ at? (U ++ post a ++ post b) ib).length ≤ 24
          rw [ea, b3, List.length_append]
          exact l24
        · show ∀ x ∈ at? (U ++ post a ++ post b) ia ++ at? (U ++ post a ++ post b) ib, _
          rw [ea, b3]
          exact bound
    · rw [e1, List.foldl_append, fold]
      show (_, _, _) = _
      simp only [evS, List.foldl_cons, List.foldl_nil]
      rw [ea, b3]
      refine Prod.ext ?_ (Prod.ext ?_ ?_)
      · simp only [post, List.append_assoc]
      · simp only [post, List.map_append, List.sum_append, List.map_cons, List.map_nil, List.sum_cons, List.sum_nil, Int.add_zero]
        omega
      · simp [post, lvs]
    · show at? (U ++ (post a ++ post b ++ [lvs a ++ lvs b])) (((n + (s + (nw n a s).2.length + (nw n b (s + (nw n a s).2.length)).2.length) : Nat) : Int)) = lvs a ++ lvs b
      unfold at?
      rw [Int.toNat_natCast, ← List.append_assoc, ← List.append_assoc, List.getElem?_append_right (by omega), hl2, Nat.sub_self]
      rfl
    · show (0 : Int) ≤ ((_ : Nat) : Int)
      omega
    · show (((n + (s + (nw n a s).2.length + (nw n b (s + (nw n a s).2.length)).2.length) : Nat) : Int)) < _
      simp only [post, List.length_append, List.length_singleton]
      omega
theorem ls_at {U : List (List Int)} {i : Int} (h0 : 0 ≤ i) (h1 : i < U.length) : atI (U.map tupI) i = some (tupI (at? U i)) := by
  have hl : i.toNat < U.length := by omega
  refine at_nat h0 ?_
  unfold at?
  rw [List.getElem?_map, List.getElem?_eq_getElem hl]
  rfl
theorem at_last {α : Type} {xs : List α} {x : α} : atI (xs ++ [x]) (-1) = some x := by
  unfold atI ixN
  rw [if_neg (by decide), if_pos (by rw [List.length_append, List.length_singleton]; omega)]
  show (xs ++ [x])[(-1 + ((xs ++ [x]).length : Int)).toNat]? = _
  rw [List.length_append, List.length_singleton, show (-1 + ((xs.length + 1 : Nat) : Int)).toNat = xs.length by omega, List.getElem?_append_right (Nat.le_refl _), Nat.sub_self]
  rfl
theorem leven_i {E : List En} {n : Nat} {J : List (Int × Int)} {k : D → Prop} (he : E.length = n) (n0 : 1 ≤ n) (hn : n ≤ 24) (ho : ∀ e ∈ E, OkE e) (hJ : EvOk n ((allC n).map fun i => [i]) J) (hl : J.length ≤ 1000)
    (h : k (.int ((J.foldl (evS E) ((allC n).map (fun i => [i]), 0, 2 * (eAt E 0).s)).2.1 + (J.foldl (evS E) ((allC n).map (fun i => [i]), 0, 2 * (eAt E 0).s)).2.2 - stT E))) : wp__law_even [.tup (E.map enD), .tup (J.map pD)] k := by
  unfold wp__law_even wpOf
  walk_at "psenv"
  unfold P__law_even
  repeat walk_at "ps"
  rw [List.length_map, he]
  refine rgK1_i (by omega) (by omega) ⟨by simp [noOwn], ?_⟩
  rw [rg_nat rfl]
  have al : (allC n).length = n := by unfold allC; rw [List.length_map, List.length_range]
  refine lcP_m (fun i : Nat => D.int (i : Int)) (fun i : Nat => tupI [(i : Int)]) (List.range n) (by rw [List.length_range]; omega) (fun i hi A B hA => ?_) ?_
  · repeat walk_at "ps"
    exact hA
  have e0 : ((List.range n).map fun i : Nat => tupI [(i : Int)]) = ((allC n).map fun i => [i]).map tupI := by
    unfold allC
    rw [List.map_map, List.map_map]
    rfl
  rw [e0]
  refine ⟨by show 3 < 9; decide, ?_⟩
  repeat walk_at "ps"
  refine dIx_t (eAt_some (by decide) (by omega)) ?_
  repeat walk_at "ps"
  refine forP_i (fun j env => ∃ (v7 v8 : SV), env = [SV.val (.tup (E.map enD)), SV.val (.tup (J.map pD)), SV.val (.int n), SV.own (.lst (((J.take j).foldl (evS E) ((allC n).map (fun i => [i]), 0, 2 * (eAt E 0).s)).1.map tupI)), SV.no, SV.val (.int ((J.take j).foldl (evS E) ((allC n).map (fun i => [i]), 0, 2 * (eAt E 0).s)).2.1), SV.val (.int ((J.take j).foldl (evS E) ((allC n).map (fun i => [i]), 0, 2 * (eAt E 0).s)).2.2), v7, v8] ∧ EvOk n ((J.take j).foldl (evS E) ((allC n).map (fun i => [i]), 0, 2 * (eAt E 0).s)).1 (J.drop j) ∧ ((J.take j).foldl (evS E) ((allC n).map (fun i => [i]), 0, 2 * (eAt E 0).s)).1.length = n + j) _ 0 ⟨SV.no, SV.no, rfl, hJ, by simp [al]⟩ ?_ ?_
  · rintro j d env hd ⟨v7, v8, rfl, hok, hlen⟩ N' hN'
    rw [Nat.zero_add] at hok hlen hN' ⊢
    rw [List.getElem?_map] at hd
    obtain ⟨r, hr, rfl⟩ := Option.map_eq_some_iff.mp hd
    have hj := (List.getElem?_eq_some_iff.mp hr).1
    have ed : J.drop j = r :: J.drop (j + 1) := by
      rw [List.drop_eq_getElem_cons hj, (List.getElem?_eq_some_iff.mp hr).2]
    have et : J.take (j + 1) = J.take j ++ [r] := by rw [List.take_add_one, hr]; rfl
    rw [ed] at hok
    rw [et, List.foldl_append] at hN'
    generalize (J.take j).foldl (evS E) ((allC n).map (fun i => [i]), 0, 2 * (eAt E 0).s) = S at hok hlen hN' ⊢
    obtain ⟨⟨r1, r2, r3, r4⟩, ⟨q1, q2, q3⟩, hok⟩ := hok
    repeat walk_at "ps"
    refine dIx_l (ls_at r1 r2) ?_
    repeat walk_at "ps"
    refine dIx_l (ls_at r3 r4) ?_
    repeat walk_at "ps"
    rw [List.length_append] at q2
    unfold tupI
    refine dAdd_t (by rw [List.length_map, List.length_map]; omega) ?_
    rw [← List.map_append]
    repeat walk_at "ps"
    refine ⟨by rw [List.length_map]; omega, ?_⟩
    repeat walk_at "ps"
    refine dIx_l at_last ?_
    repeat walk_at "ps"
    refine lheight_i ho q1 (by rw [List.length_append]; exact q2) (fun x hx => by have := q3 x hx; omega) ?_
    repeat walk_at "ps"
    refine hN' _ ⟨.val (.int r.1), .val (.int r.2), ?_, hok, ?_⟩
    · simp only [List.foldl_cons, List.foldl_nil, evS, List.map_append, List.map_cons, List.map_nil, tupI]
      rfl
    · simp only [List.foldl_cons, List.foldl_nil, evS, List.length_append, List.length_singleton, hlen]
      omega
  · rintro env ⟨v7, v8, rfl, hok, hlen⟩
    rw [Nat.zero_add, List.length_map, List.take_length]
    repeat walk_at "ps"
    refine lstarts_i (by omega) ?_
    repeat walk_at "ps"
    exact h
theorem lst_b {E : List En} {n : Nat} {N : Nat → Int} (hn : n ≤ 7) (ho : ∀ e ∈ E, OkE e) (h : Lst E n N (2 ^ n - 1)) : ∀ b m : Nat, m ≤ b → 0 ≤ N m ∧ (1 ≤ m → N m ≤ ((m : Int) - 1) * 6000000) ∧ N m ≤ (m : Int) * 6000000
  | 0, m, hb => by
    have : N m = 0 := h.off m (.inr fun w => by rw [show m = 0 by omega] at w; exact absurd (List.mem_filter.mp w).2 (by decide))
    omega
  | b + 1, m, hb => by
    by_cases q : m ∈ msk n
    · obtain ⟨s1, s2⟩ := sub_at hn q
      obtain ⟨_, m1, m3, _⟩ := msk_at hn q
      have e := h.on m (by omega) q
      have mem := minI_mem (ns := (sub m).map fun q => N q.1 + N q.2) (fun w => s1 (List.map_eq_nil_iff.mp w))
      obtain ⟨u, hu, e2⟩ := List.mem_map.mp mem
      obtain ⟨a, b', c, _⟩ := s2 u hu
      have i1 := lst_b hn ho h b u.1 (by omega)
      have i2 := lst_b hn ho h b u.2 (by omega)
      have i1' := i1.2.1 a
      have i2' := i2.2.1 b'
      have hb := ht_b (c := mm n m) ho (fun w => by rw [w] at m3; simp at m3)
      rw [← e2] at e
      have : (m : Int) = u.1 + u.2 := by omega
      refine ⟨by omega, fun _ => by omega, by omega⟩
    · have := h.off m (.inr q)
      refine ⟨by omega, fun _ => by omega, by omega⟩
theorem pw_not {n e : Nat} (he : e < 7) : 2 ^ e ∉ msk n := fun w => by
  have := (List.mem_filter.mp w).2
  have t := List.all_eq_true.mp (show ((List.range 7).all fun e => !nosg (2 ^ e)) = true from by decide) e (List.mem_range.mpr he)
  rw [this] at t
  cases t
theorem lst_ok {E : List En} {n : Nat} {N : Nat → Int} (hn : n ≤ 7) (ho : ∀ e ∈ E, OkE e) (h : Lst E n N (2 ^ n - 1)) : OkN n N ∧ ∀ m, N m ≤ 762000000 := by
  have p1 := p128 hn
  refine ⟨⟨fun m => (lst_b hn ho h m m (Nat.le_refl _)).1, fun e he => h.off _ (.inr (pw_not (by omega)))⟩, fun m => ?_⟩
  by_cases q : m ≤ 2 ^ n - 1
  · have := (lst_b hn ho h m m (Nat.le_refl _))
    by_cases w : 1 ≤ m
    · have := this.2.1 w
      omega
    · omega
  · have := h.off m (.inl (by omega))
    omega
theorem tsh_right {E : List En} {n : Nat} {N : Nat → Int} (hn : n ≤ 7) (h : Lst E n N (2 ^ n - 1)) : tsh E n N = .int (N (2 ^ n - 1) + ht E (allC n) - stT E) := tsh_int hn fun m hm q hq => by
  have := h.on m (by have := (msk_at hn hm).2.1; omega) hm
  have le := minI_le (List.mem_map.mpr ⟨q, hq, rfl⟩ : N q.1 + N q.2 ∈ (sub m).map fun q => N q.1 + N q.2)
  omega
/-! the best told: the law -/
theorem ht_perm {E : List En} {c c' : List Int} (h : c.Perm c') : ht E c = ht E c' := by
  unfold ht
  refine maxI_congr fun x => ?_
  rw [List.mem_flatMap, List.mem_flatMap]
  constructor
  · rintro ⟨a, ha, hx⟩
    obtain ⟨b, hb, rfl⟩ := List.mem_map.mp hx
    exact ⟨a, h.mem_iff.mp ha, List.mem_map.mpr ⟨b, h.mem_iff.mp hb, rfl⟩⟩
  · rintro ⟨a, ha, hx⟩
    obtain ⟨b, hb, rfl⟩ := List.mem_map.mp hx
    exact ⟨a, h.mem_iff.mpr ha, List.mem_map.mpr ⟨b, h.mem_iff.mpr hb, rfl⟩⟩
theorem h_le : ∀ t : Nt, t.h ≤ (lvs t).length
  | .lf _ => Nat.le_refl _
  | .pr a b => by
    have := h_le a
    have := h_le b
    have l1 := List.length_pos_iff.mpr (lvs_ne a)
    have l2 := List.length_pos_iff.mpr (lvs_ne b)
    simp only [Nt.h, lvs, List.length_append]
    omega
theorem post_len : ∀ t : Nt, (post t).length + 1 = (lvs t).length
  | .lf _ => rfl
  | .pr a b => by
    have := post_len a
    have := post_len b
    simp only [post, lvs, List.length_append, List.length_singleton]
    omega
theorem sz_is : ∀ t : Nt, t.sz = (post t).length
  | .lf _ => rfl
  | .pr a b => by simp only [Nt.sz, post, List.length_append, List.length_singleton, sz_is a, sz_is b]
theorem nt_lvs {E : List En} {n : Nat} {N : Nat → Int} (hn : n ≤ 7) (hL : Lst E n N (2 ^ n - 1)) : ∀ b m : Nat, m ≤ b → 1 ≤ m → m < 2 ^ n → (lvs (NT n N m)).Perm (mm n m) ∧ ((post (NT n N m)).map (ht E)).sum = N m
  | 0, m, hb, h1, _ => by omega
  | b + 1, m, hb, h1, h2 => by
    rcases msk_sg hn h1 h2 with q | ⟨e, he, e1, e2⟩
    · obtain ⟨x, y, ex, ey, x1, y1, xy, bx, bY, pm, _⟩ := bst_at (N := N) hn q
      obtain ⟨p1, s1⟩ := nt_lvs hn hL b x (by omega) x1 (by omega)
      obtain ⟨p2, s2⟩ := nt_lvs hn hL b y (by omega) y1 (by omega)
      obtain ⟨m1, _, _, m4⟩ := msk_at hn q
      obtain ⟨o1, o2, o3⟩ := bst_ok (N := N) hn m4
      rw [nt_pr hn q, ← ex, ← ey]
      have pp : (lvs (NT n N x) ++ lvs (NT n N y)).Perm (mm n m) := (p1.append p2).trans pm
      refine ⟨pp, ?_⟩
      simp only [post, List.map_append, List.sum_append, List.map_cons, List.map_nil, List.sum_cons, List.sum_nil, Int.add_zero]
      rw [s1, s2, ht_perm pp, hL.on m (by omega) q, ← sub_prt' (N := N) hn q, ← o3, o2, ← ex, ← ey]
      omega
    · rw [e2, nt_lf (by omega), ← e2, e1, hL.off m (.inr (by rw [e2]; exact pw_no (by omega)))]
      exact ⟨.refl _, rfl⟩
theorem T13 : ((List.range 8).all fun n => decide (n < 2) || decide (2 ^ n - 1 ∈ msk n)) = true := by decide +kernel
def Wr (E : List En) (t : Nt) : Int := ((post t).map (ht E)).sum + (if post t = [] then 2 * (eAt E 0).s else ht E (lvs t)) - stT E
/-- the wire of a nest's rows -/
theorem even_t {E : List En} {n : Nat} {t : Nt} {k : D → Prop} (he : E.length = n) (n0 : 1 ≤ n) (hn : n ≤ 24) (ho : ∀ e ∈ E, OkE e) (hl : ∀ i ∈ lvs t, 0 ≤ i ∧ i < n) (h24 : (lvs t).length ≤ 24) (h : k (.int (Wr E t))) : wp__law_even [.tup (E.map enD), .tup ((tieF (n : Int) t []).2.map pD)] k := by
  have al : (allC n).length = n := by unfold allC; rw [List.length_map, List.length_range]
  have hU : ((allC n).map fun i => [i]).length = n + 0 := by rw [List.length_map, al]; rfl
  have uat : ∀ i ∈ lvs t, at? ((allC n).map fun i => [i]) i = [i] ∧ 0 ≤ i ∧ i < n := fun i hi => by
    have := hl i hi
    refine ⟨?_, this⟩
    unfold at? allC
    rw [List.getElem?_map, List.getElem?_map, List.getElem?_range (by omega)]
    show [((i.toNat : Nat) : Int)] = [i]
    rw [show ((i.toNat : Nat) : Int) = i by omega]
  obtain ⟨ev1, ev2, _⟩ := ev_tie n E t 0 ((allC n).map fun i => [i]) 0 (2 * (eAt E 0).s) hU uat h24
  have tn := tieF_nw n t []
  have tdl : (tieF (n : Int) t []).2 = (nw n t 0).2 := by rw [tn]; rfl
  have nl := nw_len n t 0
  have pl := post_len t
  rw [tdl]
  refine leven_i he n0 hn ho ev1 (by rw [nl]; omega) ?_
  rw [ev2]
  dsimp only
  rw [Int.zero_add]
  exact h
def cst (E : List En) (n : Nat) : Int := if n = 1 then 2 * (eAt E 0).s else ht E (allC n)
theorem wr_is {E : List En} {n : Nat} {t : Nt} (h : (lvs t).Perm (allC n)) : Wr E t = ((post t).map (ht E)).sum + cst E n - stT E := by
  have al : (allC n).length = n := by unfold allC; rw [List.length_map, List.length_range]
  have pl := post_len t
  have ll := h.length_eq
  unfold Wr cst
  by_cases q : n = 1
  · have : post t = [] := List.length_eq_zero_iff.mp (by omega)
    rw [if_pos this, if_pos q]
  · have : post t ≠ [] := fun w => by rw [w, List.length_nil] at pl; omega
    rw [if_neg this, if_neg q, ht_perm h]
def bW (E : List En) (n : Nat) : Int := NN E n (2 ^ n - 1) + cst E n - stT E
theorem best_t {E : List En} {n : Nat} (he : E.length = n) (n0 : 1 ≤ n) (hn : n ≤ 7) (ho : ∀ e ∈ E, OkE e) : ∃ J : List (Int × Int), J.length + 1 = n ∧ (∀ k : D → Prop, k (.tup [.tup (J.map pD), tbD n (NN E n)]) → wp_best_joining [.tup (E.map enD)] k) ∧ (∀ k : D → Prop, k (.int (bW E n)) → wp__law_even [.tup (E.map enD), .tup (J.map pD)] k) ∧ (∀ k : D → Prop, k (.int (bW E n)) → wp_table_shown [.tup (E.map enD), tbD n (NN E n)] k) := by
  have L := nn_lst E hn
  obtain ⟨hN, _⟩ := lst_ok hn ho L
  have p0 : 2 ≤ 2 ^ n := by
    calc 2 = 2 ^ 1 := rfl
      _ ≤ 2 ^ n := Nat.pow_le_pow_right (by decide) n0
  have full : mm n (2 ^ n - 1) = allC n := by
    have := all8 T10 hn
    simp only [Bool.and_eq_true, decide_eq_true_eq] at this
    exact this.2
  have al : (allC n).length = n := by unfold allC; rw [List.length_map, List.length_range]
  obtain ⟨lp, sm⟩ := nt_lvs hn L (2 ^ n - 1) (2 ^ n - 1) (Nat.le_refl _) (by omega) (by omega)
  rw [full] at lp
  have ll := lp.length_eq
  rw [al] at ll
  have hh := h_le (NT n (NN E n) (2 ^ n - 1))
  have pl := post_len (NT n (NN E n) (2 ^ n - 1))
  have sz := sz_is (NT n (NN E n) (2 ^ n - 1))
  have nl := nw_len n (NT n (NN E n) (2 ^ n - 1)) 0
  have tn := tieF_nw n (NT n (NN E n) (2 ^ n - 1)) []
  have tdl : (tieF (n : Int) (NT n (NN E n) (2 ^ n - 1)) []).2 = (nw n (NT n (NN E n) (2 ^ n - 1)) 0).2 := by rw [tn]; rfl
  refine ⟨(tieF (n : Int) (NT n (NN E n) (2 ^ n - 1)) []).2, ?_, fun k hk => best_i he n0 hn (by omega) (by omega) hk, fun k hk => ?_, fun k hk => table_i he n0 hn hN ?_⟩
  · rw [tdl, nl]
    omega
  · refine even_t he n0 (by omega) ho (fun i hi => ?_) (by omega) ?_
    · obtain ⟨j, hj, rfl⟩ := List.mem_map.mp (lp.mem_iff.mp hi)
      have := List.mem_range.mp hj
      omega
    · rw [wr_is lp, sm]
      exact hk
  · by_cases q : n = 1
    · subst q
      rw [tsh_one he hN]
      have : bW E 1 = 0 := by
        unfold bW cst
        rw [if_pos rfl, show (2 ^ 1 - 1 : Nat) = 2 ^ 0 from rfl, hN.sg 0 (by decide)]
        match E, he with
        | [e], _ =>
          have h2 : stT [e] = 2 * (e.s + 0) := rfl
          have h3 : (eAt [e] 0).s = e.s := rfl
          rw [h2, h3]
          omega
      rw [this] at hk
      exact hk
    · rw [tsh_right hn L]
      unfold bW cst at hk
      rw [if_neg q] at hk
      exact hk
/-! tables of any hand: numbers that hold -/
structure Low (E : List En) (n : Nat) (sl : Int) (N : Nat → Int) (i : Nat) : Prop where
  on : ∀ m, m ≤ i → m ∈ msk n → 0 ≤ N m ∧ N m ≤ ht E (mm n m) + minI ((sub m).map fun q => N q.1 + N q.2) ∧ (sl = 0 → N m = ht E (mm n m) + minI ((sub m).map fun q => N q.1 + N q.2))
  off : ∀ m, i < m ∨ m ∉ msk n → N m = 0
theorem low_up {E : List En} {n i : Nat} {sl v : Int} {N : Nat → Int} (hn : n ≤ 7) (h : Low E n sl N i) (hi : i + 1 ∈ msk n) (v0 : 0 ≤ v) (v1 : v ≤ ht E (mm n (i + 1)) + minI ((sub (i + 1)).map fun q => N q.1 + N q.2)) (v2 : sl = 0 → v = ht E (mm n (i + 1)) + minI ((sub (i + 1)).map fun q => N q.1 + N q.2)) : Low E n sl (upN N (i + 1) v) (i + 1) := by
  have same : ∀ m, m ≤ i + 1 → m ∈ msk n → (sub m).map (fun q => upN N (i + 1) v q.1 + upN N (i + 1) v q.2) = (sub m).map fun q => N q.1 + N q.2 := fun m h1 h2 => by
    apply List.map_congr_left
    intro q hq
    obtain ⟨a, b, c, _⟩ := (sub_at hn h2).2 q hq
    unfold upN
    rw [if_neg (by omega), if_neg (by omega)]
  refine ⟨fun m h1 h2 => ?_, fun m h1 => ?_⟩
  · rw [same m h1 h2]
    by_cases q : m = i + 1
    · subst q
      unfold upN
      rw [if_pos rfl]
      exact ⟨v0, v1, v2⟩
    · have := h.on m (by omega) h2
      unfold upN
      rw [if_neg q]
      exact this
  · have ne : m ≠ i + 1 := fun q => by
      rcases h1 with w | w
      · omega
      · exact w (q ▸ hi)
    unfold upN
    rw [if_neg ne]
    exact h.off m (h1.imp (fun w => by omega) id)
theorem low_nx {E : List En} {n i : Nat} {sl : Int} {N : Nat → Int} (h : Low E n sl N i) (hi : i + 1 ∉ msk n) : Low E n sl N (i + 1) := by
  refine ⟨fun m h1 h2 => ?_, fun m h1 => ?_⟩
  · by_cases q : m = i + 1
    · exact absurd (q ▸ h2) hi
    · exact h.on m (by omega) h2
  · exact h.off m (h1.imp (fun w => by omega) id)
theorem low_b {E : List En} {n i : Nat} {sl : Int} {N : Nat → Int} (hn : n ≤ 7) (ho : ∀ e ∈ E, OkE e) (h : Low E n sl N i) : ∀ b m : Nat, m ≤ b → 0 ≤ N m ∧ (1 ≤ m → N m ≤ ((m : Int) - 1) * 6000000) ∧ N m ≤ (m : Int) * 6000000
  | 0, m, hb => by
    have : N m = 0 := h.off m (.inr fun w => by rw [show m = 0 by omega] at w; exact absurd (List.mem_filter.mp w).2 (by decide))
    omega
  | b + 1, m, hb => by
    by_cases qi : i < m
    · have := h.off m (.inl qi)
      refine ⟨by omega, fun _ => by omega, by omega⟩
    by_cases q : m ∈ msk n
    · obtain ⟨s1, s2⟩ := sub_at hn q
      obtain ⟨_, m1, m3, _⟩ := msk_at hn q
      obtain ⟨e0, e, _⟩ := h.on m (by omega) q
      have mem := minI_mem (ns := (sub m).map fun q => N q.1 + N q.2) (fun w => s1 (List.map_eq_nil_iff.mp w))
      obtain ⟨u, hu, e2⟩ := List.mem_map.mp mem
      obtain ⟨a, b', c, _⟩ := s2 u hu
      have i1 := low_b hn ho h b u.1 (by omega)
      have i2 := low_b hn ho h b u.2 (by omega)
      have i1' := i1.2.1 a
      have i2' := i2.2.1 b'
      have hb := ht_b (c := mm n m) ho (fun w => by rw [w] at m3; simp at m3)
      rw [← e2] at e
      have : (m : Int) = u.1 + u.2 := by omega
      refine ⟨by omega, fun _ => by omega, by omega⟩
    · have := h.off m (.inr q)
      refine ⟨by omega, fun _ => by omega, by omega⟩
theorem low_ok {E : List En} {n : Nat} {sl : Int} {N : Nat → Int} (hn : n ≤ 7) (ho : ∀ e ∈ E, OkE e) (h : Low E n sl N (2 ^ n - 1)) : OkN n N := by
  refine ⟨fun m => (low_b hn ho h m m (Nat.le_refl _)).1, fun e he => h.off _ (.inr (pw_not (by omega)))⟩
theorem low_lst {E : List En} {n : Nat} {N : Nat → Int} (h : Low E n 0 N (2 ^ n - 1)) : Lst E n N (2 ^ n - 1) :=
  ⟨fun m h1 h2 => (h.on m h1 h2).2.2 rfl, h.off⟩
theorem low_le {E : List En} {n : Nat} {sl : Int} {N M : Nat → Int} (hn : n ≤ 7) (h : Low E n sl N (2 ^ n - 1)) (hM : Lst E n M (2 ^ n - 1)) : ∀ b m : Nat, m ≤ b → N m ≤ M m
  | b, m, hb => by
    by_cases qi : 2 ^ n - 1 < m
    · have := h.off m (.inl qi)
      have := hM.off m (.inl qi)
      omega
    by_cases q : m ∈ msk n
    · match b, hb with
      | 0, hb => rw [show m = 0 by omega] at q; exact absurd (List.mem_filter.mp q).2 (by decide)
      | b + 1, hb =>
        obtain ⟨s1, s2⟩ := sub_at hn q
        obtain ⟨_, e, _⟩ := h.on m (by omega) q
        have f := hM.on m (by omega) q
        have mem := minI_mem (ns := (sub m).map fun q => M q.1 + M q.2) (fun w => s1 (List.map_eq_nil_iff.mp w))
        obtain ⟨u, hu, e2⟩ := List.mem_map.mp mem
        obtain ⟨a, b', c, _⟩ := s2 u hu
        have i1 := low_le hn h hM b u.1 (by omega)
        have i2 := low_le hn h hM b u.2 (by omega)
        have le := minI_le (List.mem_map.mpr ⟨u, hu, rfl⟩ : N u.1 + N u.2 ∈ (sub m).map fun q => N q.1 + N q.2)
        omega
    · have := h.off m (.inr q)
      have := hM.off m (.inr q)
      omega
theorem low_sh {E : List En} {n : Nat} {sl : Int} {N : Nat → Int} (hn : n ≤ 7) (h : Low E n sl N (2 ^ n - 1)) : tsh E n N = .int (N (2 ^ n - 1) + ht E (allC n) - stT E) := tsh_int hn fun m hm q hq => by
  obtain ⟨_, this, _⟩ := h.on m (by have := (msk_at hn hm).2.1; omega) hm
  have le := minI_le (List.mem_map.mpr ⟨q, hq, rfl⟩ : N q.1 + N q.2 ∈ (sub m).map fun q => N q.1 + N q.2)
  omega
theorem partings_least_i {n j m : Nat} {N : Nat → Int} {k : D → Prop} (hn : n ≤ 7) (hm : m ∈ msk n) (hj : m ≤ j) (h : k (.int (minI ((sub m).map fun q => N q.1 + N q.2)))) : wp__law_partings_least [.dfz (kz j N), .int (m : Int)] k := by
  have p1 := p128 hn
  obtain ⟨s1, s2⟩ := sub_at hn hm
  obtain ⟨_, m1, m3, _⟩ := msk_at hn hm
  have m0 : 1 ≤ m := by
    rcases Nat.eq_zero_or_pos m with w | w
    · rw [w] at hm; exact absurd (List.mem_filter.mp hm).2 (by decide)
    · exact w
  have hand : ((m - 1) &&& m) ≤ 127 := by
    have := Nat.and_le_left (n := m - 1) (m := m)
    omega
  unfold wp__law_partings_least wpOf
  walk_at "psenv"
  unfold P__law_partings_least
  repeat walk_at "ps"
  rw [show ((m : Int) - 1) = ((m - 1 : Nat) : Int) by omega]
  refine dAnd_i ?_
  repeat walk_at "ps"
  refine sSeq_while ?_
  refine sWhile_i (fun f env => ∃ (p : Nat) (dn : List (Nat × Nat)), env = [SV.val (.dfz (kz j N)), SV.val (.int (m : Int)), SV.own (.lst (dn.map fun q => D.int (N q.1 + N q.2))), SV.val (.int (p : Int))] ∧ p ≤ f ∧ dn.length ≤ 128 - f ∧ f ≤ 128 ∧ sub m = dn ++ subF f m p) 128 ⟨_, [], rfl, by omega, by simp, by omega, rfl⟩ ?_
  rintro f env ⟨p, dn, rfl, hf, hd, hf2, hs⟩ N2 hN2
  repeat walk_at "ps"
  refine ite_d (fun q2 => ?_) (fun q2 => ?_)
  · have f1 : f = (f - 1) + 1 := by omega
    have e1 : subF f m p = (p, m ^^^ p) :: subF (f - 1) m ((p - 1) &&& m) := by
      rw [f1]
      conv => lhs; unfold subF
      rw [if_neg (by omega)]
      rfl
    have hin : (p, m ^^^ p) ∈ sub m := by rw [hs, e1]; exact List.mem_append.mpr (.inr List.mem_cons_self)
    obtain ⟨a, b, c, _⟩ := s2 _ hin
    dsimp only at a b c
    repeat walk_at "ps"
    refine dZget_i (valZ_kz (by omega) (by omega)) ?_
    repeat walk_at "ps"
    refine dXor_i ?_
    refine dZget_i (valZ_kz (by omega) (by omega)) ?_
    repeat walk_at "ps"
    refine ⟨by rw [List.length_map]; omega, ?_⟩
    repeat walk_at "ps"
    rw [show ((p : Int) - 1) = ((p - 1 : Nat) : Int) by omega]
    refine dAnd_i ?_
    repeat walk_at "ps"
    have le2 := Nat.and_le_left (n := p - 1) (m := m)
    refine hN2 (f - 1) _ f1 ⟨_, dn ++ [(p, m ^^^ p)], by rw [List.map_append]; rfl, by omega, by rw [List.length_append, List.length_singleton]; omega, by omega, ?_⟩
    rw [hs, e1, List.append_assoc]
    rfl
  · have p00 : p = 0 := by omega
    have e1 : subF f m p = [] := by
      rw [p00]
      cases f with
      | zero => rfl
      | succ f => unfold subF; rw [if_pos rfl]
    rw [e1, List.append_nil] at hs
    repeat walk_at "ps"
    refine gMinL_i (intsD_m2 _ _) (fun w => s1 (by rw [hs]; exact List.map_eq_nil_iff.mp w)) ?_
    repeat walk_at "ps"
    rw [← hs]
    exact h
theorem lower_i {E : List En} {n : Nat} {sl : Int} {k : D → Prop} (he : E.length = n) (n0 : 1 ≤ n) (hn : n ≤ 7) (ho : ∀ e ∈ E, OkE e) (sl0 : sl = 0 ∨ sl = 1) (h : ∀ N : Nat → Int, Low E n sl N (2 ^ n - 1) → k (.dic (zD (kz (2 ^ n - 1) N)))) : wp__law_lower [.deck 6, .tup (E.map enD), .int sl] k := by
  have p1 := p128 hn
  have p0 : 1 ≤ 2 ^ n := Nat.one_le_two_pow
  unfold wp__law_lower wpOf
  walk_at "psenv"
  unfold P__law_lower
  repeat walk_at "ps"
  rw [List.length_map, he]
  refine dic0_i ?_
  repeat walk_at "ps"
  refine sSeq_forC ?_
  repeat walk_at "ps"
  refine shl_i (n := n) (by omega) ?_
  repeat walk_at "ps"
  refine rgK2_i (a := 1) (b := ((2 ^ n : Nat) : Int)) ⟨by omega, by omega, by omega, by omega⟩ ?_
  rw [show (((2 ^ n : Nat) : Int) - 1).toNat = 2 ^ n - 1 by omega]
  refine ⟨by rw [rangeD_len]; omega, ?_⟩
  refine forP_i (fun i env => ∃ (N : Nat → Int) (v5 v6 v7 v8 : SV), env = [SV.val (.deck 6), SV.val (.tup (E.map enD)), SV.val (.int sl), SV.val (.int n), SV.own (.dic (zD (kz i N))), v5, v6, v7, v8] ∧ Low E n sl N i) _ 0 ⟨fun _ => 0, _, _, _, _, rfl, fun m m1 m2 => by rw [show m = 0 by omega] at m2; exact absurd (List.mem_filter.mp m2).2 (by decide), fun m _ => rfl⟩ ?_ ?_
  · rintro i d env hd ⟨N, v5, v6, v7, v8, rfl, hL⟩ N' hN'
    obtain ⟨rfl, hi⟩ := rangeD_at hd
    rw [Nat.zero_add] at hL hN'
    rw [Nat.zero_add, show (1 : Int) + (i : Nat) = ((i + 1 : Nat) : Int) by omega]
    repeat walk_at "ps"
    refine ⟨by rw [kz_len]; omega, ?_⟩
    rw [putD_new, up_same (hL.off _ (.inl (by omega)))]
    repeat walk_at "ps"
    rw [show (((i + 1 : Nat) : Int) - 1) = ((i + 1 - 1 : Nat) : Int) by omega]
    refine dAnd_i ?_
    repeat walk_at "ps"
    refine ite_d (fun q => ?_) (fun q => ?_)
    · have hm : i + 1 ∈ msk n := List.mem_filter.mpr ⟨List.mem_range.mpr (by omega), by unfold nosg; exact decide_eq_true (by omega)⟩
      obtain ⟨s1, s2⟩ := sub_at hn hm
      obtain ⟨_, _, m3, _⟩ := msk_at hn hm
      have c0 : mm n (i + 1) ≠ [] := fun w => by rw [w] at m3; simp at m3
      repeat walk_at "ps"
      refine members_i (by omega) ?_
      unfold tupI
      repeat walk_at "ps"
      refine pLock_i rfl (kz (i + 1) N) rfl ?_
      repeat walk_at "ps"
      refine partings_least_i hn hm (Nat.le_refl _) ⟨rfl, ?_⟩
      repeat walk_at "ps"
      refine lheight_i ho c0 (Nat.le_trans mm_len (by omega)) (fun x hx => by have := mm_mem hx; omega) ?_
      have hb := ht_b (c := mm n (i + 1)) ho c0
      have mem := minI_mem (ns := (sub (i + 1)).map fun q => N q.1 + N q.2) (fun w => s1 (List.map_eq_nil_iff.mp w))
      obtain ⟨u, hu, e2⟩ := List.mem_map.mp mem
      obtain ⟨a, b', c, _⟩ := s2 u hu
      have i1 := low_b hn ho hL u.1 u.1 (Nat.le_refl _)
      have i2 := low_b hn ho hL u.2 u.2 (Nat.le_refl _)
      have up := fun v => low_up (v := v) hn hL hm
      generalize minI ((sub (i + 1)).map fun q => N q.1 + N q.2) = mi at *
      generalize ht E (mm n (i + 1)) = hh at *
      repeat walk_at "ps"
      refine take_i (by decide) (by decide) fun t t0 t1 => ?_
      repeat walk_at "ps"
      refine sSeq_mid (fun env => ∃ w : Int, 0 ≤ w ∧ (sl = 0 → w = 0) ∧ env = [SV.val (.deck 6), SV.val (.tup (E.map enD)), SV.val (.int sl), SV.val (.int n), SV.own (.dic (zD (kz (i + 1) N))), SV.val (.int ((i + 1 : Nat) : Int)), SV.val (.tup ((mm n (i + 1)).map D.int)), SV.val (.int (mi + hh)), SV.val (.int w)]) ?_ ?_
      · intro N2 hN2
        repeat walk_at "ps"
        refine ite_d (fun q3 => ?_) (fun q3 => ?_)
        · repeat walk_at "ps"
          refine take_i (by omega) (by omega) fun b b0 b1 => ?_
          exact hN2 _ ⟨b, b0, fun w => by rw [w] at q3; omega, rfl⟩
        · exact hN2 _ ⟨sl * t, by rcases sl0 with w | w <;> rw [w] <;> omega, fun w => by rw [w]; omega, rfl⟩
      rintro env ⟨w, w0, w1, rfl⟩
      repeat walk_at "ps"
      refine ⟨by rw [kz_len]; omega, ?_⟩
      rw [putD_old (by omega) (by omega)]
      exact hN' _ ⟨_, _, _, _, _, rfl, up _ (by omega) (by omega) (fun q => by have := w1 q; omega)⟩
    · have hm : i + 1 ∉ msk n := fun w => q (by
        have := (List.mem_filter.mp w).2
        unfold nosg at this
        have := of_decide_eq_true this
        omega)
      repeat walk_at "ps"
      exact hN' _ ⟨N, _, _, _, _, rfl, low_nx hL hm⟩
  · rintro env ⟨N, v5, v6, v7, v8, rfl, hL⟩
    rw [Nat.zero_add, rangeD_len] at hL ⊢
    repeat walk_at "ps"
    exact h N hL
/-! tables of any hand: what is drawn, row by row -/
inductive Dw (n : Nat) : Nat → List Int → List (Int × Int) → Prop
  | nil : Dw n 0 (allC n) []
  | snoc {i : Nat} {W W2 W' : List Int} {J : List (Int × Int)} {x y : Int} {r : Int × Int} : Dw n i W J → W.Perm (x :: y :: W2) → (r = (x, y) ∨ r = (y, x)) → W'.Perm (((n + i : Nat) : Int) :: W2) → Dw n (i + 1) W' (J ++ [r])
theorem T21 : ((List.range 8).all fun n => (fnd n).all fun l => decide (l = mm n (mk l)) && decide (mk l < 2 ^ n)) = true := by decide +kernel
theorem T22 : ((fnd 7).all fun a => (fnd 7).all fun b => a.any (fun x => decide (x ∈ b)) || (decide (a = []) || (decide (b = []) || (nosg (mk a + mk b) && decide ((mk a, mk b) ∈ sub (mk a + mk b)))))) = true := by decide +kernel
theorem fnd_up {m : Nat} : ∀ {n : Nat}, n ≤ m → ∀ l ∈ fnd n, l ∈ fnd m := by
  induction m with
  | zero => intro n h l hl; rw [show n = 0 by omega] at hl; exact hl
  | succ m ih =>
    intro n h l hl
    by_cases q : n = m + 1
    · rw [← q]; exact hl
    · unfold fnd
      exact List.mem_append_left _ (ih (by omega) l hl)
theorem fil_fnd (p : Int → Bool) : ∀ n : Nat, (allC n).filter p ∈ fnd n
  | 0 => List.mem_singleton.mpr rfl
  | n + 1 => by
    have ih := fil_fnd p n
    have e : allC (n + 1) = allC n ++ [((n : Nat) : Int)] := by unfold allC; rw [List.range_succ, List.map_append]; rfl
    rw [e, List.filter_append]
    unfold fnd
    cases q : p ((n : Nat) : Int) with
    | true =>
      rw [List.filter_cons, if_pos q]
      exact List.mem_append_right _ (List.mem_map.mpr ⟨_, ih, rfl⟩)
    | false =>
      rw [List.filter_cons, if_neg (by rw [q]; exact Bool.false_ne_true)]
      show (allC n).filter p ++ [] ∈ _
      rw [List.append_nil]
      exact List.mem_append_left _ ih
theorem allC_mem {n : Nat} {x : Int} : x ∈ allC n ↔ 0 ≤ x ∧ x < n := by
  unfold allC
  rw [List.mem_map]
  constructor
  · rintro ⟨i, hi, rfl⟩
    have := List.mem_range.mp hi
    omega
  · rintro ⟨h0, h1⟩
    exact ⟨x.toNat, List.mem_range.mpr (by omega), by omega⟩
theorem allC_nd (n : Nat) : (allC n).Nodup := by
  unfold allC
  refine List.Pairwise.map _ (fun a b h => ?_) List.nodup_range
  omega
theorem allC_len (n : Nat) : (allC n).length = n := by unfold allC; rw [List.length_map, List.length_range]
theorem mk_perm {a b : List Int} (h : a.Perm b) : mk a = mk b := (h.map _).sum_nat
theorem set_is {n : Nat} {c : List Int} (nd : c.Nodup) (bd : ∀ x ∈ c, 0 ≤ x ∧ x < n) : ∃ l ∈ fnd n, c.Perm l := by
  refine ⟨_, fil_fnd (fun x => decide (x ∈ c)) n, ?_⟩
  refine (List.perm_ext_iff_of_nodup nd ((allC_nd n).filter _)).mpr fun x => ?_
  rw [List.mem_filter, allC_mem, decide_eq_true_eq]
  exact ⟨fun h => ⟨bd x h, h⟩, fun h => h.2⟩
theorem mk_app (a b : List Int) : mk (a ++ b) = mk a + mk b := by unfold mk; rw [List.map_append, List.sum_append]
theorem two_masks {n : Nat} (hn : n ≤ 7) {a b : List Int} (nd : (a ++ b).Nodup) (bd : ∀ x ∈ a ++ b, 0 ≤ x ∧ x < n) (a0 : a ≠ []) (b0 : b ≠ []) : mk (a ++ b) ∈ msk n ∧ (mk a, mk b) ∈ sub (mk (a ++ b)) ∧ (a ++ b).Perm (mm n (mk (a ++ b))) := by
  obtain ⟨l, hl, pl⟩ := set_is nd bd
  obtain ⟨na, nb, dis⟩ := List.nodup_append.mp nd
  obtain ⟨la, hla, pa⟩ := set_is na fun x h => bd x (List.mem_append_left _ h)
  obtain ⟨lb, hlb, pb⟩ := set_is nb fun x h => bd x (List.mem_append_right _ h)
  have t1 := List.all_eq_true.mp (all8 T21 hn) l hl
  simp only [Bool.and_eq_true, decide_eq_true_eq] at t1
  have t2 := List.all_eq_true.mp (List.all_eq_true.mp T22 la (fnd_up hn la hla)) lb (fnd_up hn lb hlb)
  have d : la.any (fun x => decide (x ∈ lb)) = false := by
    cases q : la.any (fun x => decide (x ∈ lb)) with
    | false => rfl
    | true =>
      obtain ⟨x, hx, w⟩ := List.any_eq_true.mp q
      exact absurd rfl (dis x (pa.mem_iff.mpr hx) x (pb.mem_iff.mpr (of_decide_eq_true w)))
  have na' : ¬ la = [] := fun w => by rw [w] at pa; exact a0 (List.perm_nil.mp pa)
  have nb' : ¬ lb = [] := fun w => by rw [w] at pb; exact b0 (List.perm_nil.mp pb)
  rw [d, decide_eq_false na', decide_eq_false nb'] at t2
  simp only [Bool.false_or, Bool.and_eq_true, decide_eq_true_eq] at t2
  have e1 := mk_perm pa
  have e2 := mk_perm pb
  rw [mk_app, e1, e2]
  have e3 : mk la + mk lb = mk l := by rw [← e1, ← e2, ← mk_app]; exact mk_perm pl
  refine ⟨List.mem_filter.mpr ⟨List.mem_range.mpr (by rw [e3]; exact t1.2), t2.1⟩, t2.2, ?_⟩
  rw [e3, ← t1.1]
  exact pl
structure DwI (E : List En) (n : Nat) (N : Nat → Int) (h0 : Int) (i : Nat) (W : List Int) (J : List (Int × Int)) : Prop where
  jl : J.length = i
  wl : W.length + i = n
  ok : EvOk n ((allC n).map fun x => [x]) J
  ul : (J.foldl (evS E) ((allC n).map (fun x => [x]), 0, h0)).1.length = n + i
  bd : ∀ w ∈ W, 0 ≤ w ∧ w < (n + i : Nat)
  pm : (W.flatMap fun w => at? (J.foldl (evS E) ((allC n).map (fun x => [x]), 0, h0)).1 w).Perm (allC n)
  ne : ∀ w ∈ W, at? (J.foldl (evS E) ((allC n).map (fun x => [x]), 0, h0)).1 w ≠ []
  le : (W.map fun w => N (mk (at? (J.foldl (evS E) ((allC n).map (fun x => [x]), 0, h0)).1 w))).sum ≤ (J.foldl (evS E) ((allC n).map (fun x => [x]), 0, h0)).2.1
  la : 1 ≤ i → ((n + i : Nat) : Int) - 1 ∈ W ∧ (J.foldl (evS E) ((allC n).map (fun x => [x]), 0, h0)).2.2 = ht E (at? (J.foldl (evS E) ((allC n).map (fun x => [x]), 0, h0)).1 (((n + i : Nat) : Int) - 1))
theorem sum_perm' {l l' : List Int} (h : l.Perm l') : l.sum = l'.sum := by
  induction h with
  | nil => rfl
  | cons x _ ih => rw [List.sum_cons, List.sum_cons, ih]
  | swap x y l => simp only [List.sum_cons]; omega
  | trans _ _ a b => rw [a, b]
theorem at_one {n : Nat} {x : Int} (h0 : 0 ≤ x) (h1 : x < n) : at? ((allC n).map fun x => [x]) x = [x] := by
  have e : (allC n)[x.toNat]? = some x := by
    unfold allC
    rw [List.getElem?_map, List.getElem?_range (by omega)]
    show some ((x.toNat : Nat) : Int) = some x
    rw [show ((x.toNat : Nat) : Int) = x by omega]
  unfold at?
  rw [List.getElem?_map, e]
  rfl
theorem dw_ok {E : List En} {n : Nat} {sl : Int} {N : Nat → Int} {h0 : Int} (hn : n ≤ 7) (hL : Low E n sl N (2 ^ n - 1)) {i : Nat} {W : List Int} {J : List (Int × Int)} (h : Dw n i W J) : DwI E n N h0 i W J := by
  induction h with
  | nil =>
    have a1 : ∀ w ∈ allC n, at? (((allC n).map fun x => [x])) w = [w] := fun w hw => at_one (allC_mem.mp hw).1 (allC_mem.mp hw).2
    refine ⟨rfl, by rw [allC_len]; rfl, trivial, by show ((allC n).map _).length = _; rw [List.length_map, allC_len]; rfl, fun w hw => allC_mem.mp hw, ?_, ?_, ?_, fun q => absurd q (by decide)⟩
    · show ((allC n).flatMap fun w => at? ((allC n).map fun x => [x]) w).Perm (allC n)
      have e : ((allC n).flatMap fun w => at? ((allC n).map fun x => [x]) w) = allC n := by
        rw [List.flatMap_def, List.map_congr_left a1]
        induction (allC n) with
        | nil => rfl
        | cons a l ih => rw [List.map_cons, List.flatten_cons, ih]; rfl
      rw [e]
    · intro w hw
      show at? ((allC n).map fun x => [x]) w ≠ []
      rw [a1 w hw]
      exact List.cons_ne_nil _ _
    · show ((allC n).map fun w => N (mk (at? ((allC n).map fun x => [x]) w))).sum ≤ 0
      have : ∀ w ∈ (allC n).map (fun w => N (mk (at? ((allC n).map fun x => [x]) w))), w = 0 := fun w hw => by
        obtain ⟨x, hx, rfl⟩ := List.mem_map.mp hw
        rw [a1 x hx]
        have b := allC_mem.mp hx
        show N (2 ^ x.toNat + 0) = 0
        rw [Nat.add_zero]
        exact hL.off _ (.inr (pw_not (by omega)))
      have z : ∀ l : List Int, (∀ w ∈ l, w = 0) → l.sum = 0 := fun l => by
        induction l with
        | nil => intro _; rfl
        | cons a l ih => intro hl; rw [List.sum_cons, ih fun w hw => hl w (List.mem_cons_of_mem _ hw), hl a List.mem_cons_self]; rfl
      rw [z _ this]
      exact Int.le_refl 0
  | @snoc i W W2 W' J x y r hd hx hr hW' ih =>
    obtain ⟨jl, wl, ok, ul, bd, pm, ne, le, la⟩ := ih
    have xin : x ∈ W := hx.mem_iff.mpr List.mem_cons_self
    have yin : y ∈ W := hx.mem_iff.mpr (List.mem_cons_of_mem _ List.mem_cons_self)
    have oin : ∀ w ∈ W2, w ∈ W := fun w hw => hx.mem_iff.mpr (List.mem_cons_of_mem _ (List.mem_cons_of_mem _ hw))
    have bx := bd x xin
    have by' := bd y yin
    have eS : (J ++ [r]).foldl (evS E) ((allC n).map (fun x => [x]), 0, h0) = evS E (J.foldl (evS E) ((allC n).map (fun x => [x]), 0, h0)) r := by rw [List.foldl_append]; rfl
    generalize hS : J.foldl (evS E) ((allC n).map (fun x => [x]), 0, h0) = S at *
    have p1 : (at? S.1 x ++ (at? S.1 y ++ W2.flatMap fun w => at? S.1 w)).Perm (allC n) := by
      refine List.Perm.trans ?_ pm
      refine List.Perm.trans ?_ (List.Perm.flatMap_right _ hx).symm
      rw [List.flatMap_cons, List.flatMap_cons]
    have rr : (at? S.1 r.1 ++ at? S.1 r.2).Perm (at? S.1 x ++ at? S.1 y) ∧ (0 ≤ r.1 ∧ r.1 < (n + i : Nat) ∧ 0 ≤ r.2 ∧ r.2 < (n + i : Nat)) ∧ at? S.1 r.1 ≠ [] ∧ at? S.1 r.2 ≠ [] ∧ N (mk (at? S.1 r.1)) + N (mk (at? S.1 r.2)) = N (mk (at? S.1 x)) + N (mk (at? S.1 y)) := by
      rcases hr with rfl | rfl
      · exact ⟨.refl _, ⟨bx.1, bx.2, by'.1, by'.2⟩, ne x xin, ne y yin, rfl⟩
      · exact ⟨List.perm_append_comm, ⟨by'.1, by'.2, bx.1, bx.2⟩, ne y yin, ne x xin, Int.add_comm _ _⟩
    obtain ⟨pr, ⟨r1, r2, r3, r4⟩, na, nb, sm⟩ := rr
    have p2 : ((at? S.1 r.1 ++ at? S.1 r.2) ++ W2.flatMap fun w => at? S.1 w).Perm (allC n) := by
      refine List.Perm.trans (List.Perm.append_right _ pr) ?_
      rw [List.append_assoc]
      exact p1
    have nd : (at? S.1 r.1 ++ at? S.1 r.2).Nodup := (List.nodup_append.mp (p2.nodup_iff.mpr (allC_nd n))).1
    have bnd : ∀ x ∈ at? S.1 r.1 ++ at? S.1 r.2, 0 ≤ x ∧ x < n := fun x hx => allC_mem.mp (p2.mem_iff.mp (List.mem_append_left _ hx))
    have ln : (at? S.1 r.1 ++ at? S.1 r.2).length ≤ n := by
      have := p2.length_eq
      rw [allC_len, List.length_append] at this
      omega
    obtain ⟨tm, ts, tp⟩ := two_masks hn nd bnd na nb
    have wlen : W2.length + 2 = W.length := by have := hx.length_eq; simp only [List.length_cons] at this; omega
    have wlen' : W'.length = W2.length + 1 := by have := hW'.length_eq; simp only [List.length_cons] at this; omega
    have old : ∀ w : Int, 0 ≤ w → w < (n + i : Nat) → at? (evS E S r).1 w = at? S.1 w := fun w w0 w1 => by
      show at? (S.1 ++ _) w = _
      exact at_app w0 (by omega)
    have new : at? (evS E S r).1 ((n + i : Nat) : Int) = at? S.1 r.1 ++ at? S.1 r.2 := by
      show at? (S.1 ++ [_]) _ = _
      unfold at?
      rw [Int.toNat_natCast, List.getElem?_append_right (by omega), ul, Nat.sub_self]
      rfl
    have bd2 : ∀ w ∈ W', 0 ≤ w ∧ w < ((n + (i + 1) : Nat) : Int) := fun w hw => by
      rcases List.mem_cons.mp (hW'.mem_iff.mp hw) with q | q
      · omega
      · have := bd w (oin w q)
        omega
    refine ⟨by rw [List.length_append, jl]; rfl, by omega, ?_, ?_, bd2, ?_, ?_, ?_, fun _ => ⟨?_, ?_⟩⟩
    · refine ev_app n E J ((allC n).map (fun x => [x]), 0, h0) _ ok ?_
      rw [hS]
      exact ⟨⟨r1, by omega, r3, by omega⟩, ⟨by simp [na], by omega, bnd⟩, trivial⟩
    · rw [eS]
      show (S.1 ++ [_]).length = _
      rw [List.length_append, ul]
      rfl
    · rw [eS]
      refine (List.Perm.flatMap_right _ hW').trans ?_
      rw [List.flatMap_cons, new]
      have e2 : (W2.flatMap fun w => at? (evS E S r).1 w) = W2.flatMap fun w => at? S.1 w := by
        rw [List.flatMap_def, List.flatMap_def]
        congr 1
        exact List.map_congr_left fun w q => old w (bd w (oin w q)).1 (bd w (oin w q)).2
      rw [e2]
      exact p2
    · intro w hw
      rw [eS]
      rcases List.mem_cons.mp (hW'.mem_iff.mp hw) with q | q
      · rw [q, new]
        simp [na]
      · rw [old w (bd w (oin w q)).1 (bd w (oin w q)).2]
        exact ne w (oin w q)
    · rw [eS, sum_perm' (hW'.map _), List.map_cons, List.sum_cons, new]
      have e2 : (W2.map fun w => N (mk (at? (evS E S r).1 w))) = W2.map fun w => N (mk (at? S.1 w)) := List.map_congr_left fun w q => by rw [old w (bd w (oin w q)).1 (bd w (oin w q)).2]
      rw [e2]
      rw [sum_perm' (hx.map _), List.map_cons, List.sum_cons, List.map_cons, List.sum_cons] at le
      have m1 := (msk_at hn tm).2.1
      obtain ⟨_, low, _⟩ := hL.on _ (by omega) tm
      have mi := minI_le (List.mem_map.mpr ⟨_, ts, rfl⟩ : N (mk (at? S.1 r.1)) + N (mk (at? S.1 r.2)) ∈ (sub (mk (at? S.1 r.1 ++ at? S.1 r.2))).map fun q => N q.1 + N q.2)
      rw [← ht_perm tp] at low
      show _ ≤ S.2.1 + ht E (at? S.1 r.1 ++ at? S.1 r.2)
      omega
    · rw [show ((n + (i + 1) : Nat) : Int) - 1 = ((n + i : Nat) : Int) by omega]
      exact hW'.mem_iff.mpr List.mem_cons_self
    · rw [eS, show ((n + (i + 1) : Nat) : Int) - 1 = ((n + i : Nat) : Int) by omega, new]
      rfl
theorem dw_even {E : List En} {n : Nat} {sl : Int} {N : Nat → Int} (he : E.length = n) (n0 : 1 ≤ n) (hn : n ≤ 7) (ho : ∀ e ∈ E, OkE e) (hL : Low E n sl N (2 ^ n - 1)) {w : Int} {J : List (Int × Int)} (h : Dw n (n - 1) [w] J) : ∃ v : Int, (∀ k : D → Prop, k (.int v) → wp__law_even [.tup (E.map enD), .tup (J.map pD)] k) ∧ N (2 ^ n - 1) + ht E (allC n) - stT E ≤ v := by
  have hI := dw_ok (N := N) (h0 := 2 * (eAt E 0).s) hn hL h
  refine ⟨_, fun k hk => leven_i he n0 (by omega) ho hI.ok (by rw [hI.jl]; omega) hk, ?_⟩
  have full : mm n (2 ^ n - 1) = allC n := by
    have := all8 T10 hn
    simp only [Bool.and_eq_true, decide_eq_true_eq] at this
    exact this.2
  have mf : mk (allC n) = 2 ^ n - 1 := by
    have p0 : 2 ≤ 2 ^ n := by
      calc 2 = 2 ^ 1 := rfl
        _ ≤ 2 ^ n := Nat.pow_le_pow_right (by decide) n0
    by_cases q : n = 1
    · subst q; rfl
    · have := all8 T13 hn
      simp only [Bool.or_eq_true, decide_eq_true_eq] at this
      have := (msk_at hn (this.resolve_left (by omega))).1
      rw [full] at this
      exact this
  have pm := hI.pm
  have le := hI.le
  rw [List.flatMap_cons, List.flatMap_nil, List.append_nil] at pm
  rw [List.map_cons, List.map_nil, List.sum_cons, List.sum_nil, mk_perm pm, mf] at le
  have la : (J.foldl (evS E) ((allC n).map (fun x => [x]), 0, 2 * (eAt E 0).s)).2.2 = ht E (allC n) := by
    by_cases q : n = 1
    · subst q
      have j0 : J = [] := List.length_eq_zero_iff.mp hI.jl
      subst j0
      match E, he with
      | [e], _ =>
        show 2 * e.s = want e e
        unfold want
        omega
    · obtain ⟨l1, l2⟩ := hI.la (by omega)
      rw [List.mem_singleton.mp l1] at l2
      rw [l2, ht_perm pm]
  rw [la]
  omega
/-! the joining that the law draws -/
theorem perm_er {α : Type} : ∀ {W : List α} {i : Nat} {x : α}, W[i]? = some x → W.Perm (x :: W.eraseIdx i)
  | [], i, x, h => by simp at h
  | w :: W, 0, x, h => by simp at h; subst h; exact List.Perm.refl _
  | w :: W, i + 1, x, h => by
    have := perm_er (W := W) (i := i) (x := x) (by simpa using h)
    exact (this.cons w).trans (List.Perm.swap x w _)
theorem er_map {α β : Type} (f : α → β) : ∀ (W : List α) (i : Nat), (W.map f).eraseIdx i = (W.eraseIdx i).map f
  | [], i => by simp
  | w :: W, 0 => by simp
  | w :: W, i + 1 => by simp [er_map f W i]
theorem seqIx {i : Int} {n : Nat} (h0 : 0 ≤ i) (h1 : i < n) : seqIndex? i n = some i.toNat := by
  unfold seqIndex?
  simp
  omega
theorem joining_i {n : Nat} {k : D → Prop} (n0 : 1 ≤ n) (n1 : n ≤ 24) (h : ∀ J w, Dw n (n - 1) [w] J → k (.tup (J.map pD))) : wp__law_joining [.deck 6, .int n] k := by
  unfold wp__law_joining wpOf
  walk_at "psenv"
  unfold P__law_joining
  repeat walk_at "ps"
  refine take_i (by decide) (by decide) fun t t0 t1 => ?_
  repeat walk_at "ps"
  refine dRg_i (by omega) ?_
  repeat walk_at "ps"
  refine sSeq_forC ?_
  repeat walk_at "ps"
  refine rgK1_i (by omega) (by omega) ⟨by rw [rangeD_len]; omega, ?_⟩
  generalize decide (t = 5) = bb
  have hr : rangeD 0 ((n : Int) - 0).toNat = (allC n).map D.int := by
    unfold rangeD allC
    rw [List.map_map, show ((n : Int) - 0).toNat = n by omega]
    apply List.map_congr_left
    intro i _
    show D.int (0 + (i : Int)) = D.int (i : Int)
    rw [Int.zero_add]
  rw [hr]
  refine forP_i (fun i env => ∃ (W : List Int) (J : Jn) (v5 v6 v7 v8 : SV), env = [SV.val (.deck 6), SV.val (.int n), SV.val (.bl bb), SV.own (.lst (W.map D.int)), SV.own (.lst (J.map pD)), v5, v6, v7, v8] ∧ Dw n i W J ∧ W.length + i = n ∧ J.length = i ∧ W.getLast? = some ((n : Int) + i - 1)) _ 0 ⟨allC n, [], _, _, _, _, rfl, .nil, by rw [allC_len]; rfl, rfl, ?_⟩ ?_ ?_
  · obtain ⟨m, rfl⟩ : ∃ m, n = m + 1 := ⟨n - 1, by omega⟩
    rw [show allC (m + 1) = allC m ++ [((m : Nat) : Int)] by unfold allC; rw [List.range_succ, List.map_append]; rfl, List.getLast?_append]
    simp
  · rintro i d env hd ⟨W, J, v5, v6, v7, v8, rfl, hI, hW, hJ, hla⟩ N hN
    obtain ⟨rfl, hi⟩ := rangeD_at hd
    have hW2 : 2 ≤ W.length := by omega
    repeat walk_at "ps"
    rw [List.length_map]
    refine take_i (by omega) (by omega) fun a0 a00 a01 => ?_
    repeat walk_at "ps"
    refine sSeq_mid (fun env => ∃ (a : Int), (0 ≤ a ∧ a < W.length) ∧ env = [SV.val (.deck 6), SV.val (.int n), SV.val (.bl bb), SV.own (.lst (W.map D.int)), SV.own (.lst (J.map pD)), SV.val (.int (0 + (i : Nat))), SV.val (.int a), v7, v8]) ?_ ?_
    · intro N' hN'
      repeat walk_at "ps"
      cases bb with
      | true =>
        repeat walk_at "ps"
        rw [List.length_map]
        exact hN' _ ⟨(W.length : Int) - 1, ⟨by omega, by omega⟩, rfl⟩
      | false =>
        repeat walk_at "ps"
        exact hN' _ ⟨a0, ⟨a00, a01⟩, rfl⟩
    rintro env ⟨a, ⟨ha0, ha1⟩, rfl⟩
    have hal : a.toNat < W.length := by omega
    repeat walk_at "ps"
    refine ⟨by omega, a.toNat, .int W[a.toNat], seqIx ha0 (by rw [List.length_map]; omega), by rw [List.getElem?_map, List.getElem?_eq_getElem hal]; rfl, ?_⟩
    repeat walk_at "ps"
    have hx := perm_er (List.getElem?_eq_getElem hal)
    have hW1 : (W.eraseIdx a.toNat).length = W.length - 1 := by rw [List.length_eraseIdx_of_lt hal]
    have hm1 : ((W.map D.int).eraseIdx a.toNat) = (W.eraseIdx a.toNat).map D.int := er_map _ _ _
    generalize W[a.toNat] = x at *
    rw [hm1]
    generalize W.eraseIdx a.toNat = W1 at *
    rw [List.length_map]
    refine take_i (by omega) (by omega) fun b hb0 hb1 => ?_
    repeat walk_at "ps"
    have hbl : b.toNat < W1.length := by omega
    refine ⟨by omega, b.toNat, .int W1[b.toNat], seqIx hb0 hb1, by rw [List.getElem?_map, List.getElem?_eq_getElem hbl]; rfl, ?_⟩
    have hy := perm_er (List.getElem?_eq_getElem hbl)
    have hW3 : (W1.eraseIdx b.toNat).length = W1.length - 1 := by rw [List.length_eraseIdx_of_lt hbl]
    have hm2 : ((W1.map D.int).eraseIdx b.toNat) = (W1.eraseIdx b.toNat).map D.int := er_map _ _ _
    generalize W1[b.toNat] = y at *
    rw [hm2]
    generalize W1.eraseIdx b.toNat = W2 at *
    have hxy : W.Perm (x :: y :: W2) := hx.trans (hy.cons x)
    have fin : ∀ r : Int × Int, (r = (x, y) ∨ r = (y, x)) → ∀ v5 v6 v7 v8, N [SV.val (.deck 6), SV.val (.int n), SV.val (.bl bb), SV.own (.lst ((W2 ++ [(n : Int) + i]).map D.int)), SV.own (.lst ((J ++ [r]).map pD)), v5, v6, v7, v8] := by
      intro r hr v5 v6 v7 v8
      refine hN _ ⟨_, _, _, _, _, _, rfl, ?_, ?_, ?_, ?_⟩
      · rw [Nat.zero_add] at hI ⊢
        exact .snoc hI hxy hr (List.perm_append_singleton _ _)
      · have := hxy.length_eq
        simp only [List.length_cons] at this
        rw [List.length_append, List.length_singleton]
        omega
      · rw [List.length_append, hJ]
        rfl
      · rw [List.getLast?_append]
        simp
        omega
    repeat walk_at "ps"
    refine sSeq_mid (fun env => ∃ (p q : Int), ((p, q) = (x, y) ∨ (p, q) = (y, x)) ∧ env = [SV.val (.deck 6), SV.val (.int n), SV.val (.bl bb), SV.own (.lst (W2.map D.int)), SV.own (.lst (J.map pD)), SV.val (.int (0 + (i : Nat))), SV.val (.int a), SV.val (.int p), SV.val (.int q)]) ?_ ?_
    · intro N' hN'
      repeat walk_at "ps"
      refine take_i (by decide) (by decide) fun tu tu0 tu1 => ?_
      repeat walk_at "ps"
      refine ite_d (fun _ => ?_) (fun _ => hN' _ ⟨x, y, .inl rfl, rfl⟩)
      repeat walk_at "ps"
      exact hN' _ ⟨y, x, .inr rfl, rfl⟩
    rintro env ⟨p, q, hpq, rfl⟩
    repeat walk_at "ps"
    refine ⟨by rw [List.length_map]; omega, ?_⟩
    repeat walk_at "ps"
    refine ⟨by rw [List.length_map]; omega, ?_⟩
    have := fin (p, q) hpq
    rw [List.map_append, List.map_append] at this
    rw [Int.zero_add]
    exact this _ _ _ _
  · rintro env ⟨W, J, v5, v6, v7, v8, rfl, hI, hW, hJ, hla⟩
    rw [rangeD_len] at *
    repeat walk_at "ps"
    obtain ⟨w, rfl⟩ : ∃ w, W = [w] := List.length_eq_one_iff.mp (by omega)
    refine h J w ?_
    rw [Nat.zero_add, show ((n : Int) - 1).toNat = n - 1 by omega] at hI
    exact hI
theorem size_i {a b : Int} {k : D → Prop} (a0 : 0 < a) (a1 : a < 1073741824) (h : ∀ t : Int, t = b ∨ (1 ≤ t ∧ t ≤ a) → k (.int t)) : wp__law_size [.deck 6, .int a, .int b] k := by
  unfold wp__law_size wpOf
  walk_at "psenv"
  unfold P__law_size
  repeat walk_at "ps"
  refine take_i (by decide) (by decide) fun t t0 t1 => ?_
  repeat walk_at "ps"
  refine ite_d (fun _ => ?_) (fun _ => ?_)
  · repeat walk_at "ps"
    exact h b (.inl rfl)
  repeat walk_at "ps"
  refine take_i a0 a1 fun u u0 u1 => ?_
  repeat walk_at "ps"
  exact h _ (.inr ⟨by omega, by omega⟩)
theorem shpTb {n : Nat} {N : Nat → Int} : shp 60 (tbD n N) = true := by
  simp only [shp]
  rw [shpA_iff]
  intro x hx
  obtain ⟨c, _, rfl⟩ := List.mem_map.mp hx
  simp only [prI, tupI, shp, shpA, Bool.and_true]
  rw [shpA_iff]
  intro x hx
  obtain ⟨a, _, rfl⟩ := List.mem_map.mp hx
  rfl
theorem lwhole_i {a : Int} {k : D → Prop} (h : k (.bl true)) : wp__law_whole [.int a] k := by
  unfold wp__law_whole wpOf
  walk_at "psenv"
  unfold P__law_whole
  repeat walk_at "ps"
  exact h
set_option maxHeartbeats 4000000 in
theorem law_pure : P_law (SV.no :: SV.val (.deck 6) :: List.replicate 11 SV.no) { nx := fun _ => False, rt := (· = .bl true) } := by
  walk_at "psenv"
  unfold P_law
  repeat walk_at "ps"
  refine take_i (by decide) (by decide) fun t t0 t1 => ?_
  repeat walk_at "ps"
  obtain ⟨sl, hsl, sl0⟩ : ∃ sl : Int, (if decide (t > 0) = true then (1 : Int) else 0) = sl ∧ (sl = 0 ∨ sl = 1) := by
    by_cases q : t > 0
    · exact ⟨1, by rw [decide_eq_true q]; rfl, .inr rfl⟩
    · exact ⟨0, by rw [decide_eq_false q]; rfl, .inl rfl⟩
  rw [hsl]
  refine take_i (by decide) (by decide) fun o o0 o1 => ?_
  repeat walk_at "ps"
  refine take_i (by decide) (by decide) fun u u0 u1 => ?_
  repeat walk_at "ps"
  refine size_i (by decide) (by decide) fun m hm => ?_
  obtain ⟨n, en, n0, hn⟩ : ∃ n : Nat, m = (n : Nat) ∧ 1 ≤ n ∧ n ≤ 7 := ⟨m.toNat, by omega, by omega, by omega⟩
  subst en
  repeat walk_at "ps"
  refine endsF_i (by omega) fun E he ho => ?_
  repeat walk_at "ps"
  refine lower_i he n0 hn ho sl0 fun N hL => ?_
  have hN := low_ok hn ho hL
  have p0 : 2 ≤ 2 ^ n := by
    calc 2 = 2 ^ 1 := rfl
      _ ≤ 2 ^ n := Nat.pow_le_pow_right (by decide) n0
  repeat walk_at "ps"
  refine shl_i (n := n) (by omega) ?_
  repeat walk_at "ps"
  rw [show (((2 ^ n : Nat) : Int) - 1) = ((2 ^ n - 1 : Nat) : Int) by omega]
  refine dRg_i (by omega) ?_
  have er : rangeD 0 ((n : Int) - 0).toNat = (allC n).map D.int := by
    unfold rangeD allC
    rw [List.map_map, show ((n : Int) - 0).toNat = n by omega]
    apply List.map_congr_left
    intro i _
    show D.int (0 + (i : Int)) = D.int (i : Int)
    rw [Int.zero_add]
  rw [er]
  have a0 : allC n ≠ [] := fun q => by have := allC_len n; rw [q] at this; simp at this; omega
  repeat walk_at "ps"
  refine lheight_i ho a0 (by rw [allC_len]; omega) (fun x hx => by have := allC_mem.mp hx; omega) ?_
  repeat walk_at "ps"
  refine dDget_i (valD_kz (by omega) (Nat.le_refl _)) ?_
  repeat walk_at "ps"
  refine lstarts_i (by omega) ?_
  repeat walk_at "ps"
  have due : N (2 ^ n - 1) + (ht E (allC n) - stT E) * (if decide ((n : Int) > 1) = true then 1 else 0) = N (2 ^ n - 1) + ht E (allC n) - stT E := by
    by_cases q : n = 1
    · subst q
      rw [decide_eq_false (by decide)]
      match E, he with
      | [e], _ =>
        have h1 : ht [e] (allC 1) = want e e := rfl
        have h2 : stT [e] = 2 * (e.s + 0) := rfl
        rw [h1, h2]
        unfold want
        simp only [Bool.false_eq_true, if_false]
        omega
    · rw [decide_eq_true (by omega), if_pos rfl]
      omega
  rw [due]
  refine pLock_i rfl (kz (2 ^ n - 1) N) rfl ?_
  repeat walk_at "ps"
  refine ltable_i hn ⟨shpTb, ?_⟩
  repeat walk_at "ps"
  refine table_i he n0 hn hN ?_
  rw [low_sh hn hL]
  repeat walk_at "ps"
  refine lwhole_i ?_
  repeat walk_at "ps"
  refine ite_n (fun q => absurd rfl q) (fun _ => ?_)
  repeat walk_at "ps"
  refine sSeq_forC ?_
  repeat walk_at "ps"
  refine rgK1_i (by omega) (by omega) ⟨by rw [rangeD_len]; omega, ?_⟩
  refine forP_i (fun i env => ∃ v11 : SV, env = [SV.no, SV.val (.deck 6), SV.val (.int sl), SV.val (.int o), SV.val (.int n), SV.val (.tup (E.map enD)), SV.own (.dic (zD (kz (2 ^ n - 1) N))), SV.val (.int ((2 ^ n - 1 : Nat) : Int)), SV.val (.int (ht E (allC n))), SV.val (.int (N (2 ^ n - 1) + ht E (allC n) - stT E)), SV.val (.int (N (2 ^ n - 1) + ht E (allC n) - stT E)), v11, SV.no]) _ 0 ⟨_, rfl⟩ ?_ ?_
  · rintro i d env hd ⟨v11, rfl⟩ N' hN'
    obtain ⟨rfl, hi⟩ := rangeD_at hd
    repeat walk_at "ps"
    refine joining_i n0 (by omega) fun J w hJ => ?_
    obtain ⟨v, hv, le⟩ := dw_even he n0 hn ho hL hJ
    repeat walk_at "ps"
    refine hv _ ?_
    repeat walk_at "ps"
    refine ite_d (fun q => by omega) (fun _ => ?_)
    exact hN' _ ⟨_, rfl⟩
  rintro env ⟨v11, rfl⟩
  obtain ⟨J, jl, hb, hv, hs⟩ := best_t he n0 hn ho
  have L := nn_lst E hn
  have le : N (2 ^ n - 1) + ht E (allC n) - stT E ≤ bW E n := by
    have := low_le hn hL L (2 ^ n - 1) (2 ^ n - 1) (Nat.le_refl _)
    unfold bW cst
    by_cases q : n = 1
    · subst q
      rw [if_pos rfl]
      match E, he with
      | [e], _ =>
        have h1 : ht [e] (allC 1) = want e e := rfl
        have h3 : (eAt [e] 0).s = e.s := rfl
        rw [h1, h3]
        unfold want
        omega
    · rw [if_neg q]
      omega
  have eq : sl = 0 → N (2 ^ n - 1) + ht E (allC n) - stT E = bW E n := fun q0 => by
    subst q0
    have l1 := low_le hn hL L (2 ^ n - 1) (2 ^ n - 1) (Nat.le_refl _)
    have l2 := low_le (sl := 1) hn ⟨fun m a b => ⟨(low_b hn ho (sl := 0) ⟨fun m a b => by have := L.on m a b; exact ⟨(lst_ok hn ho L).1.pos m, Int.le_of_eq this, fun _ => this⟩, L.off⟩ m m (Nat.le_refl _)).1, Int.le_of_eq (L.on m a b), fun q => by omega⟩, L.off⟩ (low_lst hL) (2 ^ n - 1) (2 ^ n - 1) (Nat.le_refl _)
    unfold bW cst
    by_cases q : n = 1
    · subst q
      rw [if_pos rfl]
      match E, he with
      | [e], _ =>
        have h1 : ht [e] (allC 1) = want e e := rfl
        have h3 : (eAt [e] 0).s = e.s := rfl
        rw [h1, h3]
        unfold want
        omega
    · rw [if_neg q]
      omega
  repeat walk_at "ps"
  refine hb _ ?_
  repeat walk_at "ps"
  refine hv _ ?_
  with_reducible refine nx_i ?_
  refine sSeq_mid (fun env => env = [SV.no, SV.val (.deck 6), SV.val (.int sl), SV.val (.int o), SV.val (.int n), SV.val (.tup (E.map enD)), SV.own (.dic (zD (kz (2 ^ n - 1) N))), SV.val (.int ((2 ^ n - 1 : Nat) : Int)), SV.val (.int (ht E (allC n))), SV.val (.int (N (2 ^ n - 1) + ht E (allC n) - stT E)), SV.val (.int (N (2 ^ n - 1) + ht E (allC n) - stT E)), v11, SV.val (.int (bW E n))]) ?_ ?_
  · intro N' hN'
    have go := hN' _ rfl
    repeat walk_at "ps"
    refine ite_d (fun q => by omega) (fun _ => ?_)
    repeat walk_at "ps"
    refine ite_d (fun q => ?_) (fun _ => go)
    repeat walk_at "ps"
    refine ite_n (fun w => absurd (eq q) w) (fun _ => go)
  rintro env rfl
  repeat walk_at "ps"
  refine ite_d (fun q => ?_) (fun _ => ?_)
  · have hm : 2 ^ n - 1 ∈ msk n := by
      have := all8 T13 hn
      simp only [Bool.or_eq_true, decide_eq_true_eq] at this
      exact this.resolve_left (by omega)
    obtain ⟨s1, s2⟩ := sub_at hn hm
    have full : mm n (2 ^ n - 1) = allC n := by
      have := all8 T10 hn
      simp only [Bool.and_eq_true, decide_eq_true_eq] at this
      exact this.2
    have mem := minI_mem (ns := (sub (2 ^ n - 1)).map fun q => N q.1 + N q.2) (fun w => s1 (List.map_eq_nil_iff.mp w))
    obtain ⟨u, hu, e2⟩ := List.mem_map.mp mem
    obtain ⟨b1, b2, b3, b4⟩ := s2 u hu
    have hb := ht_b (c := allC n) ho a0
    have p1' := hN.pos u.1
    have p2' := hN.pos u.2
    repeat walk_at "ps"
    refine sSeq_i ?_
    repeat walk_at "ps"
    refine pLock_i rfl (kz (2 ^ n - 1) N) rfl ?_
    repeat walk_at "ps"
    refine partings_least_i hn hm (Nat.le_refl _) ⟨rfl, ?_⟩
    repeat walk_at "ps"
    refine ⟨by rw [kz_len]; have := p128 hn; omega, ?_⟩
    rw [putD_old (by omega) (Nat.le_refl _)]
    repeat walk_at "ps"
    refine pLock_i rfl (kz (2 ^ n - 1) (upN N (2 ^ n - 1) (1 + ht E (allC n) + minI ((sub (2 ^ n - 1)).map fun q => N q.1 + N q.2)))) rfl ?_
    repeat walk_at "ps"
    refine ltable_i hn ⟨shpTb, ?_⟩
    repeat walk_at "ps"
    have hN2 : OkN n (upN N (2 ^ n - 1) (1 + ht E (allC n) + minI ((sub (2 ^ n - 1)).map fun q => N q.1 + N q.2))) := ⟨fun m => by
      unfold upN
      split
      · omega
      · exact hN.pos m, fun e he => by
      have ne : 2 ^ e ≠ 2 ^ n - 1 := fun w => pw_not (n := n) (by omega : e < 7) (w ▸ hm)
      unfold upN
      rw [if_neg ne]
      exact hN.sg e he⟩
    refine table_i he n0 hn hN2 ?_
    have v1 : ∀ m, m ≠ 2 ^ n - 1 → upN N (2 ^ n - 1) (1 + ht E (allC n) + minI ((sub (2 ^ n - 1)).map fun q => N q.1 + N q.2)) m = N m := fun m w => by unfold upN; rw [if_neg w]
    have v2 : upN N (2 ^ n - 1) (1 + ht E (allC n) + minI ((sub (2 ^ n - 1)).map fun q => N q.1 + N q.2)) (2 ^ n - 1) = 1 + ht E (allC n) + minI ((sub (2 ^ n - 1)).map fun q => N q.1 + N q.2) := by unfold upN; rw [if_pos rfl]
    rw [tsh_non hn hm hu (by rw [v1 u.1 (by omega), v1 u.2 (by omega), v2, full]; omega)]
    repeat walk_at "ps"
    rfl
  · repeat walk_at "ps"
    rfl
end
end Ew
namespace Ew
open PySem PySem.Spec PyProof.Rows L2
variable [Tbs]
def topS (i : Nat) : Stmt := PySem.Challenge.pw_evenwires_k66_whole_tables_of_any_hand.main.body.getD i (.Pass ⟨0, 0, 0, 0⟩)
abbrev s_choices : Stmt := topS 1
abbrev N_choices : List Str := ["many", "found", "end", "some"]
theorem sc_choices : FnScope N_choices ["many"] (defScope s_choices) := ⟨rfl, rfl, rfl, by decide +kernel, rfl, by decide +kernel, by decide +kernel⟩
abbrev s_partings : Stmt := topS 2
abbrev N_partings : List Str := ["some", "found", "end", "one", "other"]
theorem sc_partings : FnScope N_partings ["some"] (defScope s_partings) := ⟨rfl, rfl, rfl, by decide +kernel, rfl, by decide +kernel, by decide +kernel⟩
abbrev s_steps : Stmt := topS 4
abbrev N_steps : List Str := ["one", "other"]
theorem sc_steps : FnScope N_steps ["one", "other"] (defScope s_steps) := ⟨rfl, rfl, rfl, by decide +kernel, rfl, by decide +kernel, by decide +kernel⟩
abbrev s_wanted : Stmt := topS 7
abbrev N_wanted : List Str := ["ends", "one", "other", "first", "second"]
theorem sc_wanted : FnScope N_wanted ["ends", "one", "other"] (defScope s_wanted) := ⟨rfl, rfl, rfl, by decide +kernel, rfl, by decide +kernel, by decide +kernel⟩
abbrev s_started : Stmt := topS 8
abbrev N_started : List Str := ["ends", "x", "y", "start", "load"]
theorem sc_started : FnScope N_started ["ends"] (defScope s_started) := ⟨rfl, rfl, rfl, by decide +kernel, rfl, by decide +kernel, by decide +kernel⟩
abbrev s_height_of : Stmt := topS 9
abbrev N_height_of : List Str := ["ends", "some", "one", "other"]
theorem sc_height_of : FnScope N_height_of ["ends", "some"] (defScope s_height_of) := ⟨rfl, rfl, rfl, by decide +kernel, rfl, by decide +kernel, by decide +kernel⟩
abbrev s_is_whole : Stmt := topS 11
abbrev N_is_whole : List Str := ["thing"]
theorem sc_is_whole : FnScope N_is_whole ["thing"] (defScope s_is_whole) := ⟨rfl, rfl, rfl, by decide +kernel, rfl, by decide +kernel, by decide +kernel⟩
abbrev s_are_wholes : Stmt := topS 12
abbrev N_are_wholes : List Str := ["thing", "many", "part"]
theorem sc_are_wholes : FnScope N_are_wholes ["thing", "many"] (defScope s_are_wholes) := ⟨rfl, rfl, rfl, by decide +kernel, rfl, by decide +kernel, by decide +kernel⟩
abbrev s_table_shown : Stmt := topS 15
abbrev N_table_shown : List Str := ["ends", "thing", "many", "numbers", "some", "number", "every"]
theorem sc_table_shown : FnScope N_table_shown ["ends", "thing"] (defScope s_table_shown) := ⟨rfl, rfl, rfl, by decide +kernel, rfl, by decide +kernel, by decide +kernel⟩
abbrev s_has_form : Stmt := topS 16
abbrev N_has_form : List Str := ["many", "thing", "due", "some", "part"]
theorem sc_has_form : FnScope N_has_form ["many", "thing"] (defScope s_has_form) := ⟨rfl, rfl, rfl, by decide +kernel, rfl, by decide +kernel, by decide +kernel⟩
abbrev s_is_row : Stmt := topS 17
abbrev N_is_row : List Str := ["some", "thing", "chosen", "number"]
theorem sc_is_row : FnScope N_is_row ["some", "thing"] (defScope s_is_row) := ⟨rfl, rfl, rfl, by decide +kernel, rfl, by decide +kernel, by decide +kernel⟩
abbrev s_numbers_of : Stmt := topS 18
abbrev N_numbers_of : List Str := ["many", "table", "numbers", "end", "some", "number"]
theorem sc_numbers_of : FnScope N_numbers_of ["many", "table"] (defScope s_numbers_of) := ⟨rfl, rfl, rfl, by decide +kernel, rfl, by decide +kernel, by decide +kernel⟩
abbrev s_most_of : Stmt := topS 19
abbrev N_most_of : List Str := ["ends", "numbers", "some", "one", "other"]
theorem sc_most_of : FnScope N_most_of ["ends", "numbers", "some"] (defScope s_most_of) := ⟨rfl, rfl, rfl, by decide +kernel, rfl, by decide +kernel, by decide +kernel⟩
abbrev s_joining_of : Stmt := topS 24
abbrev N_joining_of : List Str := ["many", "nest", "rows"]
theorem sc_joining_of : FnScope N_joining_of ["many", "nest"] (defScope s_joining_of) := ⟨rfl, rfl, rfl, by decide +kernel, rfl, by decide +kernel, by decide +kernel⟩
abbrev s_tie : Stmt := topS 25
abbrev N_tie : List Str := ["many", "nest", "rows", "first", "second"]
theorem sc_tie : FnScope N_tie ["many", "nest", "rows"] (defScope s_tie) := ⟨rfl, rfl, rfl, by decide +kernel, rfl, by decide +kernel, by decide +kernel⟩
abbrev s_best_joining : Stmt := topS 27
abbrev N_best_joining : List Str := ["ends", "many", "numbers", "end", "nests", "some", "number", "one", "other", "table"]
theorem sc_best_joining : FnScope N_best_joining ["ends"] (defScope s_best_joining) := ⟨rfl, rfl, rfl, by decide +kernel, rfl, by decide +kernel, by decide +kernel⟩
abbrev s__law_deck : Stmt := topS 29
abbrev N__law_deck : List Str := ["_law_script", "_law_cells", "_law_cell"]
theorem sc__law_deck : FnScope N__law_deck ["_law_script"] (defScope s__law_deck) := ⟨rfl, rfl, rfl, by decide +kernel, rfl, by decide +kernel, by decide +kernel⟩
abbrev s__law_take : Stmt := topS 30
abbrev N__law_take : List Str := ["_law_deck_here", "_law_most", "_law_digit", "_law_cell", "_law_number"]
theorem sc__law_take : FnScope N__law_take ["_law_deck_here", "_law_most"] (defScope s__law_take) := ⟨rfl, rfl, rfl, by decide +kernel, rfl, by decide +kernel, by decide +kernel⟩
abbrev s__law_place : Stmt := topS 31
abbrev N__law_place : List Str := ["_law_deck_here", "_law_way", "_law_x"]
theorem sc__law_place : FnScope N__law_place ["_law_deck_here", "_law_way"] (defScope s__law_place) := ⟨rfl, rfl, rfl, by decide +kernel, rfl, by decide +kernel, by decide +kernel⟩
abbrev s__law_ends : Stmt := topS 32
abbrev N__law_ends : List Str := ["_law_deck_here", "_law_many", "_law_way", "_law_late", "_law_found", "_law_k", "_law_x", "_law_y", "_law_start"]
theorem sc__law_ends : FnScope N__law_ends ["_law_deck_here", "_law_many"] (defScope s__law_ends) := ⟨rfl, rfl, rfl, by decide +kernel, rfl, by decide +kernel, by decide +kernel⟩
abbrev s__law_joining : Stmt := topS 33
abbrev N__law_joining : List Str := ["_law_deck_here", "_law_many", "_law_line", "_law_left", "_law_found", "_law_k", "_law_at", "_law_one", "_law_other"]
theorem sc__law_joining : FnScope N__law_joining ["_law_deck_here", "_law_many"] (defScope s__law_joining) := ⟨rfl, rfl, rfl, by decide +kernel, rfl, by decide +kernel, by decide +kernel⟩
abbrev s__law_size : Stmt := topS 34
abbrev N__law_size : List Str := ["_law_deck_here", "_law_few", "_law_most"]
theorem sc__law_size : FnScope N__law_size ["_law_deck_here", "_law_few", "_law_most"] (defScope s__law_size) := ⟨rfl, rfl, rfl, by decide +kernel, rfl, by decide +kernel, by decide +kernel⟩
abbrev s__law_want : Stmt := topS 35
abbrev N__law_want : List Str := ["_law_ends_here", "_law_one", "_law_other", "_law_here", "_law_there"]
theorem sc__law_want : FnScope N__law_want ["_law_ends_here", "_law_one", "_law_other"] (defScope s__law_want) := ⟨rfl, rfl, rfl, by decide +kernel, rfl, by decide +kernel, by decide +kernel⟩
abbrev s__law_height : Stmt := topS 36
abbrev N__law_height : List Str := ["_law_ends_here", "_law_some", "_law_most", "_law_one", "_law_other"]
theorem sc__law_height : FnScope N__law_height ["_law_ends_here", "_law_some"] (defScope s__law_height) := ⟨rfl, rfl, rfl, by decide +kernel, rfl, by decide +kernel, by decide +kernel⟩
abbrev s__law_members : Stmt := topS 37
abbrev N__law_members : List Str := ["_law_mask", "_law_many", "_law_k"]
theorem sc__law_members : FnScope N__law_members ["_law_mask", "_law_many"] (defScope s__law_members) := ⟨rfl, rfl, rfl, by decide +kernel, rfl, by decide +kernel, by decide +kernel⟩
abbrev s__law_whole : Stmt := topS 38
abbrev N__law_whole : List Str := ["_law_thing"]
theorem sc__law_whole : FnScope N__law_whole ["_law_thing"] (defScope s__law_whole) := ⟨rfl, rfl, rfl, by decide +kernel, rfl, by decide +kernel, by decide +kernel⟩
abbrev s__law_even : Stmt := topS 39
abbrev N__law_even : List Str := ["_law_ends_here", "_law_joining_here", "_law_many", "_law_under", "_law_end", "_law_total", "_law_height_here", "_law_one", "_law_other"]
theorem sc__law_even : FnScope N__law_even ["_law_ends_here", "_law_joining_here"] (defScope s__law_even) := ⟨rfl, rfl, rfl, by decide +kernel, rfl, by decide +kernel, by decide +kernel⟩
abbrev s__law_starts : Stmt := topS 40
abbrev N__law_starts : List Str := ["_law_ends_here", "_law_end"]
theorem sc__law_starts : FnScope N__law_starts ["_law_ends_here"] (defScope s__law_starts) := ⟨rfl, rfl, rfl, by decide +kernel, rfl, by decide +kernel, by decide +kernel⟩
abbrev s__law_partings_least : Stmt := topS 41
abbrev N__law_partings_least : List Str := ["_law_numbers", "_law_mask", "_law_sums", "_law_part"]
theorem sc__law_partings_least : FnScope N__law_partings_least ["_law_numbers", "_law_mask"] (defScope s__law_partings_least) := ⟨rfl, rfl, rfl, by decide +kernel, rfl, by decide +kernel, by decide +kernel⟩
abbrev s__law_lower : Stmt := topS 42
abbrev N__law_lower : List Str := ["_law_deck_here", "_law_ends_here", "_law_slack", "_law_many", "_law_numbers", "_law_mask", "_law_some", "_law_most", "_law_way"]
theorem sc__law_lower : FnScope N__law_lower ["_law_deck_here", "_law_ends_here", "_law_slack"] (defScope s__law_lower) := ⟨rfl, rfl, rfl, by decide +kernel, rfl, by decide +kernel, by decide +kernel⟩
abbrev s__law_table : Stmt := topS 43
abbrev N__law_table : List Str := ["_law_numbers", "_law_many", "_law_picks", "_law_mask"]
theorem sc__law_table : FnScope N__law_table ["_law_numbers", "_law_many"] (defScope s__law_table) := ⟨rfl, rfl, rfl, by decide +kernel, rfl, by decide +kernel, by decide +kernel⟩
abbrev s_law : Stmt := topS 44
abbrev N_law : List Str := ["_law_script", "_law_deck_here", "_law_slack", "_law_often", "_law_many", "_law_ends_here", "_law_numbers", "_law_every", "_law_height_here", "_law_due", "_law_told", "_law_turn", "_law_wire"]
theorem sc_law : FnScope N_law ["_law_script"] (defScope s_law) := ⟨rfl, rfl, rfl, by decide +kernel, rfl, by decide +kernel, by decide +kernel⟩
-- what the top has left: the defs, and the built-ins that are not bound anew
set_option maxHeartbeats 0 in
structure Tx (K : PySem.W.Frag) (mg : Str → Option Value) (base : Heap) where
  a_choices : Addr
  d_choices : FuncData
  F_choices : Fun K "choices" "choices" s_choices a_choices d_choices
  b_choices : Binds K d_choices ["many"] []
  g_choices : mg "choices" = some (.ref a_choices)
  a_partings : Addr
  d_partings : FuncData
  F_partings : Fun K "partings" "partings" s_partings a_partings d_partings
  b_partings : Binds K d_partings ["some"] []
  g_partings : mg "partings" = some (.ref a_partings)
  a_steps : Addr
  d_steps : FuncData
  F_steps : Fun K "steps" "steps" s_steps a_steps d_steps
  b_steps : Binds K d_steps ["one", "other"] []
  g_steps : mg "steps" = some (.ref a_steps)
  a_wanted : Addr
  d_wanted : FuncData
  F_wanted : Fun K "wanted" "wanted" s_wanted a_wanted d_wanted
  b_wanted : Binds K d_wanted ["ends", "one", "other"] []
  g_wanted : mg "wanted" = some (.ref a_wanted)
  a_started : Addr
  d_started : FuncData
  F_started : Fun K "started" "started" s_started a_started d_started
  b_started : Binds K d_started ["ends"] []
  g_started : mg "started" = some (.ref a_started)
  a_height_of : Addr
  d_height_of : FuncData
  F_height_of : Fun K "height_of" "height_of" s_height_of a_height_of d_height_of
  b_height_of : Binds K d_height_of ["ends", "some"] []
  g_height_of : mg "height_of" = some (.ref a_height_of)
  a_is_whole : Addr
  d_is_whole : FuncData
  F_is_whole : Fun K "is_whole" "is_whole" s_is_whole a_is_whole d_is_whole
  b_is_whole : Binds K d_is_whole ["thing"] []
  g_is_whole : mg "is_whole" = some (.ref a_is_whole)
  a_are_wholes : Addr
  d_are_wholes : FuncData
  F_are_wholes : Fun K "are_wholes" "are_wholes" s_are_wholes a_are_wholes d_are_wholes
  b_are_wholes : Binds K d_are_wholes ["thing", "many"] []
  g_are_wholes : mg "are_wholes" = some (.ref a_are_wholes)
  q_are_wholes : Addr
  p_are_wholes : Addr
  h_are_wholes : d_are_wholes.code = .ref q_are_wholes
  tb_are_wholes : GxR.TabB base mg q_are_wholes p_are_wholes
  m_are_wholes : p_are_wholes ∈ Tbs.tb
  a_table_shown : Addr
  d_table_shown : FuncData
  F_table_shown : Fun K "table_shown" "table_shown" s_table_shown a_table_shown d_table_shown
  b_table_shown : Binds K d_table_shown ["ends", "thing"] []
  g_table_shown : mg "table_shown" = some (.ref a_table_shown)
  q_table_shown : Addr
  p_table_shown : Addr
  h_table_shown : d_table_shown.code = .ref q_table_shown
  tb_table_shown : GxR.TabB base mg q_table_shown p_table_shown
  m_table_shown : p_table_shown ∈ Tbs.tb
  a_has_form : Addr
  d_has_form : FuncData
  F_has_form : Fun K "has_form" "has_form" s_has_form a_has_form d_has_form
  b_has_form : Binds K d_has_form ["many", "thing"] []
  g_has_form : mg "has_form" = some (.ref a_has_form)
  q_has_form : Addr
  p_has_form : Addr
  h_has_form : d_has_form.code = .ref q_has_form
  tb_has_form : GxR.TabB base mg q_has_form p_has_form
  m_has_form : p_has_form ∈ Tbs.tb
  a_is_row : Addr
  d_is_row : FuncData
  F_is_row : Fun K "is_row" "is_row" s_is_row a_is_row d_is_row
  b_is_row : Binds K d_is_row ["some", "thing"] []
  g_is_row : mg "is_row" = some (.ref a_is_row)
  a_numbers_of : Addr
  d_numbers_of : FuncData
  F_numbers_of : Fun K "numbers_of" "numbers_of" s_numbers_of a_numbers_of d_numbers_of
  b_numbers_of : Binds K d_numbers_of ["many", "table"] []
  g_numbers_of : mg "numbers_of" = some (.ref a_numbers_of)
  a_most_of : Addr
  d_most_of : FuncData
  F_most_of : Fun K "most_of" "most_of" s_most_of a_most_of d_most_of
  b_most_of : Binds K d_most_of ["ends", "numbers", "some"] []
  g_most_of : mg "most_of" = some (.ref a_most_of)
  a_joining_of : Addr
  d_joining_of : FuncData
  F_joining_of : Fun K "joining_of" "joining_of" s_joining_of a_joining_of d_joining_of
  b_joining_of : Binds K d_joining_of ["many", "nest"] []
  g_joining_of : mg "joining_of" = some (.ref a_joining_of)
  a_tie : Addr
  d_tie : FuncData
  F_tie : Fun K "tie" "tie" s_tie a_tie d_tie
  b_tie : Binds K d_tie ["many", "nest", "rows"] []
  g_tie : mg "tie" = some (.ref a_tie)
  a_best_joining : Addr
  d_best_joining : FuncData
  F_best_joining : Fun K "best_joining" "best_joining" s_best_joining a_best_joining d_best_joining
  b_best_joining : Binds K d_best_joining ["ends"] []
  g_best_joining : mg "best_joining" = some (.ref a_best_joining)
  a__law_deck : Addr
  d__law_deck : FuncData
  F__law_deck : Fun K "_law_deck" "_law_deck" s__law_deck a__law_deck d__law_deck
  b__law_deck : Binds K d__law_deck ["_law_script"] []
  g__law_deck : mg "_law_deck" = some (.ref a__law_deck)
  a__law_take : Addr
  d__law_take : FuncData
  F__law_take : Fun K "_law_take" "_law_take" s__law_take a__law_take d__law_take
  b__law_take : Binds K d__law_take ["_law_deck_here", "_law_most"] []
  g__law_take : mg "_law_take" = some (.ref a__law_take)
  a__law_place : Addr
  d__law_place : FuncData
  F__law_place : Fun K "_law_place" "_law_place" s__law_place a__law_place d__law_place
  b__law_place : Binds K d__law_place ["_law_deck_here", "_law_way"] []
  g__law_place : mg "_law_place" = some (.ref a__law_place)
  a__law_ends : Addr
  d__law_ends : FuncData
  F__law_ends : Fun K "_law_ends" "_law_ends" s__law_ends a__law_ends d__law_ends
  b__law_ends : Binds K d__law_ends ["_law_deck_here", "_law_many"] []
  g__law_ends : mg "_law_ends" = some (.ref a__law_ends)
  a__law_joining : Addr
  d__law_joining : FuncData
  F__law_joining : Fun K "_law_joining" "_law_joining" s__law_joining a__law_joining d__law_joining
  b__law_joining : Binds K d__law_joining ["_law_deck_here", "_law_many"] []
  g__law_joining : mg "_law_joining" = some (.ref a__law_joining)
  a__law_size : Addr
  d__law_size : FuncData
  F__law_size : Fun K "_law_size" "_law_size" s__law_size a__law_size d__law_size
  b__law_size : Binds K d__law_size ["_law_deck_here", "_law_few", "_law_most"] []
  g__law_size : mg "_law_size" = some (.ref a__law_size)
  a__law_want : Addr
  d__law_want : FuncData
  F__law_want : Fun K "_law_want" "_law_want" s__law_want a__law_want d__law_want
  b__law_want : Binds K d__law_want ["_law_ends_here", "_law_one", "_law_other"] []
  g__law_want : mg "_law_want" = some (.ref a__law_want)
  a__law_height : Addr
  d__law_height : FuncData
  F__law_height : Fun K "_law_height" "_law_height" s__law_height a__law_height d__law_height
  b__law_height : Binds K d__law_height ["_law_ends_here", "_law_some"] []
  g__law_height : mg "_law_height" = some (.ref a__law_height)
  a__law_members : Addr
  d__law_members : FuncData
  F__law_members : Fun K "_law_members" "_law_members" s__law_members a__law_members d__law_members
  b__law_members : Binds K d__law_members ["_law_mask", "_law_many"] []
  g__law_members : mg "_law_members" = some (.ref a__law_members)
  a__law_whole : Addr
  d__law_whole : FuncData
  F__law_whole : Fun K "_law_whole" "_law_whole" s__law_whole a__law_whole d__law_whole
  b__law_whole : Binds K d__law_whole ["_law_thing"] []
  g__law_whole : mg "_law_whole" = some (.ref a__law_whole)
  a__law_even : Addr
  d__law_even : FuncData
  F__law_even : Fun K "_law_even" "_law_even" s__law_even a__law_even d__law_even
  b__law_even : Binds K d__law_even ["_law_ends_here", "_law_joining_here"] []
  g__law_even : mg "_law_even" = some (.ref a__law_even)
  a__law_starts : Addr
  d__law_starts : FuncData
  F__law_starts : Fun K "_law_starts" "_law_starts" s__law_starts a__law_starts d__law_starts
  b__law_starts : Binds K d__law_starts ["_law_ends_here"] []
  g__law_starts : mg "_law_starts" = some (.ref a__law_starts)
  a__law_partings_least : Addr
  d__law_partings_least : FuncData
  F__law_partings_least : Fun K "_law_partings_least" "_law_partings_least" s__law_partings_least a__law_partings_least d__law_partings_least
  b__law_partings_least : Binds K d__law_partings_least ["_law_numbers", "_law_mask"] []
  g__law_partings_least : mg "_law_partings_least" = some (.ref a__law_partings_least)
  a__law_lower : Addr
  d__law_lower : FuncData
  F__law_lower : Fun K "_law_lower" "_law_lower" s__law_lower a__law_lower d__law_lower
  b__law_lower : Binds K d__law_lower ["_law_deck_here", "_law_ends_here", "_law_slack"] []
  g__law_lower : mg "_law_lower" = some (.ref a__law_lower)
  a__law_table : Addr
  d__law_table : FuncData
  F__law_table : Fun K "_law_table" "_law_table" s__law_table a__law_table d__law_table
  b__law_table : Binds K d__law_table ["_law_numbers", "_law_many"] []
  g__law_table : mg "_law_table" = some (.ref a__law_table)
  a_law : Addr
  d_law : FuncData
  F_law : Fun K "law" "law" s_law a_law d_law
  b_law : Binds K d_law ["_law_script"] []
  g_law : mg "law" = some (.ref a_law)
  t_GRAIN : Tok
  c_GRAIN : mg "GRAIN" = some (.int 2 t_GRAIN)
  t_MOST_ENDS : Tok
  c_MOST_ENDS : mg "MOST_ENDS" = some (.int 7 t_MOST_ENDS)
  n_list : mg "list" = none
  n_range : mg "range" = none
  n_len : mg "len" = none
  n_sorted : mg "sorted" = none
  n_abs : mg "abs" = none
  n_sum : mg "sum" = none
  n_max : mg "max" = none
  n_bool : mg "bool" = none
  n_isinstance : mg "isinstance" = none
  n_int : mg "int" = none
  n_tuple : mg "tuple" = none
  n_all : mg "all" = none
  n_zip : mg "zip" = none
  n_min : mg "min" = none
  n_any : mg "any" = none
section
local macro_rules | `(tactic| walk_at "ewc") => `(tactic| first
  | (show (0 : Int) < _; omega)
  | (show (0 : Int) < _; decide)
  | (refine ⟨?_, ?_⟩ <;> omega)
  | exact Or.inl ⟨by omega, by omega⟩
  | exact Or.inr ⟨by omega, by omega⟩)
abbrev dk6 (c : Addr) (s n g : Int) : List V := [.ref c, .int s, .int n, .int g]
/-- a deck stands at dk, its cells at c; n draws were made -/
structure Deck (H : Hp) (dk c : Addr) (n : Nat) : Prop where
  ex : ∃ (s g : Int) (cs : List Int), H dk = some (.lst (dk6 c s (n : Int) g)) ∧ H c = some (.lst (cs.map V.int))
section
variable {P : Program} {w : World} {K : PySem.W.Frag} {mg : Str → Option Value} {base : Heap}
theorem nd3 {H : Hp} {dk c : Addr} {s n g : Int} {cs : List Int} (h1 : H dk = some (.lst (dk6 c s n g))) (h2 : H c = some (.lst (cs.map V.int))) : c ≠ dk := fun e => by
  rw [e, h1] at h2
  cases cs with
  | nil => cases h2
  | cons z cs => cases h2
inductive sp__law_take : List V → Hp → VK → XK → Prop
  | mk {H : Hp} {Q : VK} {E : XK} {dk c : Addr} {m : Int} {n : Nat} (hD : Deck H dk c n) (hn : n + 1 ≤ 4611686018427387904) (m0 : 0 < m) (m1 : m < 1073741824) (k : ∀ H' r n', n' ≤ n + 1 → 0 ≤ r → r < m → Deck H' dk c n' → Evo [dk, c] H H' → Q (.int r) H') : sp__law_take [.ref dk, .int m] H Q E
theorem setE {R : Hp → Prop} {H : Hp} {p : Addr} {xs : List V} {k : Int} {j : Nat} {v : V} (h : H p = some (.lst xs)) (e : ixN xs.length k = some j) (q : R (upd H p (.lst (xs.set j v)))) : ∃ p' xs' k' j', V.ref p = .ref p' ∧ V.int k = .int k' ∧ H p' = some (.lst xs') ∧ ixN xs'.length k' = some j' ∧ R (upd H p' (.lst (xs'.set j' v))) := ⟨p, xs, k, j, rfl, rfl, h, e, q⟩
theorem getE {R : V → Prop} {K : PySem.W.Frag} {H : Hp} {p : Addr} {xs : List V} {k : Int} {v : V} (h : H p = some (.lst xs)) (e : atI xs k = some v) (q : R v) : ∃ p' xs' i' v', V.ref p = .ref p' ∧ V.int k = .int i' ∧ SqL K H p' xs' ∧ atI xs' i' = some v' ∧ R v' := ⟨p, xs, k, v, rfl, rfl, SqL.of h, e, q⟩
set_option maxHeartbeats 1000000 in
theorem ok__law_take (T : Tx K mg base) : FnOk P w K mg base CX0 1 T.a__law_take T.d__law_take ["_law_deck_here", "_law_most"] sp__law_take := by
  refine T.F__law_take.ok sc__law_take (fun vs H Q E h => ?_) (fun cdv A outer s0 H vs Q E hr h => ?_)
  · cases h
    rfl
  · obtain @⟨_, _, _, dk, c, m, n, ⟨s, g, cs, hd, hc⟩, hn, m0, m1, k⟩ := h
    have hu := hu_of hr
    have ncd : c ≠ dk := nd3 hd hc
    have hmd : ∀ ys, H dk ≠ some (.tup ys) := fun ys e => by rw [hd] at e; cases e
    have hfd : ∀ u v, H dk ≠ some (.frz u v) := fun ys _ e => by rw [hd] at e; cases e
    have hmc : ∀ ys, H c ≠ some (.tup ys) := fun ys e => by rw [hc] at e; cases e
    have hfc : ∀ u v, H c ≠ some (.frz u v) := fun ys _ e => by rw [hc] at e; cases e
    have i1 : dk ∈ [dk, c] := List.mem_cons_self
    have i2 : c ∈ [dk, c] := List.mem_cons_of_mem _ List.mem_cons_self
    refine ⟨_, (pss_cons (ps_if (pt_cmpR op_gt (pe_ix (r := rIxL K) ix_list (pv 0) pe_int (fun _ _ => rfl)) pe_int (nomark _)) (pss_cons (ps_set (i := 2) sc__law_take.nd rfl (Or.inl rfl) (pe_op op_mod (pe_ix (r := rIxL K) ix_list (pv 0) pe_int (fun _ _ => rfl)) (pv 1)))
      (pss_cons (ps_asg (pe_op op_fdiv (pe_ix (r := rIxL K) ix_list (pv 0) pe_int (fun _ _ => rfl)) (pv 1)) (pg_sub (pv 0) pe_int set_list))
      (pss_one (ps_ret (pv 2))))) pss_nil)
      (pss_cons (ps_asg (pe_op op_add (pe_ix (r := rIxL K) ix_list (pv 0) pe_int (fun _ _ => rfl)) pe_int) (pg_sub (pv 0) pe_int set_list))
      (pss_cons (ps_set (i := 3) sc__law_take.nd rfl (Or.inl rfl) (pe_op op_add (pe_ix (r := rIxL K) ix_list (pv 0) pe_int (fun _ _ => rfl)) (pe_op op_mul pe_int (pe_ix (r := rIxL K) ix_list (pv 0) pe_int (fun _ _ => rfl)))))
      (C8.pss_cut (ps_if (pt_cmpR (r := Ew.rNeX K) (Ew.op_neX hr.units) (pe_ix (r := rIxL K) ix_list (pv 0) pe_int (fun _ _ => rfl)) (pe_lst pa_nil) (nomark _)) (pss_one (ps_set (i := 3) sc__law_take.nd rfl (Or.inl rfl) (pe_bm0 PySem.F.plainAttrs_list PySem.F.slot_list_pop PySem.F.type_list_pop mt_pop (pe_ix (r := rIxL K) ix_list (pv 0) pe_int (fun _ _ => rfl))))) pss_nil)
      (C8.pss_cut (ps_if (pt_cmpR op_ge (pv 3) (pe_op (Ew.op_powC 10 18 1000000000000000000) pe_int pe_int) (nomark _)) (pss_cons (ps_asg (pe_op op_fdiv (pv 3) (pv 1)) (pg_sub (pv 0) pe_int set_list))
      (pss_one (ps_ret (pe_op op_mod (pv 3) (pv 1))))) pss_nil)
      (pss_cons (ps_set (i := 4) sc__law_take.nd rfl (Or.inl rfl) (pe_op op_mod (pe_op op_mul (pe_op op_add (pe_op op_add (pe_op op_mod (pv 3) pe_int) (pe_op op_mul (pe_op op_mul pe_int (pe_ix (r := rIxL K) ix_list (pv 0) pe_int (fun _ _ => rfl))) (pe_ix (r := rIxL K) ix_list (pv 0) pe_int (fun _ _ => rfl)))) pe_int) pe_int) pe_int))
      (pss_cons (ps_set (i := 4) sc__law_take.nd rfl (Or.inl rfl) (pe_op op_mod (pe_op op_add (pe_op op_add (pe_op op_mul (pv 4) (pv 4)) (pe_op op_mul pe_int (pv 4))) (pe_ix (r := rIxL K) ix_list (pv 0) pe_int (fun _ _ => rfl))) pe_int))
      (pss_one (ps_ret (pe_op op_mod (pe_op op_fdiv (pe_op op_mod (pe_op op_mul (pv 4) pe_int) pe_int) pe_int) (pv 1))))))))))), ?_⟩
    refine ⟨_, rfl, getE hd rfl ⟨_, _, rfl, rfl, _, rfl, iteD (fun hg => ?_) (fun hg => ?_)⟩⟩
    · refine ⟨_, rfl, getE hd rfl ⟨_, rfl, ⟨_, _, rfl, rfl, by walk_at "ewc", ?_⟩⟩⟩
      refine ⟨_, rfl, getE hd rfl ⟨_, rfl, ⟨_, _, rfl, rfl, by walk_at "ewc", ?_⟩⟩⟩
      refine ⟨_, rfl, setE hd rfl ?_⟩
      refine ⟨_, rfl, ?_⟩
      exact k _ _ n (by omega) (Int.emod_nonneg _ (by omega)) (Int.emod_lt_of_pos _ m0) ⟨_, _, cs, upd_same, get_ne ncd hc⟩ ((Evo.refl _ H).set i1 hmd hfd)
    · refine ⟨_, rfl, getE hd rfl ⟨_, _, rfl, rfl, ?_⟩⟩
      refine ⟨_, rfl, setE hd rfl ?_⟩
      have E1 : Evo [dk, c] H (upd H dk (.lst (dk6 c s ((n : Int) + 1) g))) := (Evo.refl _ H).set i1 hmd hfd
      have hd1 : upd H dk (.lst (dk6 c s ((n : Int) + 1) g)) dk = some (.lst (dk6 c s ((n : Int) + 1) g)) := upd_same
      have hc1 : upd H dk (.lst (dk6 c s ((n : Int) + 1) g)) c = some (.lst (cs.map V.int)) := get_ne ncd hc
      have hn1 : (n : Int) + 1 < 2 ^ 64 := by omega
      have hn0 : -(2 ^ 64) < (n : Int) + 1 := by omega
      refine ⟨_, rfl, getE hd1 rfl ?_⟩
      refine ⟨_, rfl, getE hd1 rfl ?_⟩
      refine ⟨_, _, rfl, rfl, Or.inl ⟨by decide, by decide⟩, ?_⟩
      refine ⟨_, _, rfl, rfl, ?_⟩
      refine ⟨fun σ H' => ∃ (num : Int) (cs' : List Int), σ = [some (.ref dk), some (.int m), none, some (.int num), none] ∧ H' dk = some (.lst (dk6 c s ((n : Int) + 1) g)) ∧ H' c = some (.lst (cs'.map V.int)) ∧ Evo [dk, c] H H', ?_, ?_⟩
      · refine ⟨_, rfl, getE hd1 rfl ⟨sz (by decide), fun p hp => ?_⟩⟩
        have E2 := E1.new (o := .lst []) hp
        have hd2 := get_new (o := .lst []) hp hd1
        have hc2 := get_new (o := .lst []) hp hc1
        refine ⟨_, eqL hc2 upd_same (intsOf_of cs) (xs := cs) (ys := []) rfl, ?_⟩
        refine ⟨_, rfl, iteN (fun hne => ?_) (fun he => ?_)⟩
        · refine ⟨_, rfl, getE hd2 rfl ⟨.inl ⟨rfl, _, SqL.of hc2⟩, ?_⟩⟩
          have hpos : 0 < cs.length := List.length_pos_iff.mpr hne
          have hla : (cs.map V.int)[(cs.map V.int).length - 1]? = some (.int (cs[cs.length - 1]'(by omega))) := by
            rw [List.length_map, List.getElem?_map, List.getElem?_eq_getElem (by omega)]
            rfl
          refine ⟨c, _, _, rfl, rfl, hc2, hla, ?_⟩
          generalize cs[cs.length - 1]'(by omega) = z
          rw [show (cs.map V.int).dropLast = cs.dropLast.map V.int by rw [List.map_dropLast]]
          exact ⟨z, cs.dropLast, rfl, get_ne ncd.symm hd2, upd_same, E2.set i2 hmc hfc⟩
        · exact ⟨_, cs, rfl, hd2, hc2, E2⟩
      rintro σ' H' ⟨num, cs', rfl, hd4, hc4, E4⟩
      refine ⟨fun σ H2 => σ = [some (.ref dk), some (.int m), none, some (.int num), none] ∧ H2 = H', ?_, ?_⟩
      · refine ⟨_, rfl, rfl, rfl, _, _, rfl, rfl, _, rfl, iteD (fun hz => ?_) (fun hz => ?_)⟩
        · refine ⟨_, rfl, ⟨_, rfl, ⟨_, _, rfl, rfl, by walk_at "ewc", ?_⟩⟩⟩
          refine ⟨_, rfl, setE hd4 rfl ?_⟩
          refine ⟨_, rfl, ⟨_, rfl, ⟨_, _, rfl, rfl, by walk_at "ewc", ?_⟩⟩⟩
          exact k _ _ (n + 1) (Nat.le_refl _) (Int.emod_nonneg _ (by omega)) (Int.emod_lt_of_pos _ m0) ⟨s, num / m, cs', by rw [show ((n + 1 : Nat) : Int) = (n : Int) + 1 from by omega]; exact upd_same, get_ne ncd hc4⟩ (E4.set i1 hmd hfd)
        · exact ⟨rfl, rfl⟩
      rintro σ2 H2 ⟨rfl, rfl⟩
      have n0 : ∀ z : Int, 0 ≤ z % 2147483647 := fun z => by omega
      have n1 : ∀ z : Int, z % 2147483647 < 2147483647 := fun z => by omega
      refine ⟨_, rfl, ⟨_, _, rfl, rfl, by walk_at "ewc", ?_⟩⟩
      refine ⟨_, rfl, getE hd4 rfl ?_⟩
      refine ⟨_, _, rfl, rfl, Or.inl ⟨by decide, by decide⟩, ?_⟩
      refine ⟨_, rfl, getE hd4 rfl ?_⟩
      refine ⟨_, _, rfl, rfl, Or.inr ⟨hn0, hn1⟩, ?_⟩
      refine ⟨_, _, rfl, rfl, ?_⟩
      refine ⟨_, _, rfl, rfl, ?_⟩
      refine ⟨_, _, rfl, rfl, by walk_at "ewc", ?_⟩
      refine ⟨_, _, rfl, rfl, by walk_at "ewc", ?_⟩
      refine ⟨_, rfl, _, rfl, _, _, rfl, rfl, Or.inl ⟨Int.lt_of_lt_of_le (by decide) (n0 _), Int.lt_trans (n1 _) (by decide)⟩, ?_⟩
      refine ⟨_, rfl, ⟨_, _, rfl, rfl, by walk_at "ewc", ?_⟩⟩
      refine ⟨_, _, rfl, rfl, ?_⟩
      refine ⟨_, rfl, getE hd4 rfl ?_⟩
      refine ⟨_, _, rfl, rfl, ?_⟩
      refine ⟨_, _, rfl, rfl, by walk_at "ewc", ?_⟩
      refine ⟨_, rfl, ⟨_, _, rfl, rfl, by walk_at "ewc", ?_⟩⟩
      refine ⟨_, _, rfl, rfl, by walk_at "ewc", ?_⟩
      refine ⟨_, _, rfl, rfl, by walk_at "ewc", ?_⟩
      refine ⟨_, rfl, ⟨_, _, rfl, rfl, by walk_at "ewc", ?_⟩⟩
      exact k _ _ (n + 1) (Nat.le_refl _) (Int.emod_nonneg _ (by omega)) (Int.emod_lt_of_pos _ m0) ⟨s, g, cs', by rw [show ((n + 1 : Nat) : Int) = (n : Int) + 1 from by omega]; exact hd4, hc4⟩ E4
end
end
end Ew
namespace Ew
open PySem PySem.Spec PyProof.Rows L2 Pu
variable [Tbs]
section
variable {P : Program} {w : World} {K : PySem.W.Frag} {mg : Str → Option Value} {base : Heap}
theorem deck_dkF {H : Hp} {dk c : Addr} {n : Nat} (h : Deck H dk c n) : DkF 6 H dk c := by
  obtain ⟨s, g, cs, h1, h2⟩ := h
  exact ⟨s, _, g, cs, h1, h2, trivial⟩
def P__law_deck : PSt := (sRet (eLst (aCons (eUn dRevL (eV 1)) (aCons (eOp dAdd (eOp dAdd (eCall gSum (aCons (eLc [2] (iSeq (eV 1)) (gtName 2) (fun _ k => k true) (eOp dMod (eV 2) (eC (.int 999983)))) aNil)) (eOp dMul (eC (.int 31)) (eCall gLen (aCons (eV 1) aNil)))) (eC (.int 7))) (aCons (eC (.int 0)) (aCons (eC (.int 0)) aNil))))))
local macro_rules | `(tactic| walk_at "pscall") => `(tactic| fail)
local macro_rules | `(tactic| walk_at "psside") => `(tactic| first
  | exact Or.inl ⟨by decide, by decide⟩
  | exact Or.inr ⟨by decide, by decide⟩
  | exact ⟨by decide, by decide, by decide⟩
  | exact ⟨by decide, by decide⟩
  | decide
  | omega
  | (unfold CMul; omega)
  | (unfold CDiv; omega))
local macro_rules | `(tactic| walk_at "ps") => `(tactic| first
  | with_reducible refine nx_i ?_
  | with_reducible refine rt_i ?_
  | with_reducible refine blK_i ?_
  | with_reducible refine sSeq_set ?_
  | with_reducible refine sSeq_setM ?_
  | with_reducible refine sSetM_i ?_
  | ((with_reducible refine' sDput_i ?ps1 ?_); (case ps1 => exact rfl))
  | ((with_reducible refine' eO_d ?ps1 ?_); (case ps1 => exact rfl))
  | with_reducible refine dDin_i ?_
  | with_reducible refine mE_i ?_
  | with_reducible refine mLst_i ?_
  | with_reducible refine mTup_i ?_
  | with_reducible refine mCons_i ?_
  | with_reducible refine mNil_i ?_
  | ((with_reducible refine' mPop_i ?ps1 ?_); (case ps1 => exact rfl))
  | ((with_reducible refine' mPop0_i ?ps1 ?_); (case ps1 => exact rfl))
  | with_reducible refine sSeq_ifr ?_
  | with_reducible refine sSeq_asg ?_
  | with_reducible refine sSeq_own ?_
  | with_reducible refine sSeq_app ?_
  | with_reducible refine sSeq_for ?_
  | with_reducible refine sSeq_par ?_
  | with_reducible refine sSeq_drop ?_
  | with_reducible refine sSeq_put ?_
  | with_reducible refine sSeq_pop ?_
  | with_reducible refine sSeq_ifn ?_
  | ((with_reducible refine' eV_i ?ps1 ?_); (case ps1 => exact rfl))
  | with_reducible refine eOp_i ?_
  | with_reducible refine eC_i ?_
  | ((with_reducible refine' dIx_t ?ps1 ?_); (case ps1 => exact rfl))
  | with_reducible refine dI0_i ?_
  | with_reducible refine dAdd_i ?_
  | with_reducible refine aCons_i ?_
  | with_reducible refine dEq_int ?_
  | with_reducible refine dNe_int ?_
  | with_reducible refine aNil_i ?_
  | with_reducible refine eCall_i ?_
  | walk_at "pscall"
  | ((with_reducible refine' and_rfl ?ps1 ?_); (case ps1 => exact rfl))
  | with_reducible refine sSet_i ?_
  | with_reducible refine sNext_i ?_
  | with_reducible refine sRet_i ?_
  | with_reducible refine eTup_i ?_
  | ((with_reducible refine' and_le ?ps1 ?_); (case ps1 => exact rfl))
  | with_reducible refine tOf_i ?_
  | with_reducible refine sIf_i ?_
  | with_reducible refine tAndP_i ?_
  | with_reducible refine tOrP_i ?_
  | with_reducible refine tNotP_i ?_
  | with_reducible refine gMax_2 ?_
  | with_reducible refine gMin_2 ?_
  | with_reducible refine gMax_3 ?_
  | with_reducible refine gMin_3 ?_
  | with_reducible refine gMax_4 ?_
  | with_reducible refine gMin_4 ?_
  | with_reducible refine gMax_5 ?_
  | with_reducible refine gAbs_i ?_
  | with_reducible refine gLen_t ?_
  | with_reducible refine gLen_l ?_
  | with_reducible refine gInt_i ?_
  | with_reducible refine gInt_b ?_
  | ((with_reducible refine' gIsi_i ?ps1 ?ps2 ?_); (case ps1 => exact rfl); (case ps2 => exact rfl))
  | with_reducible refine sAsg_i ?_
  | ((with_reducible refine' gtTup_i ?ps1 ?_); (case ps1 => exact rfl))
  | with_reducible refine gtCons_i ?_
  | with_reducible refine gtNil_i ?_
  | with_reducible refine gtName_i ?_
  | with_reducible refine sPar_i ?_
  | with_reducible refine prK_i ?_
  | with_reducible refine inK_i ?_
  | with_reducible refine sqK_t ?_
  | with_reducible refine sqK_l ?_
  | with_reducible refine bk_i ?_
  | with_reducible refine ct_i ?_
  | with_reducible refine eUn_i ?_
  | with_reducible refine dNeg_i ?_
  | with_reducible refine dNot_i ?_
  | with_reducible refine eAnd_i ?_
  | with_reducible refine eOr_i ?_
  | with_reducible refine eChain_i ?_
  | with_reducible refine eIf_i ?_
  | ((with_reducible refine' dIx_l ?ps1 ?_); (case ps1 => exact rfl))
  | with_reducible refine eLst_i ?_
  | with_reducible refine dTuple_l ?_
  | with_reducible refine dTuple_t ?_
  | with_reducible refine dList_l ?_
  | with_reducible refine dList_t ?_
  | ((with_reducible refine' eO_i ?ps1 ?_); (case ps1 => exact rfl))
  | with_reducible refine sOwn_i ?_
  | ((with_reducible refine' and_lt ?ps1 ?_); (case ps1 => exact rfl))
  | ((with_reducible refine' sAppend_i ?ps1 ?_); (case ps1 => exact rfl))
  | ((with_reducible refine' sFrz_i ?ps1 ?_); (case ps1 => exact rfl))
  | ((with_reducible refine' sRetO_i ?ps1 ?_); (case ps1 => exact rfl))
  | with_reducible refine sRetN_i ?_
  | with_reducible refine sDrop_i ?_
  | with_reducible refine sFor_i ?_
  | with_reducible refine iRange1_i ?_
  | with_reducible refine iRange2_i ?_
  | with_reducible refine iSeq_i ?_
  | with_reducible refine iEnumS_i ?_
  | with_reducible refine iEnum0_i ?_
  | with_reducible refine en0K_t ?_
  | with_reducible refine en0K_l ?_
  | with_reducible refine iRev1_i ?_
  | with_reducible refine sSeq_ins ?_
  | with_reducible refine sSeq_aug ?_
  | ((with_reducible refine' sAug_i ?ps1 ?_); (case ps1 => exact rfl))
  | ((with_reducible refine' sInsert_i ?ps1 ?_); (case ps1 => exact rfl))
  | ((with_reducible refine' sPopAt_i ?ps1 ?_); (case ps1 => exact rfl))
  | with_reducible refine eSl_i ?_
  | with_reducible refine eLc_i ?_
  | with_reducible refine eLc2_i ?_
  | with_reducible refine oNo_i ?_
  | with_reducible refine oPart_i ?_
  | with_reducible refine dSl_t ?_
  | with_reducible refine dSl_l ?_
  | with_reducible refine dRevL_i ?_
  | with_reducible refine eRg1_i ?_
  | with_reducible refine bCase_t ?_
  | with_reducible refine bCase_f ?_
  | with_reducible refine ite_t ?_
  | with_reducible refine ite_f ?_
  | with_reducible refine ite_nt ?_
  | with_reducible refine ite_nf ?_
  | ((with_reducible refine' dII_i ?ps1 ?_); (case ps1 => walk_at "psside")))
local macro_rules | `(tactic| walk_at "psenv") => `(tactic| simp only [List.map_cons, List.map_nil, List.cons_append, List.nil_append, List.length_cons, List.length_nil, Nat.reduceAdd, Nat.reduceSub, List.replicate])
theorem intsD_m' {α : Type} (l : List α) (f : α → Int) : intsD (l.map fun x => D.int (f x)) = some (l.map f) := by
  have : (l.map fun x => D.int (f x)) = (l.map f).map D.int := by rw [List.map_map]; rfl
  rw [this]
  exact intsD_map _
theorem deck_pure {ns : List Int} (hn : ns.length ≤ 63) : P__law_deck (SV.no :: SV.val (.lst (ns.map D.int)) :: List.replicate (N__law_deck.length - 2) SV.no) { nx := fun _ => False, rt := fun d => ∃ (es : List Int) (s : Int), d = .lst [.lst (es.map D.int), .int s, .int 0, .int 0] } := by
  show P__law_deck [SV.no, SV.val (.lst (ns.map D.int)), SV.no] _
  unfold P__law_deck
  repeat walk_at "ps"
  refine ⟨by simp [noOwn], ?_⟩
  refine lcP_m D.int (fun x : Int => D.int (x % 999983)) ns (by omega) ?_ ?_
  · intro x hx A B hA
    repeat walk_at "ps"
    exact hA
  repeat walk_at "ps"
  refine gSum_i (intsD_m' _ _) ?_
  repeat walk_at "ps"
  exact ⟨ns.reverse, _, by rw [List.map_reverse]⟩
theorem isa_ints {z : Zn} {M : AP} {H : Hp} : ∀ {vs : List V} {es : List Int}, IsA z M H vs (es.map D.int) → vs = es.map V.int
  | [], [], _ => rfl
  | v :: vs, e :: es, h => by
    cases h with
    | cons h1 h2 =>
      cases h1
      rw [isa_ints h2]
      rfl
inductive sp__law_deck (K : PySem.W.Frag) : List V → Hp → VK → XK → Prop
  | mk {H : Hp} {Q : VK} {E : XK} {a : Addr} {ns : List Int} (hS : SqL K H a (ns.map V.int)) (hn : ns.length ≤ 63) (hT : Tabs H) (k : ∀ H' dk c, Deck H' dk c 0 → Tabs H' → True → True → Q (.ref dk) H') : sp__law_deck K [.ref a] H Q E
theorem ok__law_deck (T : Tx K mg base) : FnOk P w K mg base CX0 1 T.a__law_deck T.d__law_deck ["_law_script"] (sp__law_deck K) := by
  refine T.F__law_deck.ok sc__law_deck (fun vs H Q _ h => ?_) (fun _ _ _ _ H vs Q _ hr h => ?_)
  · cases h
    rfl
  · obtain @⟨_, _, _, a, ns, hS, hn, hT, k⟩ := h
    have hlen : (ns.map V.int).length ≤ 63 := by rw [List.length_map]; exact hn
    refine ⟨_, pss_cons (ps_set (i := 1) sc__law_deck.nd rfl (Or.inl rfl) (pe_callTy call_list_of (by rfl) T.n_list (by decide +kernel) (pa_cons (pe_slice (r := Ew.rSlE K) Ew.sl_listE (pv 0) po_none (po_some pe_int)) pa_nil))) (B.pss (fr := false) (p := P__law_deck) (b_one (s_ret (E.toB (e_lst (a_cons (l := true) (E.fe (e_revL (E.ec (e_v 1)))) (a_cons (l := true) (e_op op_addA opd_add (E.ec (e_op op_addA opd_add (E.ec (e_callB (cr_sum rfl) cd_sum (by rfl) T.n_sum (by decide +kernel) (a_cons (l := false) (E.toB (e_lc (own := [("_law_cell", 2)]) (i_seq (e_v 1)) (fun _ _ _ _ _ => (g_name (i := 2) sc__law_deck.nd rfl (.inl rfl))) (fun _ _ _ _ _ => ts_nil) (fun _ _ _ _ _ => (e_op op_mod opd_mod (E.toB (e_v 2)) (E.toB e_int))) rfl sc__law_deck.nd (blkOk_by (N := N__law_deck) (sc := defScope s__law_deck) (by decide +kernel)) (fun _ h => h) rg_name)) a_nil))) (E.ec (e_op op_mul opd_mul (E.toB e_int) (E.toB (e_callB call_lenA cd_len (by rfl) T.n_len (by decide +kernel) (a_cons (l := false) (E.toB (e_v 1)) a_nil))))))) (E.ec e_int)) (a_cons (l := true) e_int (a_cons (l := true) e_int a_nil))))))))), ?_⟩
    refine ⟨_, rfl, _, rfl, _, _, _, rfl, hS, Ew.cut63 hlen, fun q hq => ?_⟩
    refine ⟨_, _, rfl, .inl (SqL.of upd_same), fun c hc => ?_⟩
    refine rest_deck (N := N__law_deck) (cs := ns) rs_tPS (by decide) upd_same ((hT.new hq).new hc) (fun H' v d hd r hT' => ?_) (deck_pure hn)
    obtain ⟨es, t, rfl⟩ := hd
    cases r with
    | lst e _ r =>
      cases r with
      | cons r1 r =>
        cases r with
        | cons r2 r =>
          obtain ⟨v3, v4, rfl, r3, r4⟩ := r.two
          cases r2
          cases r3
          cases r4
          cases r1 with
          | lst e1 _ r1 =>
            refine k _ _ _ ⟨_, _, es, e, ?_⟩ hT' trivial trivial
            rw [e1]
            congr 2
            exact isa_ints r1
theorem okS__law_take (T : Tx K mg base) : FnOk P w K mg base CX0 1 T.a__law_take T.d__law_take ["_law_deck_here", "_law_most"] (Sfc false 2 1 wp__law_take) := by
  refine (ok__law_take T).imp fun vs H Q E h => ?_
  obtain ⟨z, X, ds, k, hl, hz, hx, hA, ⟨lv, wl⟩, hw, c⟩ := h
  unfold wp__law_take at hw
  split at hw
  · obtain ⟨v, u, rfl, hv, hu⟩ := hA.two
    cases hu
    obtain ⟨⟨m0, m1⟩, hk⟩ := hw
    generalize hd : D.deck 6 = d at hv
    cases hv with
    | deck ho =>
      obtain ⟨e1, e2, e3, e4⟩ := ho
      injection hd with hd
      have e3' := e3
      rw [← hd] at e3
      rw [← hd] at e4
      obtain ⟨s, g, h0⟩ := e4
      obtain ⟨a, r, s', cs, h1, h2, h3⟩ := e3
      rw [e1]
      refine sp__law_take.mk (c := z.c) (n := z.ct) ⟨s, g, cs, h0, h2⟩ wl m0 m1 fun H' t n' hn' t0 t1 hD ev => ?_
      obtain ⟨s2, g2, cs2, k1, k2⟩ := hD
      refine c n' (.int t) (.int t) H' hn' ⟨fun b o q n => ev.old b o q fun m => ?_, fun b q => ?_, tab_deck e3' ev.old, ⟨rfl, e2, ?_, (by show CtF z.nt H' z.dk z.c n'; rw [← hd]; exact ⟨s2, g2, k1⟩)⟩⟩ (.int t) (fun q => Bool.noConfusion q) (hk t t0 t1)
      · rcases List.mem_cons.mp m with w | w
        · exact n (.inl ⟨e2, .inl w⟩)
        · exact n (.inl ⟨e2, .inr (List.mem_singleton.mp w)⟩)
      · by_cases hb : b ∈ [z.dk, z.c]
        · rcases List.mem_cons.mp hb with w | w
          · rw [w, k1]; intro q; cases q
          · rw [List.mem_singleton.mp w, k2]; intro q; cases q
        · cases hq : H b with
          | none => exact absurd hq q
          | some o => rw [ev.old b o hq hb]; intro q; cases q
      · show DkF z.nt H' z.dk z.c
        rw [← hd]
        exact ⟨s2, _, g2, cs2, k1, k2, trivial⟩
    | _ => cases hd
  · exact hw.elim
theorem deck_0 {H : Hp} {dk c : Addr} (h : Deck H dk c 0) : ∃ s g : Int, H dk = some (.lst [.ref c, .int s, .int 0, .int g]) := by
  obtain ⟨s, g, cs, h1, _⟩ := h
  exact ⟨s, g, h1⟩
end
end Ew
namespace Ew
open PySem PySem.Spec PyProof.Rows L2 Pu
variable [Tbs]
section
variable {P : Program} {w : World} {K : PySem.W.Frag} {mg : Str → Option Value} {base : Heap}
theorem ok_choices (T : Tx K mg base) : FnOk P w K mg base CX0 1 T.a_choices T.d_choices ["many"] (Sf false 1 wp_choices) :=
  fn_ok (p := P_choices) (k := 0) T.F_choices sc_choices (fun _ _ _ _ _ _ hr => (b_cons (s_set (i := 1) (E.fe (e_lst (a_cons (l := true) (e_tup a_nil) a_nil))) sc_choices.nd rfl (Or.inl rfl))
    (b_cons (s_for (i_range1 (a_cons (l := false) (E.toB (e_v 0)) a_nil) (by rfl) T.n_range) (g_name (i := 2) sc_choices.nd rfl (.inr rfl))
    (b_one (s_set (i := 1) (e_op op_addA opd_add (E.ec (e_v 1)) (E.ec (E.fe (e_lc (own := [("some", 3)]) (i_seq (e_v 1)) (fun _ _ _ _ _ => (g_name (i := 3) sc_choices.nd rfl (.inl rfl))) (fun _ _ _ _ _ => ts_nil) (fun _ _ _ _ _ => (e_op op_addA opd_add (E.ec (e_v 3)) (E.ec (e_tup (a_cons (l := true) (e_v 2) a_nil))))) rfl sc_choices.nd (blkOk_by (N := N_choices) (sc := defScope s_choices) (by decide +kernel)) (fun _ h => h) rg_name)))) sc_choices.nd rfl (Or.inl rfl))) PassesOwn.never rfl)
    (b_one (s_ret (E.toB (e_callB cr_sortedN cd_sortedN (by rfl) T.n_sorted (by decide +kernel) (a_cons (l := true) (E.fe (e_lc (own := [("some", 3)]) (i_seq (e_v 1)) (fun _ _ _ _ _ => (g_name (i := 3) sc_choices.nd rfl (.inl rfl))) (fun _ _ _ _ _ => (ts_one (t_cmp op_gt (OpD.eb opd_gt) (E.toB (e_callB call_lenA cd_len (by rfl) T.n_len (by decide +kernel) (a_cons (l := false) (E.toB (e_v 3)) a_nil))) (E.toB e_int) (nomark _)))) (fun _ _ _ _ _ => (e_v 3)) rfl sc_choices.nd (blkOk_by (N := N_choices) (sc := defScope s_choices) (by decide +kernel)) (fun _ h => h) rg_name)) a_nil))))))))
theorem ok_partings (T : Tx K mg base) : FnOk P w K mg base CX0 1 T.a_partings T.d_partings ["some"] (Sf false 1 wp_partings) :=
  fn_ok (p := P_partings) (k := 0) T.F_partings sc_partings (fun _ _ _ _ _ _ hr => (b_cons (s_set (i := 1) (E.fe (e_lst (a_cons (l := true) (e_tup (a_cons (l := true) (e_slice (E.ec (e_v 0)) o_none (o_some (E.toB e_int))) (a_cons (l := true) (e_tup a_nil) a_nil))) a_nil))) sc_partings.nd rfl (Or.inl rfl))
    (b_cons (s_for (i_seq (e_slice (E.ec (e_v 0)) (o_some (E.toB e_int)) o_none)) (g_name (i := 2) sc_partings.nd rfl (.inr rfl))
    (b_one (s_set (i := 1) (e_op op_addA opd_add (E.ec (E.fe (e_lc (own := [("one", 3), ("other", 4)]) (i_seq (e_v 1)) (fun _ _ _ _ _ => (g_tup (by rfl) (gs_cons (g_name (i := 3) sc_partings.nd rfl (.inl rfl)) (gs_cons (g_name (i := 4) sc_partings.nd rfl (.inl rfl)) gs_nil)))) (fun _ _ _ _ _ => ts_nil) (fun _ _ _ _ _ => (e_tup (a_cons (l := true) (e_op op_addA opd_add (E.ec (e_v 3)) (E.ec (e_tup (a_cons (l := true) (e_v 2) a_nil)))) (a_cons (l := true) (e_v 4) a_nil)))) rfl sc_partings.nd (blkOk_by (N := N_partings) (sc := defScope s_partings) (by decide +kernel)) (fun _ h => h) (rg_tup (rgs_cons rg_name (rgs_cons rg_name rgs_nil)))))) (E.ec (E.fe (e_lc (own := [("one", 3), ("other", 4)]) (i_seq (e_v 1)) (fun _ _ _ _ _ => (g_tup (by rfl) (gs_cons (g_name (i := 3) sc_partings.nd rfl (.inl rfl)) (gs_cons (g_name (i := 4) sc_partings.nd rfl (.inl rfl)) gs_nil)))) (fun _ _ _ _ _ => ts_nil) (fun _ _ _ _ _ => (e_tup (a_cons (l := true) (e_v 3) (a_cons (l := true) (e_op op_addA opd_add (E.ec (e_v 4)) (E.ec (e_tup (a_cons (l := true) (e_v 2) a_nil)))) a_nil)))) rfl sc_partings.nd (blkOk_by (N := N_partings) (sc := defScope s_partings) (by decide +kernel)) (fun _ h => h) (rg_tup (rgs_cons rg_name (rgs_cons rg_name rgs_nil))))))) sc_partings.nd rfl (Or.inl rfl))) PassesOwn.never rfl)
    (b_one (s_ret (E.toB (e_lc (own := [("one", 3), ("other", 4)]) (i_seq (e_v 1)) (fun _ _ _ _ _ => (g_tup (by rfl) (gs_cons (g_name (i := 3) sc_partings.nd rfl (.inl rfl)) (gs_cons (g_name (i := 4) sc_partings.nd rfl (.inl rfl)) gs_nil)))) (fun _ _ _ _ _ => (ts_one (t_cmp (op_neD hr.units) (OpD.eb opd_ne) (E.toB (e_v 4)) (E.toB (e_tup a_nil)) (nomark _)))) (fun _ _ _ _ _ => (e_tup (a_cons (l := true) (e_v 3) (a_cons (l := true) (e_v 4) a_nil)))) rfl sc_partings.nd (blkOk_by (N := N_partings) (sc := defScope s_partings) (by decide +kernel)) (fun _ h => h) (rg_tup (rgs_cons rg_name (rgs_cons rg_name rgs_nil))))))))))
theorem ok_steps (T : Tx K mg base) : FnOk P w K mg base CX0 1 T.a_steps T.d_steps ["one", "other"] (Sf false 2 wp_steps) :=
  fn_ok (p := P_steps) (k := 0) T.F_steps sc_steps (fun _ _ _ _ _ _ hr => (b_one (s_ret (E.toB (e_op op_addA opd_add (E.ec (e_callB call_abs cd_abs (by rfl) T.n_abs (by decide +kernel) (a_cons (l := false) (E.toB (e_op op_sub opd_sub (E.toB (e_ix (E.ec (e_v 0)) (E.ec e_int))) (E.toB (e_ix (E.ec (e_v 1)) (E.ec e_int))))) a_nil))) (E.ec (e_callB call_abs cd_abs (by rfl) T.n_abs (by decide +kernel) (a_cons (l := false) (E.toB (e_op op_sub opd_sub (E.toB (e_ix (E.ec (e_v 0)) (E.ec e_int))) (E.toB (e_ix (E.ec (e_v 1)) (E.ec e_int))))) a_nil))))))))
theorem ok_wanted (T : Tx K mg base) : FnOk P w K mg base CX0 2 T.a_wanted T.d_wanted ["ends", "one", "other"] (Sf false 3 wp_wanted) :=
  fn_ok (p := P_wanted) (k := 1) T.F_wanted sc_wanted (fun _ _ _ _ _ _ hr => (b_cons (s_set (i := 3) (e_ix (E.ec (e_v 0)) (E.ec (e_v 1))) sc_wanted.nd rfl (Or.inl rfl))
    (b_cons (s_set (i := 4) (e_ix (E.ec (e_v 0)) (E.ec (e_v 2))) sc_wanted.nd rfl (Or.inl rfl))
    (b_one (s_ret (E.toB (e_op op_addA opd_add (E.ec (e_op op_addA opd_add (E.ec (e_ix (E.ec (e_v 3)) (E.ec e_int))) (E.ec (e_ix (E.ec (e_v 4)) (E.ec e_int))))) (E.ec (e_call (mo := .e) (ok_steps T) (hr.mono (by decide)) rfl T.g_steps T.F_steps.kp T.b_steps (a_cons (l := true) (e_slice (E.ec (e_v 3)) o_none (o_some (E.toB e_int))) (a_cons (l := true) (e_slice (E.ec (e_v 4)) o_none (o_some (E.toB e_int))) a_nil)) (.inl rfl))))))))))
theorem ok_started (T : Tx K mg base) : FnOk P w K mg base CX0 1 T.a_started T.d_started ["ends"] (Sf false 1 wp_started) :=
  fn_ok (p := P_started) (k := 0) T.F_started sc_started (fun _ _ _ _ _ _ hr => (b_one (s_ret (E.toB (e_op op_mul opd_mul (E.toB (e_gint (by rfl) T.c_GRAIN)) (E.toB (e_callB (cr_sum rfl) cd_sum (by rfl) T.n_sum (by decide +kernel) (a_cons (l := false) (E.toB (e_lc (own := [("x", 1), ("y", 2), ("start", 3), ("load", 4)]) (i_seq (e_v 0)) (fun _ _ _ _ _ => (g_tup (by rfl) (gs_cons (g_name (i := 1) sc_started.nd rfl (.inl rfl)) (gs_cons (g_name (i := 2) sc_started.nd rfl (.inl rfl)) (gs_cons (g_name (i := 3) sc_started.nd rfl (.inl rfl)) (gs_cons (g_name (i := 4) sc_started.nd rfl (.inl rfl)) gs_nil)))))) (fun _ _ _ _ _ => ts_nil) (fun _ _ _ _ _ => (e_v 3)) rfl sc_started.nd (blkOk_by (N := N_started) (sc := defScope s_started) (by decide +kernel)) (fun _ h => h) (rg_tup (rgs_cons rg_name (rgs_cons rg_name (rgs_cons rg_name (rgs_cons rg_name rgs_nil))))))) a_nil))))))))
theorem ok_height_of (T : Tx K mg base) : FnOk P w K mg base CX0 3 T.a_height_of T.d_height_of ["ends", "some"] (Sf false 2 wp_height_of) :=
  fn_ok (p := P_height_of) (k := 2) T.F_height_of sc_height_of (fun _ _ _ _ _ _ hr => (b_one (s_ret (E.toB (e_callB (cr_max rfl) cd_maxL (by rfl) T.n_max (by decide +kernel) (a_cons (l := false) (E.toB (e_lc2 (own := [("one", 2), ("other", 3)]) (vs1 := [3]) (i_seq (e_v 1)) (fun _ _ _ _ _ => (g_name (i := 2) sc_height_of.nd rfl (.inl rfl))) (fun _ _ _ _ _ => ts_nil) (fun _ _ _ _ _ => (i_seq (e_v 1))) (fun _ _ _ _ _ => (g_name (i := 3) sc_height_of.nd rfl (.inl rfl))) (fun _ _ _ _ _ => ts_nil) (fun _ _ _ _ _ => (e_call (mo := .e) (ok_wanted T) (hr.mono (by decide)) rfl T.g_wanted T.F_wanted.kp T.b_wanted (a_cons (l := true) (e_v 0) (a_cons (l := true) (e_v 2) (a_cons (l := true) (e_v 3) a_nil))) (.inl rfl))) rfl sc_height_of.nd (blkOk_by (N := N_height_of) (sc := defScope s_height_of) (by decide +kernel)) (by decide) (fun _ h => h) (by decide) rg_name rg_name)) a_nil))))))
theorem ok_is_whole (T : Tx K mg base) : FnOk P w K mg base CX0 1 T.a_is_whole T.d_is_whole ["thing"] (Sf false 1 wp_is_whole) :=
  fn_ok (p := P_is_whole) (k := 0) T.F_is_whole sc_is_whole (fun _ _ _ _ _ _ hr => (b_one (s_ret (E.toB (e_and (E.toB (e_callB call_isi cd_isi (by rfl) T.n_isinstance (by decide +kernel) (a_cons (l := false) (E.toB (e_v 0)) (a_cons (l := false) (E.toB (e_ty (n := "int") (by rfl) T.n_int (by decide +kernel))) a_nil)))) (e_one (e_not (E.toB (e_callB call_isi cd_isi (by rfl) T.n_isinstance (by decide +kernel) (a_cons (l := false) (E.toB (e_v 0)) (a_cons (l := false) (E.toB (e_ty (n := "bool") (by rfl) T.n_bool (by decide +kernel))) a_nil)))))))))))
theorem ok_are_wholes (T : Tx K mg base) : FnOk P w K mg base CX0 3 T.a_are_wholes T.d_are_wholes ["thing", "many"] (Sf false 2 wp_are_wholes) :=
  fn_okT (p := P_are_wholes) (k := 2) T.F_are_wholes T.h_are_wholes sc_are_wholes (fun _ _ _ _ _ hr => (b_cons (s_if (w_t (w_or (t_not (t_val (E.toB (e_callB call_isi cd_isi (by rfl) T.n_isinstance (by decide +kernel) (a_cons (l := false) (E.toB (e_v 0)) (a_cons (l := false) (E.toB (e_ty (n := "tuple") (by rfl) T.n_tuple (by decide +kernel))) a_nil)))))) (w_or1 (t_cmp (op_neD hr.units) (OpD.eb opd_ne) (E.toB (e_callB call_lenA cd_len (by rfl) T.n_len (by decide +kernel) (a_cons (l := false) (E.toB (e_v 0)) a_nil))) (E.toB (e_v 1)) (nomark _))))) (b_one (s_ret (E.toB e_bl))) b_nil)
    (b_one (s_ret (E.toB (e_all (k := 1) (own := [("part", 2)]) hr (i_seq (e_v 0)) (fun _ _ _ _ _ _ => (g_name (i := 2) sc_are_wholes.nd rfl (.inl rfl))) (fun _ _ _ _ _ _ hr => (E.toB (e_call (mo := .e) (ok_is_whole T) (hr.mono (by decide)) rfl T.g_is_whole T.F_is_whole.kp T.b_is_whole (a_cons (l := true) (e_v 2) a_nil) (.inl rfl)))) rfl sc_are_wholes.nd (by rfl) T.n_all T.tb_are_wholes T.m_are_wholes rfl (blkOk_by (N := N_are_wholes) (sc := defScope s_are_wholes) (by decide +kernel)) (by decide +kernel) (fun _ h => h) rg_name))))))
theorem ok_numbers_of (T : Tx K mg base) : FnOk P w K mg base CX0 1 T.a_numbers_of T.d_numbers_of ["many", "table"] (Sf false 2 wp_numbers_of) :=
  fn_ok (p := P_numbers_of) (k := 0) T.F_numbers_of sc_numbers_of (fun _ _ _ _ _ _ hr => (b_cons (s_ownDc true (i := 2) (own := [("end", 3)]) (hu_of hr) (i_range1 (a_cons (l := false) (E.toB (e_v 0)) a_nil) (by rfl) T.n_range) (fun _ _ _ _ _ => (g_name (i := 3) sc_numbers_of.nd rfl (.inl rfl))) (fun _ _ _ _ _ => ts_nil) (fun _ _ _ _ _ => (e_tup (a_cons (l := true) (e_v 3) a_nil))) (fun _ _ _ _ _ => e_int) rfl sc_numbers_of.nd rfl rfl (DcG.swD_true rfl rfl rfl (by decide +kernel)) (blkOk_by (N := N_numbers_of) (sc := defScope s_numbers_of) (by decide +kernel)) (fun _ h => h) rg_name)
    (b_cons (s_for (i_seq (e_v 1)) (g_tup (by rfl) (gs_cons (g_name (i := 4) sc_numbers_of.nd rfl (.inl rfl)) (gs_cons (g_name (i := 5) sc_numbers_of.nd rfl (.inl rfl)) gs_nil)))
    (b_one (s_tputN 2 (hu_of hr) (E.toB (e_v 5)) (e_v 4))) PassesOwn.never rfl)
    (b_one (s_retO 2)))))
theorem ok_is_row (T : Tx K mg base) : FnOk P w K mg base CX0 4 T.a_is_row T.d_is_row ["some", "thing"] (Sf false 2 wp_is_row) :=
  fn_ok (p := P_is_row) (k := 3) T.F_is_row sc_is_row (fun _ _ _ _ _ _ hr => (b_cons (s_if (w_t (w_or (t_not (t_val (E.toB (e_callB call_isi cd_isi (by rfl) T.n_isinstance (by decide +kernel) (a_cons (l := false) (E.toB (e_v 1)) (a_cons (l := false) (E.toB (e_ty (n := "tuple") (by rfl) T.n_tuple (by decide +kernel))) a_nil)))))) (w_or1 (t_cmp (op_neD hr.units) (OpD.eb opd_ne) (E.toB (e_callB call_lenA cd_len (by rfl) T.n_len (by decide +kernel) (a_cons (l := false) (E.toB (e_v 1)) a_nil))) (E.toB e_int) (nomark _))))) (b_one (s_ret (E.toB e_bl))) b_nil)
    (b_cons (s_asg (e_v 1) (g_tup (by rfl) (gs_cons (g_name (i := 2) sc_is_row.nd rfl (.inl rfl)) (gs_cons (g_name (i := 3) sc_is_row.nd rfl (.inl rfl)) gs_nil))))
    (b_one (s_ret (E.toB (e_and (E.toB (e_call (mo := .e) (ok_are_wholes T) (hr.mono (by decide)) rfl T.g_are_wholes T.F_are_wholes.kp T.b_are_wholes (a_cons (l := true) (e_v 2) (a_cons (l := true) (e_callB call_lenA cd_len (by rfl) T.n_len (by decide +kernel) (a_cons (l := false) (E.toB (e_v 0)) a_nil)) a_nil)) (.inl rfl))) (e_and (E.toB (e_cmp (op_eqD hr.units) opd_eq (E.toB (e_v 2)) (E.toB (e_v 0)) (nomark _))) (e_and (E.toB (e_call (mo := .e) (ok_is_whole T) (hr.mono (by decide)) rfl T.g_is_whole T.F_is_whole.kp T.b_is_whole (a_cons (l := true) (e_v 3) a_nil) (.inl rfl))) (e_one (e_cmp op_ge opd_ge (E.toB (e_v 3)) (E.toB e_int) (nomark _))))))))))))
theorem ok_has_form (T : Tx K mg base) : FnOk P w K mg base CX0 6 T.a_has_form T.d_has_form ["many", "thing"] (Sf false 2 wp_has_form) :=
  fn_okT (p := P_has_form) (k := 5) T.F_has_form T.h_has_form sc_has_form (fun _ _ _ _ _ hr => (b_cons (s_set (i := 2) (e_call (mo := .e) (ok_choices T) (hr.mono (by decide)) rfl T.g_choices T.F_choices.kp T.b_choices (a_cons (l := true) (e_v 0) a_nil) (.inl rfl)) sc_has_form.nd rfl (Or.inl rfl))
    (b_cons (s_if (w_t (w_or (t_not (t_val (E.toB (e_callB call_isi cd_isi (by rfl) T.n_isinstance (by decide +kernel) (a_cons (l := false) (E.toB (e_v 1)) (a_cons (l := false) (E.toB (e_ty (n := "tuple") (by rfl) T.n_tuple (by decide +kernel))) a_nil)))))) (w_or1 (t_cmp (op_neD hr.units) (OpD.eb opd_ne) (E.toB (e_callB call_lenA cd_len (by rfl) T.n_len (by decide +kernel) (a_cons (l := false) (E.toB (e_v 1)) a_nil))) (E.toB (e_callB call_lenA cd_len (by rfl) T.n_len (by decide +kernel) (a_cons (l := false) (E.toB (e_v 2)) a_nil))) (nomark _))))) (b_one (s_ret (E.toB e_bl))) b_nil)
    (b_one (s_ret (E.toB (e_all (k := 4) (own := [("some", 3), ("part", 4)]) hr (i_zipY (e_v 2) (e_v 1) (by rfl) T.n_zip) (fun _ _ _ _ _ _ => (g_tup (by rfl) (gs_cons (g_name (i := 3) sc_has_form.nd rfl (.inl rfl)) (gs_cons (g_name (i := 4) sc_has_form.nd rfl (.inl rfl)) gs_nil)))) (fun _ _ _ _ _ _ hr => (E.toB (e_call (mo := .e) (ok_is_row T) (hr.mono (by decide)) rfl T.g_is_row T.F_is_row.kp T.b_is_row (a_cons (l := true) (e_v 3) (a_cons (l := true) (e_v 4) a_nil)) (.inl rfl)))) rfl sc_has_form.nd (by rfl) T.n_all T.tb_has_form T.m_has_form rfl (blkOk_by (N := N_has_form) (sc := defScope s_has_form) (by decide +kernel)) (by decide +kernel) (fun _ h => h) (rg_tup (rgs_cons rg_name (rgs_cons rg_name rgs_nil))))))))))
theorem ok_most_of (T : Tx K mg base) : FnOk P w K mg base CX0 4 T.a_most_of T.d_most_of ["ends", "numbers", "some"] (Sf false 3 wp_most_of) :=
  fn_ok (p := P_most_of) (k := 3) T.F_most_of sc_most_of (fun _ _ _ _ _ _ hr => (b_one (s_ret (E.toB (e_op op_addA opd_add (E.ec (e_call (mo := .e) (ok_height_of T) (hr.mono (by decide)) rfl T.g_height_of T.F_height_of.kp T.b_height_of (a_cons (l := true) (e_v 0) (a_cons (l := true) (e_v 2) a_nil)) (.inl rfl))) (E.ec (e_callB (cr_min rfl) cd_minL (by rfl) T.n_min (by decide +kernel) (a_cons (l := false) (E.toB (e_lc (own := [("one", 3), ("other", 4)]) (i_seq (e_call (mo := .e) (ok_partings T) (hr.mono (by decide)) rfl T.g_partings T.F_partings.kp T.b_partings (a_cons (l := true) (e_v 2) a_nil) (.inl rfl))) (fun _ _ _ _ _ => (g_tup (by rfl) (gs_cons (g_name (i := 3) sc_most_of.nd rfl (.inl rfl)) (gs_cons (g_name (i := 4) sc_most_of.nd rfl (.inl rfl)) gs_nil)))) (fun _ _ _ _ _ => ts_nil) (fun _ _ _ _ _ => (e_op op_addA opd_add (E.ec (e_tgetN (hu_of hr) (E.ec (e_v 1)) (e_v 3))) (E.ec (e_tgetN (hu_of hr) (E.ec (e_v 1)) (e_v 4))))) rfl sc_most_of.nd (blkOk_by (N := N_most_of) (sc := defScope s_most_of) (by decide +kernel)) (fun _ h => h) (rg_tup (rgs_cons rg_name (rgs_cons rg_name rgs_nil))))) a_nil))))))))
theorem ok_table_shown (T : Tx K mg base) : FnOk P w K mg base CX0 7 T.a_table_shown T.d_table_shown ["ends", "thing"] (Sf false 2 wp_table_shown) :=
  fn_okT (p := P_table_shown) (k := 6) T.F_table_shown T.h_table_shown sc_table_shown (fun _ _ _ _ _ hr => (b_cons (s_set (i := 2) (e_callB call_lenA cd_len (by rfl) T.n_len (by decide +kernel) (a_cons (l := false) (E.toB (e_v 0)) a_nil)) sc_table_shown.nd rfl (Or.inl rfl))
    (b_cons (s_if (w_t (w_or (t_cmp op_gt (OpD.eb opd_gt) (E.toB (e_v 2)) (E.toB (e_gint (by rfl) T.c_MOST_ENDS)) (nomark _)) (w_or1 (t_not (t_val (E.toB (e_call (mo := .e) (ok_has_form T) (hr.mono (by decide)) rfl T.g_has_form T.F_has_form.kp T.b_has_form (a_cons (l := true) (e_v 2) (a_cons (l := true) (e_v 1) a_nil)) (.inl rfl)))))))) (b_one (s_ret (E.toB e_non))) b_nil)
    (b_cons (s_set (i := 3) (e_call (mo := .e) (ok_numbers_of T) (hr.mono (by decide)) rfl T.g_numbers_of T.F_numbers_of.kp T.b_numbers_of (a_cons (l := true) (e_v 2) (a_cons (l := true) (e_v 1) a_nil)) (.inl rfl)) sc_table_shown.nd rfl (Or.inr rfl))
    (b_cons (s_if (t_val (E.toB (e_any (k := 5) (own := [("some", 4), ("number", 5)]) hr (i_seq (e_v 1)) (fun _ _ _ _ _ _ => (g_tup (by rfl) (gs_cons (g_name (i := 4) sc_table_shown.nd rfl (.inl rfl)) (gs_cons (g_name (i := 5) sc_table_shown.nd rfl (.inl rfl)) gs_nil)))) (fun _ _ _ _ _ _ hr => (E.toB (e_cmp op_gt opd_gt (E.toB (e_v 5)) (E.toB (e_call (mo := .e) (ok_most_of T) (hr.mono (by decide)) rfl T.g_most_of T.F_most_of.kp T.b_most_of (a_cons (l := true) (e_v 0) (a_cons (l := true) (e_v 3) (a_cons (l := true) (e_v 4) a_nil))) (.inl rfl))) (nomark _)))) rfl sc_table_shown.nd (by rfl) T.n_any T.tb_table_shown T.m_table_shown rfl (blkOk_by (N := N_table_shown) (sc := defScope s_table_shown) (by decide +kernel)) (by decide +kernel) (fun _ h => h) (rg_tup (rgs_cons rg_name (rgs_cons rg_name rgs_nil)))))) (b_one (s_ret (E.toB e_non))) b_nil)
    (b_cons (s_set (i := 6) (e_tupRg1 (E.toB (e_v 2)) rfl (by rfl) T.n_tuple (by rfl) T.n_range) sc_table_shown.nd rfl (Or.inl rfl))
    (b_one (s_ret (E.toB (e_op op_sub opd_sub (E.toB (e_op op_addA opd_add (E.ec (e_tgetN (hu_of hr) (E.ec (e_v 3)) (e_v 6))) (E.ec (e_call (mo := .e) (ok_height_of T) (hr.mono (by decide)) rfl T.g_height_of T.F_height_of.kp T.b_height_of (a_cons (l := true) (e_v 0) (a_cons (l := true) (e_v 6) a_nil)) (.inl rfl))))) (E.toB (e_call (mo := .e) (ok_started T) (hr.mono (by decide)) rfl T.g_started T.F_started.kp T.b_started (a_cons (l := true) (e_v 0) a_nil) (.inl rfl)))))))))))))
theorem ok_tie (T : Tx K mg base) : FnOk P w K mg base CX0 8 T.a_tie T.d_tie ["many", "nest", "rows"] (SfB 2 wp_tie) :=
  fn_rec (fun m => SfB 2 (wpR_tie m)) 0 (fun vs H Q E h => let ⟨_, _, _, _, _, _, _, _, _, _, _, _, _, _, _, h, _⟩ := h; h) (fun m IH => fn_okB (p := P_tie (wpR_tie m)) (k := 0 + m) T.F_tie sc_tie (n := 2) rfl (by decide) (fun _ _ _ _ _ _ hr => (b_cons (s_if (t_val (E.toB (e_callB call_isi cd_isi (by rfl) T.n_isinstance (by decide +kernel) (a_cons (l := false) (E.toB (e_v 1)) (a_cons (l := false) (E.toB (e_ty (n := "int") (by rfl) T.n_int (by decide +kernel))) a_nil))))) (b_one (s_retB (e_v 1))) b_nil)
    (b_cons (s_lendS (i := 3) (r := 2) IH (wl_tie _) hr rfl T.g_tie T.F_tie.kp T.b_tie (ab_cons (e_v 0) (ab_cons (e_ix (E.ec (e_v 1)) (E.ec e_int)) (ab_one 2))) sc_tie.nd rfl (Or.inl rfl))
    (b_cons (s_lendS (i := 4) (r := 2) IH (wl_tie _) hr rfl T.g_tie T.F_tie.kp T.b_tie (ab_cons (e_v 0) (ab_cons (e_ix (E.ec (e_v 1)) (E.ec e_int)) (ab_one 2))) sc_tie.nd rfl (Or.inl rfl))
    (b_cons (s_append 2 (e_tup (a_cons (l := true) (e_v 3) (a_cons (l := true) (e_v 4) a_nil))) (hb := fun _ _ ho he => pe_bm PySem.F.plainAttrs_list PySem.F.slot_list_append PySem.F.type_list_append mt_append ho (pa_cons he pa_nil)))
    (b_one (s_retB (e_op op_sub opd_sub (E.toB (e_op op_addA opd_add (E.ec (e_v 0)) (E.ec (e_callB call_lenA cd_len (by rfl) T.n_len (by decide +kernel) (a_cons (l := false) (E.toB (e_o 2)) a_nil))))) (E.toB e_int)))))))))) 8
theorem ok_joining_of (T : Tx K mg base) : FnOk P w K mg base CX0 9 T.a_joining_of T.d_joining_of ["many", "nest"] (Sf false 2 wp_joining_of) :=
  fn_ok (p := P_joining_of) (k := 8) T.F_joining_of sc_joining_of (fun _ _ _ _ _ _ hr => (b_cons (s_own (i := 2) (e_lst a_nil) sc_joining_of.nd rfl (Or.inl rfl))
    (b_cons (s_lend (r := 2) (ok_tie T) (wl_tie _) (hr.mono (by decide)) rfl T.g_tie T.F_tie.kp T.b_tie (ab_cons (e_v 0) (ab_cons (e_v 1) (ab_one 2))))
    (b_frz 2 (b_one (s_ret (E.toB (e_tuple (E.ec (e_v 2)) (by rfl) T.n_tuple (by decide +kernel)))))))))
theorem ok_best_joining (T : Tx K mg base) : FnOk P w K mg base CX0 10 T.a_best_joining T.d_best_joining ["ends"] (Sf false 1 wp_best_joining) :=
  fn_ok (p := P_best_joining) (k := 9) T.F_best_joining sc_best_joining (fun _ _ _ _ _ _ hr => (b_cons (s_set (i := 1) (e_callB call_lenA cd_len (by rfl) T.n_len (by decide +kernel) (a_cons (l := false) (E.toB (e_v 0)) a_nil)) sc_best_joining.nd rfl (Or.inl rfl))
    (b_cons (s_if (t_cmp op_gt (OpD.eb opd_gt) (E.toB (e_v 1)) (E.toB (e_gint (by rfl) T.c_MOST_ENDS)) (nomark _)) (b_one s_never) b_nil)
    (b_cons (s_own (i := 2) (e_dcG true (own := [("end", 3)]) (hu_of hr) (i_range1 (a_cons (l := false) (E.toB (e_v 1)) a_nil) (by rfl) T.n_range) (fun _ _ _ _ _ => (g_name (i := 3) sc_best_joining.nd rfl (.inl rfl))) (fun _ _ _ _ _ => ts_nil) (fun _ _ _ _ _ => (e_tup (a_cons (l := true) (e_v 3) a_nil))) (fun _ _ _ _ _ => e_int) rfl sc_best_joining.nd (blkOk_by (N := N_best_joining) (sc := defScope s_best_joining) (by decide +kernel)) (fun _ h => h) rg_name) sc_best_joining.nd rfl (Or.inr rfl))
    (b_cons (s_ownDcX (i := 4) (own := [("end", 3)]) (hu_of hr) (i_range1 (a_cons (l := false) (E.toB (e_v 1)) a_nil) (by rfl) T.n_range) (fun _ _ _ _ _ => (g_name (i := 3) sc_best_joining.nd rfl (.inl rfl))) (fun _ _ _ _ _ => ts_nil) (fun _ _ _ _ _ => (e_tup (a_cons (l := true) (e_v 3) a_nil))) (fun _ _ _ _ _ => (e_v 3)) rfl sc_best_joining.nd rfl rfl (DcG.swD_true rfl rfl rfl (by decide +kernel)) (blkOk_by (N := N_best_joining) (sc := defScope s_best_joining) (by decide +kernel)) (fun _ h => h) rg_name)
    (b_cons (s_for (i_seq (E.fe (e_sortLen rfl (hu65 hr) (e_call (mo := .e) (ok_choices T) (hr.mono (by decide)) rfl T.g_choices T.F_choices.kp T.b_choices (a_cons (l := true) (e_v 1) a_nil) (.inl rfl)) (by rfl) T.n_sorted (by decide +kernel) (by rfl) T.n_len (by decide +kernel)))) (g_name (i := 5) sc_best_joining.nd rfl (.inl rfl))
    (b_cons (s_asg (e_callB (cr_minD rfl (hu65 hr)) cd_minT (by rfl) T.n_min (by decide +kernel) (a_cons (l := true) (E.fe (e_lc (own := [("one", 7), ("other", 8)]) (i_seq (e_call (mo := .e) (ok_partings T) (hr.mono (by decide)) rfl T.g_partings T.F_partings.kp T.b_partings (a_cons (l := true) (e_v 5) a_nil) (.inl rfl))) (fun _ _ _ _ _ => (g_tup (by rfl) (gs_cons (g_name (i := 7) sc_best_joining.nd rfl (.inl rfl)) (gs_cons (g_name (i := 8) sc_best_joining.nd rfl (.inl rfl)) gs_nil)))) (fun _ _ _ _ _ => ts_nil) (fun _ _ _ _ _ => (e_tup (a_cons (l := true) (e_op op_addA opd_add (E.ec (e_tgetN (hu_of hr) (e_o 2) (e_v 7))) (E.ec (e_tgetN (hu_of hr) (e_o 2) (e_v 8)))) (a_cons (l := true) (e_v 7) (a_cons (l := true) (e_v 8) a_nil))))) rfl sc_best_joining.nd (blkOk_by (N := N_best_joining) (sc := defScope s_best_joining) (by decide +kernel)) (fun _ h => h) (rg_tup (rgs_cons rg_name (rgs_cons rg_name rgs_nil))))) a_nil)) (g_tup (by rfl) (gs_cons (g_name (i := 6) sc_best_joining.nd rfl (.inl rfl)) (gs_cons (g_name (i := 7) sc_best_joining.nd rfl (.inl rfl)) (gs_cons (g_name (i := 8) sc_best_joining.nd rfl (.inl rfl)) gs_nil)))))
    (b_cons (s_tputN 2 (hu_of hr) (E.toB (e_op op_addA opd_add (E.ec (e_call (mo := .e) (ok_height_of T) (hr.mono (by decide)) rfl T.g_height_of T.F_height_of.kp T.b_height_of (a_cons (l := true) (e_v 0) (a_cons (l := true) (e_v 5) a_nil)) (.inl rfl))) (E.ec (e_v 6)))) (e_v 5))
    (b_one (s_xput 4 (hu_of hr) (e_tup (a_cons (l := true) (e_xget (hu_of hr) (e_o 4) (e_v 7)) (a_cons (l := true) (e_xget (hu_of hr) (e_o 4) (e_v 8)) a_nil))) (e_v 5))))) PassesOwn.never rfl)
    (b_frz 2 (b_frz 4 (b_cons (s_set (i := 9) (e_tuple (E.ec (E.fe (e_lc (own := [("some", 5)]) (i_seq (e_call (mo := .e) (ok_choices T) (hr.mono (by decide)) rfl T.g_choices T.F_choices.kp T.b_choices (a_cons (l := true) (e_v 1) a_nil) (.inl rfl))) (fun _ _ _ _ _ => (g_name (i := 5) sc_best_joining.nd rfl (.inl rfl))) (fun _ _ _ _ _ => ts_nil) (fun _ _ _ _ _ => (e_tup (a_cons (l := true) (e_v 5) (a_cons (l := true) (e_tgetN (hu_of hr) (E.ec (e_v 2)) (e_v 5)) a_nil)))) rfl sc_best_joining.nd (blkOk_by (N := N_best_joining) (sc := defScope s_best_joining) (by decide +kernel)) (fun _ h => h) rg_name))) (by rfl) T.n_tuple (by decide +kernel)) sc_best_joining.nd rfl (Or.inl rfl))
    (b_one (s_ret (E.toB (e_tup (a_cons (l := true) (e_call (mo := .e) (ok_joining_of T) (hr.mono (by decide)) rfl T.g_joining_of T.F_joining_of.kp T.b_joining_of (a_cons (l := true) (e_v 1) (a_cons (l := true) (e_xget (hu_of hr) (E.ec (e_v 4)) (e_tupRg1 (E.toB (e_v 1)) rfl (by rfl) T.n_tuple (by rfl) T.n_range)) a_nil)) (.inl rfl)) (a_cons (l := true) (e_v 9) a_nil)))))))))))))))
theorem ok__law_place (T : Tx K mg base) : FnOk P w K mg base CX0 2 T.a__law_place T.d__law_place ["_law_deck_here", "_law_way"] (Sfc false 2 12 wp__law_place) :=
  fn_okC (p := P__law_place) (k := 1) T.F__law_place sc__law_place (fun _ _ _ _ _ _ hr => bc_le (bc_cons (sc_if (Pu.T.cd (t_cmp (op_eqD hr.units) (OpD.eb opd_eq) (E.toB (e_v 1)) (E.toB e_int) (nomark _))) (bc_one (sc_ret (ec_tup (ac_cons (l := true) (ec_calld (mo := .e) (okS__law_take T) (hr.mono (by decide)) rfl T.g__law_take T.F__law_take.kp T.b__law_take (ac_cons (l := true) (Pu.E.cd (e_v 0)) (ac_cons (l := true) (Pu.E.cd e_int) ac_nil)) (.inl rfl)) (ac_cons (l := true) (ec_calld (mo := .e) (okS__law_take T) (hr.mono (by decide)) rfl T.g__law_take T.F__law_take.kp T.b__law_take (ac_cons (l := true) (Pu.E.cd (e_v 0)) (ac_cons (l := true) (Pu.E.cd e_int) ac_nil)) (.inl rfl)) ac_nil))))) bc_nil)
    (bc_cons (sc_if (Pu.T.cd (t_cmp (op_eqD hr.units) (OpD.eb opd_eq) (E.toB (e_v 1)) (E.toB e_int) (nomark _))) (bc_one (sc_ret (ec_tup (ac_cons (l := true) (ec_calld (mo := .e) (okS__law_take T) (hr.mono (by decide)) rfl T.g__law_take T.F__law_take.kp T.b__law_take (ac_cons (l := true) (Pu.E.cd (e_v 0)) (ac_cons (l := true) (Pu.E.cd e_int) ac_nil)) (.inl rfl)) (ac_cons (l := true) (Pu.E.cd e_int) ac_nil))))) bc_nil)
    (bc_cons (sc_if (Pu.T.cd (t_cmp (op_eqD hr.units) (OpD.eb opd_eq) (E.toB (e_v 1)) (E.toB e_int) (nomark _))) (bc_cons (sc_set (i := 2) (ec_calld (mo := .e) (okS__law_take T) (hr.mono (by decide)) rfl T.g__law_take T.F__law_take.kp T.b__law_take (ac_cons (l := true) (Pu.E.cd (e_v 0)) (ac_cons (l := true) (Pu.E.cd e_int) ac_nil)) (.inl rfl)) sc__law_place.nd rfl (Or.inl rfl))
    (bc_one (sc_ret (Pu.E.cd (e_tup (a_cons (l := true) (e_v 2) (a_cons (l := true) (e_op op_sub opd_sub (E.toB e_int) (E.toB (e_v 2))) a_nil))))))) bc_nil)
    (bc_cons (sc_if (Pu.T.cd (t_cmp (op_eqD hr.units) (OpD.eb opd_eq) (E.toB (e_v 1)) (E.toB e_int) (nomark _))) (bc_cons (sc_set (i := 2) (ec_op op_mul opd_mul (Ec.toB (ec_op op_sub opd_sub (Ec.toB (Pu.E.cd (e_powC 10 6 1000000))) (Ec.toB (ec_calld (mo := .e) (okS__law_take T) (hr.mono (by decide)) rfl T.g__law_take T.F__law_take.kp T.b__law_take (ac_cons (l := true) (Pu.E.cd (e_v 0)) (ac_cons (l := true) (Pu.E.cd e_int) ac_nil)) (.inl rfl))))) (Ec.toB (ec_op op_sub opd_sub (Ec.toB (Pu.E.cd e_int)) (Ec.toB (ec_op op_mul opd_mul (Ec.toB (Pu.E.cd e_int)) (Ec.toB (ec_calld (mo := .e) (okS__law_take T) (hr.mono (by decide)) rfl T.g__law_take T.F__law_take.kp T.b__law_take (ac_cons (l := true) (Pu.E.cd (e_v 0)) (ac_cons (l := true) (Pu.E.cd e_int) ac_nil)) (.inl rfl)))))))) sc__law_place.nd rfl (Or.inl rfl))
    (bc_one (sc_ret (ec_tup (ac_cons (l := true) (Pu.E.cd (e_v 2)) (ac_cons (l := true) (ec_op op_mul opd_mul (Ec.toB (ec_op op_sub opd_sub (Ec.toB (Pu.E.cd (e_powC 10 6 1000000))) (Ec.toB (ec_calld (mo := .e) (okS__law_take T) (hr.mono (by decide)) rfl T.g__law_take T.F__law_take.kp T.b__law_take (ac_cons (l := true) (Pu.E.cd (e_v 0)) (ac_cons (l := true) (Pu.E.cd e_int) ac_nil)) (.inl rfl))))) (Ec.toB (ec_op op_sub opd_sub (Ec.toB (Pu.E.cd e_int)) (Ec.toB (ec_op op_mul opd_mul (Ec.toB (Pu.E.cd e_int)) (Ec.toB (ec_calld (mo := .e) (okS__law_take T) (hr.mono (by decide)) rfl T.g__law_take T.F__law_take.kp T.b__law_take (ac_cons (l := true) (Pu.E.cd (e_v 0)) (ac_cons (l := true) (Pu.E.cd e_int) ac_nil)) (.inl rfl)))))))) ac_nil)))))) bc_nil)
    (bc_cons (sc_if (Pu.T.cd (t_cmp (op_eqD hr.units) (OpD.eb opd_eq) (E.toB (e_v 1)) (E.toB e_int) (nomark _))) (bc_one (sc_ret (ec_tup (ac_cons (l := true) (ec_op op_sub opd_sub (Ec.toB (ec_calld (mo := .e) (okS__law_take T) (hr.mono (by decide)) rfl T.g__law_take T.F__law_take.kp T.b__law_take (ac_cons (l := true) (Pu.E.cd (e_v 0)) (ac_cons (l := true) (Pu.E.cd e_int) ac_nil)) (.inl rfl))) (Ec.toB (Pu.E.cd (e_powC 10 6 1000000)))) (ac_cons (l := true) (ec_op op_sub opd_sub (Ec.toB (ec_calld (mo := .e) (okS__law_take T) (hr.mono (by decide)) rfl T.g__law_take T.F__law_take.kp T.b__law_take (ac_cons (l := true) (Pu.E.cd (e_v 0)) (ac_cons (l := true) (Pu.E.cd e_int) ac_nil)) (.inl rfl))) (Ec.toB (Pu.E.cd (e_powC 10 6 1000000)))) ac_nil))))) bc_nil)
    (bc_one (sc_ret (ec_tup (ac_cons (l := true) (ec_calld (mo := .e) (okS__law_take T) (hr.mono (by decide)) rfl T.g__law_take T.F__law_take.kp T.b__law_take (ac_cons (l := true) (Pu.E.cd (e_v 0)) (ac_cons (l := true) (Pu.E.cd e_int) ac_nil)) (.inl rfl)) (ac_cons (l := true) (ec_calld (mo := .e) (okS__law_take T) (hr.mono (by decide)) rfl T.g__law_take T.F__law_take.kp T.b__law_take (ac_cons (l := true) (Pu.E.cd (e_v 0)) (ac_cons (l := true) (Pu.E.cd e_int) ac_nil)) (.inl rfl)) ac_nil)))))))))) (Nat.le_of_ble_eq_true rfl))
theorem ok__law_ends (T : Tx K mg base) : FnOk P w K mg base CX0 3 T.a__law_ends T.d__law_ends ["_law_deck_here", "_law_many"] (Sfc false 2 1700002 wp__law_ends) :=
  fn_okC (p := P__law_ends) (k := 2) T.F__law_ends sc__law_ends (fun _ _ _ _ _ _ hr => bc_le (bc_cons (sc_set (i := 2) (ec_calld (mo := .e) (okS__law_take T) (hr.mono (by decide)) rfl T.g__law_take T.F__law_take.kp T.b__law_take (ac_cons (l := true) (Pu.E.cd (e_v 0)) (ac_cons (l := true) (Pu.E.cd e_int) ac_nil)) (.inl rfl)) sc__law_ends.nd rfl (Or.inl rfl))
    (bc_cons (sc_set (i := 3) (ec_calld (mo := .e) (okS__law_take T) (hr.mono (by decide)) rfl T.g__law_take T.F__law_take.kp T.b__law_take (ac_cons (l := true) (Pu.E.cd (e_v 0)) (ac_cons (l := true) (Pu.E.cd e_int) ac_nil)) (.inl rfl)) sc__law_ends.nd rfl (Or.inl rfl))
    (bc_cons (Pu.S.cd (s_own (i := 4) (e_lst a_nil) sc__law_ends.nd rfl (Or.inl rfl)))
    (bc_cons (sc_for (ic_range1 (ac_cons (l := false) (Ec.toB (Pu.E.cd (e_v 1))) ac_nil) (by rfl) T.n_range) (g_name (i := 5) sc__law_ends.nd rfl (.inl rfl))
    (bc_cons (sc_asg (ec_calld (mo := .e) (ok__law_place T) (hr.mono (by decide)) rfl T.g__law_place T.F__law_place.kp T.b__law_place (ac_cons (l := true) (Pu.E.cd (e_v 0)) (ac_cons (l := true) (Pu.E.cd (e_v 2)) ac_nil)) (.inl rfl)) (g_tup (by rfl) (gs_cons (g_name (i := 6) sc__law_ends.nd rfl (.inl rfl)) (gs_cons (g_name (i := 7) sc__law_ends.nd rfl (.inl rfl)) gs_nil))))
    (bc_cons (sc_if (wc_t (wc_and (Pu.T.cd (t_cmp (op_neD hr.units) (OpD.eb opd_ne) (E.toB (e_o 4)) (E.toB (e_lst a_nil)) (nomark _))) (wc_and1 (tc_cmp (op_eqD hr.units) (OpD.eb opd_eq) (Ec.toB (ec_calld (mo := .e) (okS__law_take T) (hr.mono (by decide)) rfl T.g__law_take T.F__law_take.kp T.b__law_take (ac_cons (l := true) (Pu.E.cd (e_v 0)) (ac_cons (l := true) (Pu.E.cd e_int) ac_nil)) (.inl rfl))) (Ec.toB (Pu.E.cd e_int)) (nomark _))))) (bc_one (sc_asg (ec_slice (Ec.ec (ec_ix (Pu.E.cd (e_o 4)) (Ec.ec (ec_calld (mo := .e) (okS__law_take T) (hr.mono (by decide)) rfl T.g__law_take T.F__law_take.kp T.b__law_take (ac_cons (l := true) (Pu.E.cd (e_v 0)) (ac_cons (l := true) (Pu.E.cd (e_callB call_lenA cd_len (by rfl) T.n_len (by decide +kernel) (a_cons (l := false) (E.toB (e_o 4)) a_nil))) ac_nil)) (.inl rfl))))) o_none (o_some (E.toB e_int))) (g_tup (by rfl) (gs_cons (g_name (i := 6) sc__law_ends.nd rfl (.inl rfl)) (gs_cons (g_name (i := 7) sc__law_ends.nd rfl (.inl rfl)) gs_nil))))) bc_nil)
    (bc_cons (Pu.S.cd (s_set (i := 8) e_int sc__law_ends.nd rfl (Or.inl rfl)))
    (bc_cons (sc_if (Pu.T.cd (t_cmp (op_eqD hr.units) (OpD.eb opd_eq) (E.toB (e_v 3)) (E.toB e_int) (nomark _))) (bc_one (sc_set (i := 8) (ec_calld (mo := .e) (okS__law_take T) (hr.mono (by decide)) rfl T.g__law_take T.F__law_take.kp T.b__law_take (ac_cons (l := true) (Pu.E.cd (e_v 0)) (ac_cons (l := true) (Pu.E.cd e_int) ac_nil)) (.inl rfl)) sc__law_ends.nd rfl (Or.inl rfl))) bc_nil)
    (bc_cons (sc_if (Pu.T.cd (t_cmp (op_eqD hr.units) (OpD.eb opd_eq) (E.toB (e_v 3)) (E.toB e_int) (nomark _))) (bc_one (sc_set (i := 8) (ec_ix (Ec.ec (Ec.fe (Pu.E.cd (e_lst (a_cons (l := true) e_int (a_cons (l := true) (e_powC 10 6 1000000) (a_cons (l := true) e_int a_nil))))))) (Ec.ec (ec_calld (mo := .e) (okS__law_take T) (hr.mono (by decide)) rfl T.g__law_take T.F__law_take.kp T.b__law_take (ac_cons (l := true) (Pu.E.cd (e_v 0)) (ac_cons (l := true) (Pu.E.cd e_int) ac_nil)) (.inl rfl)))) sc__law_ends.nd rfl (Or.inl rfl))) bc_nil)
    (bc_one (sc_append 4 (ec_tup (ac_cons (l := true) (Pu.E.cd (e_v 6)) (ac_cons (l := true) (Pu.E.cd (e_v 7)) (ac_cons (l := true) (Pu.E.cd (e_v 8)) (ac_cons (l := true) (ec_ix (Ec.ec (Ec.fe (Pu.E.cd (e_lst (a_cons (l := true) e_int (a_cons (l := true) e_int (a_cons (l := true) (e_powC 10 6 1000000) a_nil))))))) (Ec.ec (ec_calld (mo := .e) (okS__law_take T) (hr.mono (by decide)) rfl T.g__law_take T.F__law_take.kp T.b__law_take (ac_cons (l := true) (Pu.E.cd (e_v 0)) (ac_cons (l := true) (Pu.E.cd e_int) ac_nil)) (.inl rfl)))) ac_nil))))) (hb := fun _ _ ho he => pe_bm PySem.F.plainAttrs_list PySem.F.slot_list_append PySem.F.type_list_append mt_append ho (pa_cons he pa_nil))))))))) PassesOwn.never rfl)
    (bc_frz 4 (bc_one (sc_ret (Pu.E.cd (e_tuple (E.ec (e_v 4)) (by rfl) T.n_tuple (by decide +kernel)))))))))) (Nat.le_of_ble_eq_true rfl))
theorem ok__law_joining (T : Tx K mg base) : FnOk P w K mg base CX0 2 T.a__law_joining T.d__law_joining ["_law_deck_here", "_law_many"] (Sfc false 2 300001 wp__law_joining) :=
  fn_okC (p := P__law_joining) (k := 1) T.F__law_joining sc__law_joining (fun _ _ _ _ _ _ hr => bc_le (bc_cons (sc_set (i := 2) (ec_cmp (op_eqD hr.units) opd_eq (Ec.toB (ec_calld (mo := .e) (okS__law_take T) (hr.mono (by decide)) rfl T.g__law_take T.F__law_take.kp T.b__law_take (ac_cons (l := true) (Pu.E.cd (e_v 0)) (ac_cons (l := true) (Pu.E.cd e_int) ac_nil)) (.inl rfl))) (Ec.toB (Pu.E.cd e_int)) (nomark _)) sc__law_joining.nd rfl (Or.inl rfl))
    (bc_cons (Pu.S.cd (s_own (i := 3) (e_lstRg1 (E.toB (e_v 1)) rfl (by rfl) T.n_list (by rfl) T.n_range) sc__law_joining.nd rfl (Or.inl rfl)))
    (bc_cons (Pu.S.cd (s_own (i := 4) (e_lst a_nil) sc__law_joining.nd rfl (Or.inl rfl)))
    (bc_cons (sc_for (ic_range1 (ac_cons (l := false) (Ec.toB (Pu.E.cd (e_op op_sub opd_sub (E.toB (e_v 1)) (E.toB e_int)))) ac_nil) (by rfl) T.n_range) (g_name (i := 5) sc__law_joining.nd rfl (.inl rfl))
    (bc_cons (sc_set (i := 6) (ec_calld (mo := .e) (okS__law_take T) (hr.mono (by decide)) rfl T.g__law_take T.F__law_take.kp T.b__law_take (ac_cons (l := true) (Pu.E.cd (e_v 0)) (ac_cons (l := true) (Pu.E.cd (e_callB call_lenA cd_len (by rfl) T.n_len (by decide +kernel) (a_cons (l := false) (E.toB (e_o 3)) a_nil))) ac_nil)) (.inl rfl)) sc__law_joining.nd rfl (Or.inl rfl))
    (bc_cons (Pu.S.cd (s_if (t_val (E.toB (e_v 2))) (b_one (s_set (i := 6) (e_op op_sub opd_sub (E.toB (e_callB call_lenA cd_len (by rfl) T.n_len (by decide +kernel) (a_cons (l := false) (E.toB (e_o 3)) a_nil))) (E.toB e_int)) sc__law_joining.nd rfl (Or.inl rfl))) b_nil))
    (bc_cons (Pu.S.cd (s_popAt 7 3 (E.toB (e_v 6)) rfl (Or.inl rfl) sc__law_joining.nd (fun _ _ ho he => pe_bm PySem.F.plainAttrs_list PySem.F.slot_list_pop PySem.F.type_list_pop mt_popAt ho (pa_cons he pa_nil))))
    (bc_cons (sc_popAt 8 3 (Ec.toB (ec_calld (mo := .e) (okS__law_take T) (hr.mono (by decide)) rfl T.g__law_take T.F__law_take.kp T.b__law_take (ac_cons (l := true) (Pu.E.cd (e_v 0)) (ac_cons (l := true) (Pu.E.cd (e_callB call_lenA cd_len (by rfl) T.n_len (by decide +kernel) (a_cons (l := false) (E.toB (e_o 3)) a_nil))) ac_nil)) (.inl rfl))) rfl (Or.inl rfl) sc__law_joining.nd (fun _ _ ho he => pe_bm PySem.F.plainAttrs_list PySem.F.slot_list_pop PySem.F.type_list_pop mt_popAt ho (pa_cons he pa_nil)))
    (bc_cons (sc_if (tc_cmp (op_eqD hr.units) (OpD.eb opd_eq) (Ec.toB (ec_calld (mo := .e) (okS__law_take T) (hr.mono (by decide)) rfl T.g__law_take T.F__law_take.kp T.b__law_take (ac_cons (l := true) (Pu.E.cd (e_v 0)) (ac_cons (l := true) (Pu.E.cd e_int) ac_nil)) (.inl rfl))) (Ec.toB (Pu.E.cd e_int)) (nomark _)) (bc_one (Pu.S.cd (s_par (i := 7) (j := 8) (a_cons (l := true) (e_v 8) (a_cons (l := true) (e_v 7) a_nil)) (by rfl) sc__law_joining.nd rfl rfl (by decide) rfl rfl (by rfl)))) bc_nil)
    (bc_cons (Pu.S.cd (s_append 4 (e_tup (a_cons (l := true) (e_v 7) (a_cons (l := true) (e_v 8) a_nil))) (hb := fun _ _ ho he => pe_bm PySem.F.plainAttrs_list PySem.F.slot_list_append PySem.F.type_list_append mt_append ho (pa_cons he pa_nil))))
    (bc_one (Pu.S.cd (s_append 3 (e_op op_addA opd_add (E.ec (e_v 1)) (E.ec (e_v 5))) (hb := fun _ _ ho he => pe_bm PySem.F.plainAttrs_list PySem.F.slot_list_append PySem.F.type_list_append mt_append ho (pa_cons he pa_nil))))))))))) PassesOwn.never rfl)
    (bc_frz 3 (bc_frz 4 (bc_one (sc_ret (Pu.E.cd (e_tuple (E.ec (e_v 4)) (by rfl) T.n_tuple (by decide +kernel))))))))))) (Nat.le_of_ble_eq_true rfl))
theorem ok__law_size (T : Tx K mg base) : FnOk P w K mg base CX0 2 T.a__law_size T.d__law_size ["_law_deck_here", "_law_few", "_law_most"] (Sfc false 3 2 wp__law_size) :=
  fn_okC (p := P__law_size) (k := 1) T.F__law_size sc__law_size (fun _ _ _ _ _ _ hr => bc_le (bc_cons (sc_if (tc_cmp (op_eqD hr.units) (OpD.eb opd_eq) (Ec.toB (ec_calld (mo := .e) (okS__law_take T) (hr.mono (by decide)) rfl T.g__law_take T.F__law_take.kp T.b__law_take (ac_cons (l := true) (Pu.E.cd (e_v 0)) (ac_cons (l := true) (Pu.E.cd e_int) ac_nil)) (.inl rfl))) (Ec.toB (Pu.E.cd e_int)) (nomark _)) (bc_one (sc_ret (Pu.E.cd (e_v 2)))) bc_nil)
    (bc_one (sc_ret (ec_op op_addA opd_add (Ec.ec (Pu.E.cd e_int)) (Ec.ec (ec_calld (mo := .e) (okS__law_take T) (hr.mono (by decide)) rfl T.g__law_take T.F__law_take.kp T.b__law_take (ac_cons (l := true) (Pu.E.cd (e_v 0)) (ac_cons (l := true) (Pu.E.cd (e_v 1)) ac_nil)) (.inl rfl))))))) (Nat.le_of_ble_eq_true rfl))
theorem ok__law_want (T : Tx K mg base) : FnOk P w K mg base CX0 1 T.a__law_want T.d__law_want ["_law_ends_here", "_law_one", "_law_other"] (Sf false 3 wp__law_want) :=
  fn_ok (p := P__law_want) (k := 0) T.F__law_want sc__law_want (fun _ _ _ _ _ _ hr => (b_cons (s_set (i := 3) (e_ix (E.ec (e_v 0)) (E.ec (e_v 1))) sc__law_want.nd rfl (Or.inl rfl))
    (b_cons (s_set (i := 4) (e_ix (E.ec (e_v 0)) (E.ec (e_v 2))) sc__law_want.nd rfl (Or.inl rfl))
    (b_one (s_ret (E.toB (e_op op_addA opd_add (E.ec (e_op op_addA opd_add (E.ec (e_op op_addA opd_add (E.ec (e_ix (E.ec (e_v 3)) (E.ec e_int))) (E.ec (e_ix (E.ec (e_v 4)) (E.ec e_int))))) (E.ec (e_callB call_abs cd_abs (by rfl) T.n_abs (by decide +kernel) (a_cons (l := false) (E.toB (e_op op_sub opd_sub (E.toB (e_ix (E.ec (e_v 3)) (E.ec e_int))) (E.toB (e_ix (E.ec (e_v 4)) (E.ec e_int))))) a_nil))))) (E.ec (e_callB call_abs cd_abs (by rfl) T.n_abs (by decide +kernel) (a_cons (l := false) (E.toB (e_op op_sub opd_sub (E.toB (e_ix (E.ec (e_v 3)) (E.ec e_int))) (E.toB (e_ix (E.ec (e_v 4)) (E.ec e_int))))) a_nil))))))))))
theorem ok__law_height (T : Tx K mg base) : FnOk P w K mg base CX0 2 T.a__law_height T.d__law_height ["_law_ends_here", "_law_some"] (Sf false 2 wp__law_height) :=
  fn_ok (p := P__law_height) (k := 1) T.F__law_height sc__law_height (fun _ _ _ _ _ _ hr => (b_cons (s_set (i := 2) e_int sc__law_height.nd rfl (Or.inl rfl))
    (b_cons (s_for (i_seq (e_v 1)) (g_name (i := 3) sc__law_height.nd rfl (.inr rfl))
    (b_one (s_set (i := 2) (e_callB (cr_max rfl) cd_maxL (by rfl) T.n_max (by decide +kernel) (a_cons (l := false) (E.toB (e_op op_addA opd_add (E.ec (E.fe (e_lst (a_cons (l := true) (e_v 2) a_nil)))) (E.ec (E.fe (e_lc (own := [("_law_other", 4)]) (i_seq (e_v 1)) (fun _ _ _ _ _ => (g_name (i := 4) sc__law_height.nd rfl (.inl rfl))) (fun _ _ _ _ _ => ts_nil) (fun _ _ _ _ _ => (e_call (mo := .e) (ok__law_want T) (hr.mono (by decide)) rfl T.g__law_want T.F__law_want.kp T.b__law_want (a_cons (l := true) (e_v 0) (a_cons (l := true) (e_v 3) (a_cons (l := true) (e_v 4) a_nil))) (.inl rfl))) rfl sc__law_height.nd (blkOk_by (N := N__law_height) (sc := defScope s__law_height) (by decide +kernel)) (fun _ h => h) rg_name))))) a_nil)) sc__law_height.nd rfl (Or.inl rfl))) PassesOwn.never rfl)
    (b_one (s_ret (E.toB (e_v 2)))))))
theorem ok__law_members (T : Tx K mg base) : FnOk P w K mg base CX0 1 T.a__law_members T.d__law_members ["_law_mask", "_law_many"] (Sf false 2 wp__law_members) :=
  fn_ok (p := P__law_members) (k := 0) T.F__law_members sc__law_members (fun _ _ _ _ _ _ hr => (b_one (s_ret (E.toB (e_tuple (E.ec (E.fe (e_lc (own := [("_law_k", 2)]) (i_range1 (a_cons (l := false) (E.toB (e_v 1)) a_nil) (by rfl) T.n_range) (fun _ _ _ _ _ => (g_name (i := 2) sc__law_members.nd rfl (.inl rfl))) (fun _ _ _ _ _ => (ts_one (t_cmp (op_eqD hr.units) (OpD.eb opd_eq) (E.toB (e_op op_and opd_andB (E.toB (e_op op_shr opd_shr (E.toB (e_v 0)) (E.toB (e_v 2)))) (E.toB e_int))) (E.toB e_int) (nomark _)))) (fun _ _ _ _ _ => (e_v 2)) rfl sc__law_members.nd (blkOk_by (N := N__law_members) (sc := defScope s__law_members) (by decide +kernel)) (fun _ h => h) rg_name))) (by rfl) T.n_tuple (by decide +kernel))))))
theorem ok__law_whole (T : Tx K mg base) : FnOk P w K mg base CX0 1 T.a__law_whole T.d__law_whole ["_law_thing"] (Sf false 1 wp__law_whole) :=
  fn_ok (p := P__law_whole) (k := 0) T.F__law_whole sc__law_whole (fun _ _ _ _ _ _ hr => (b_one (s_ret (E.toB (e_and (E.toB (e_callB call_isi cd_isi (by rfl) T.n_isinstance (by decide +kernel) (a_cons (l := false) (E.toB (e_v 0)) (a_cons (l := false) (E.toB (e_ty (n := "int") (by rfl) T.n_int (by decide +kernel))) a_nil)))) (e_one (e_not (E.toB (e_callB call_isi cd_isi (by rfl) T.n_isinstance (by decide +kernel) (a_cons (l := false) (E.toB (e_v 0)) (a_cons (l := false) (E.toB (e_ty (n := "bool") (by rfl) T.n_bool (by decide +kernel))) a_nil)))))))))))
theorem ok__law_starts (T : Tx K mg base) : FnOk P w K mg base CX0 1 T.a__law_starts T.d__law_starts ["_law_ends_here"] (Sf false 1 wp__law_starts) :=
  fn_ok (p := P__law_starts) (k := 0) T.F__law_starts sc__law_starts (fun _ _ _ _ _ _ hr => (b_one (s_ret (E.toB (e_op op_mul opd_mul (E.toB e_int) (E.toB (e_callB (cr_sum rfl) cd_sum (by rfl) T.n_sum (by decide +kernel) (a_cons (l := false) (E.toB (e_lc (own := [("_law_end", 1)]) (i_seq (e_v 0)) (fun _ _ _ _ _ => (g_name (i := 1) sc__law_starts.nd rfl (.inl rfl))) (fun _ _ _ _ _ => ts_nil) (fun _ _ _ _ _ => (e_ix (E.ec (e_v 1)) (E.ec e_int))) rfl sc__law_starts.nd (blkOk_by (N := N__law_starts) (sc := defScope s__law_starts) (by decide +kernel)) (fun _ h => h) rg_name)) a_nil))))))))
theorem ok__law_even (T : Tx K mg base) : FnOk P w K mg base CX0 3 T.a__law_even T.d__law_even ["_law_ends_here", "_law_joining_here"] (Sf false 2 wp__law_even) :=
  fn_ok (p := P__law_even) (k := 2) T.F__law_even sc__law_even (fun _ _ _ _ _ _ hr => (b_cons (s_set (i := 2) (e_callB call_lenA cd_len (by rfl) T.n_len (by decide +kernel) (a_cons (l := false) (E.toB (e_v 0)) a_nil)) sc__law_even.nd rfl (Or.inl rfl))
    (b_cons (s_ownLc (i := 3) (own := [("_law_end", 4)]) (i_range1 (a_cons (l := false) (E.toB (e_v 2)) a_nil) (by rfl) T.n_range) (fun _ _ _ _ _ => (g_name (i := 4) sc__law_even.nd rfl (.inl rfl))) (fun _ _ _ _ _ => ts_nil) (fun _ _ _ _ _ => (e_tup (a_cons (l := true) (e_v 4) a_nil))) rfl sc__law_even.nd rfl rfl (sw_true rfl rfl rfl (by decide +kernel)) (blkOk_by (N := N__law_even) (sc := defScope s__law_even) (by decide +kernel)) (fun _ h => h) rg_name)
    (b_cons (s_set (i := 5) e_int sc__law_even.nd rfl (Or.inl rfl))
    (b_cons (s_set (i := 6) (e_op op_mul opd_mul (E.toB e_int) (E.toB (e_ix (E.ec (e_ix (E.ec (e_v 0)) (E.ec e_int))) (E.ec e_int)))) sc__law_even.nd rfl (Or.inl rfl))
    (b_cons (s_for (i_seq (e_v 1)) (g_tup (by rfl) (gs_cons (g_name (i := 7) sc__law_even.nd rfl (.inl rfl)) (gs_cons (g_name (i := 8) sc__law_even.nd rfl (.inl rfl)) gs_nil)))
    (b_cons (s_append 3 (e_op op_addA opd_add (E.ec (e_ix (e_o 3) (E.ec (e_v 7)))) (E.ec (e_ix (e_o 3) (E.ec (e_v 8))))) (hb := fun _ _ ho he => pe_bm PySem.F.plainAttrs_list PySem.F.slot_list_append PySem.F.type_list_append mt_append ho (pa_cons he pa_nil)))
    (b_cons (s_set (i := 6) (e_call (mo := .e) (ok__law_height T) (hr.mono (by decide)) rfl T.g__law_height T.F__law_height.kp T.b__law_height (a_cons (l := true) (e_v 0) (a_cons (l := true) (e_ix (e_o 3) (E.ec (e_neg (E.toB e_int)))) a_nil)) (.inl rfl)) sc__law_even.nd rfl (Or.inl rfl))
    (b_one (s_set (i := 5) (e_op op_addA opd_add (E.ec (e_v 5)) (E.ec (e_v 6))) sc__law_even.nd rfl (Or.inl rfl))))) PassesOwn.never rfl)
    (b_frz 3 (b_one (s_ret (E.toB (e_op op_sub opd_sub (E.toB (e_op op_addA opd_add (E.ec (e_v 5)) (E.ec (e_v 6)))) (E.toB (e_call (mo := .e) (ok__law_starts T) (hr.mono (by decide)) rfl T.g__law_starts T.F__law_starts.kp T.b__law_starts (a_cons (l := true) (e_v 0) a_nil) (.inl rfl))))))))))))))
theorem ok__law_partings_least (T : Tx K mg base) : FnOk P w K mg base CX0 1 T.a__law_partings_least T.d__law_partings_least ["_law_numbers", "_law_mask"] (Sf false 2 wp__law_partings_least) :=
  fn_ok (p := P__law_partings_least) (k := 0) T.F__law_partings_least sc__law_partings_least (fun _ _ _ _ _ _ hr => (b_cons (s_own (i := 2) (e_lst a_nil) sc__law_partings_least.nd rfl (Or.inl rfl))
    (b_cons (s_set (i := 3) (e_op op_and opd_andB (E.toB (e_op op_sub opd_sub (E.toB (e_v 1)) (E.toB e_int))) (E.toB (e_v 1))) sc__law_partings_least.nd rfl (Or.inl rfl))
    (b_cons (s_while (t_cmp op_gt (OpD.eb opd_gt) (E.toB (e_v 3)) (E.toB e_int) (nomark _))
    (b_cons (s_append 2 (e_op op_addA opd_add (E.ec (e_zget (hu_of hr) (e_v 0) (E.ec (e_v 3)))) (E.ec (e_zget (hu_of hr) (e_v 0) (E.ec (e_op op_xor opd_xorB (E.toB (e_v 1)) (E.toB (e_v 3))))))) (hb := fun _ _ ho he => pe_bm PySem.F.plainAttrs_list PySem.F.slot_list_append PySem.F.type_list_append mt_append ho (pa_cons he pa_nil)))
    (b_one (s_set (i := 3) (e_op op_and opd_andB (E.toB (e_op op_sub opd_sub (E.toB (e_v 3)) (E.toB e_int))) (E.toB (e_v 1))) sc__law_partings_least.nd rfl (Or.inl rfl)))) PassesOwn.never)
    (b_frz 2 (b_one (s_ret (E.toB (e_callB (cr_min rfl) cd_minL (by rfl) T.n_min (by decide +kernel) (a_cons (l := false) (E.toB (e_v 2)) a_nil))))))))))
theorem ok__law_lower (T : Tx K mg base) : FnOk P w K mg base CX0 3 T.a__law_lower T.d__law_lower ["_law_deck_here", "_law_ends_here", "_law_slack"] (Sfc true 3 200000 wp__law_lower) :=
  fn_okC (p := P__law_lower) (k := 2) T.F__law_lower sc__law_lower (fun _ _ _ _ _ _ hr => bc_le (bc_cons (Pu.S.cd (s_set (i := 3) (e_callB call_lenA cd_len (by rfl) T.n_len (by decide +kernel) (a_cons (l := false) (E.toB (e_v 1)) a_nil)) sc__law_lower.nd rfl (Or.inl rfl)))
    (bc_cons (Pu.S.cd (s_own (i := 4) e_dic0 sc__law_lower.nd rfl (Or.inl rfl)))
    (bc_cons (sc_for (ic_range2 (ac_cons (l := false) (Ec.toB (Pu.E.cd e_int)) (ac_cons (l := false) (Ec.toB (Pu.E.cd (e_op op_shl opd_shl (E.toB e_int) (E.toB (e_v 3))))) ac_nil)) (by rfl) T.n_range) (g_name (i := 5) sc__law_lower.nd rfl (.inl rfl))
    (bc_cons (Pu.S.cd (s_dput 4 (hu_of hr) e_int (E.toB (e_v 5))))
    (bc_one (sc_if (Pu.T.cd (t_cmp op_gt (OpD.eb opd_gt) (E.toB (e_op op_and opd_andB (E.toB (e_op op_sub opd_sub (E.toB (e_v 5)) (E.toB e_int))) (E.toB (e_v 5)))) (E.toB e_int) (nomark _))) (bc_cons (Pu.S.cd (s_set (i := 6) (e_call (mo := .e) (ok__law_members T) (hr.mono (by decide)) rfl T.g__law_members T.F__law_members.kp T.b__law_members (a_cons (l := true) (e_v 5) (a_cons (l := true) (e_v 3) a_nil)) (.inl rfl)) sc__law_lower.nd rfl (Or.inl rfl)))
    (bc_cons (Pu.S.cd (s_set (i := 7) (e_op op_addA opd_add (E.ec (e_lock 4 (e_call (mo := .e) (ok__law_partings_least T) (hr.mono (by decide)) rfl T.g__law_partings_least T.F__law_partings_least.kp T.b__law_partings_least (a_cons (l := true) (e_v 4) (a_cons (l := true) (e_v 5) a_nil)) (.inl rfl)))) (E.ec (e_call (mo := .e) (ok__law_height T) (hr.mono (by decide)) rfl T.g__law_height T.F__law_height.kp T.b__law_height (a_cons (l := true) (e_v 1) (a_cons (l := true) (e_v 6) a_nil)) (.inl rfl)))) sc__law_lower.nd rfl (Or.inl rfl)))
    (bc_cons (sc_set (i := 8) (ec_op op_mul opd_mul (Ec.toB (Pu.E.cd (e_v 2))) (Ec.toB (ec_calld (mo := .e) (okS__law_take T) (hr.mono (by decide)) rfl T.g__law_take T.F__law_take.kp T.b__law_take (ac_cons (l := true) (Pu.E.cd (e_v 0)) (ac_cons (l := true) (Pu.E.cd e_int) ac_nil)) (.inl rfl)))) sc__law_lower.nd rfl (Or.inl rfl))
    (bc_cons (sc_if (Pu.T.cd (t_cmp (op_eqD hr.units) (OpD.eb opd_eq) (E.toB (e_v 8)) (E.toB e_int) (nomark _))) (bc_one (sc_set (i := 8) (ec_calld (mo := .e) (okS__law_take T) (hr.mono (by decide)) rfl T.g__law_take T.F__law_take.kp T.b__law_take (ac_cons (l := true) (Pu.E.cd (e_v 0)) (ac_cons (l := true) (Pu.E.cd (e_op op_addA opd_add (E.ec (e_v 7)) (E.ec e_int))) ac_nil)) (.inl rfl)) sc__law_lower.nd rfl (Or.inl rfl))) bc_nil)
    (bc_one (Pu.S.cd (s_dput 4 (hu_of hr) (e_callB (call_maxN rfl) cd_maxN (by rfl) T.n_max (by decide +kernel) (a_cons (l := false) (E.toB e_int) (a_cons (l := false) (E.toB (e_op op_sub opd_sub (E.toB (e_v 7)) (E.toB (e_v 8)))) a_nil))) (E.toB (e_v 5))))))))) bc_nil))) PassesOwn.never rfl)
    (bc_one (sc_retO 4))))) (Nat.le_of_ble_eq_true rfl))
theorem ok__law_table (T : Tx K mg base) : FnOk P w K mg base CX0 2 T.a__law_table T.d__law_table ["_law_numbers", "_law_many"] (Sf false 2 wp__law_table) :=
  fn_ok (p := P__law_table) (k := 1) T.F__law_table sc__law_table (fun _ _ _ _ _ _ hr => (b_cons (s_setLc (i := 2) (own := [("_law_mask", 3)]) (i_dz (e_v 0)) (fun _ _ _ _ _ => (g_name (i := 3) sc__law_table.nd rfl (.inl rfl))) (fun _ _ _ _ _ => (ts_one (t_cmp op_gt (OpD.eb opd_gt) (E.toB (e_op op_and opd_andB (E.toB (e_op op_sub opd_sub (E.toB (e_v 3)) (E.toB e_int))) (E.toB (e_v 3)))) (E.toB e_int) (nomark _)))) (fun _ _ _ _ _ => (e_tup (a_cons (l := true) (e_call (mo := .e) (ok__law_members T) (hr.mono (by decide)) rfl T.g__law_members T.F__law_members.kp T.b__law_members (a_cons (l := true) (e_v 3) (a_cons (l := true) (e_v 1) a_nil)) (.inl rfl)) (a_cons (l := true) (e_zget (hu_of hr) (e_v 0) (E.ec (e_v 3))) a_nil)))) rfl sc__law_table.nd rfl rfl (sw_true rfl rfl rfl (by decide +kernel)) (blkOk_by (N := N__law_table) (sc := defScope s__law_table) (by decide +kernel)) (fun _ h => h) rg_name)
    (b_one (s_ret (E.toB (e_tuple (E.ec (E.fe (e_callB (cr_sortedP (hu2 hr)) cd_sortedP (by rfl) T.n_sorted (by decide +kernel) (a_cons (l := true) (e_v 2) a_nil)))) (by rfl) T.n_tuple (by decide +kernel)))))))
end
end Ew
namespace Ew
open PySem PySem.Spec PyProof.Rows L2 Pu
variable [Tbs]
section
variable {P : Program} {w : World} {K : PySem.W.Frag} {mg : Str → Option Value} {base : Heap}
theorem ok_law (T : Tx K mg base) : FnOk P w K mg base CX0 11 T.a_law T.d_law ["_law_script"] (sp_lawT K Tbs.tb) := by
  refine T.F_law.ok sc_law (fun vs H Q _ h => ?_) (fun _ _ _ _ H vs Q _ hr h => ?_)
  · obtain ⟨a, ns, rfl, _⟩ := h
    rfl
  obtain ⟨a, ns, rfl, hS, hn, hT, k⟩ := h
  refine ⟨_, pss_cons (ps_set (i := 1) sc_law.nd rfl (Or.inl rfl) (pe_call (ok__law_deck T) (hr.mono (by decide)) rfl T.g__law_deck T.F__law_deck.kp T.b__law_deck .nil pass0 (pa_cons (pv 0) pa_nil))) (Bc.pss (n := 30002000007) (fr := false) (p := P_law) (bc_le (bc_cons (sc_set (i := 2) (ec_callTy call_int1 cd_int (by rfl) T.n_int (by decide +kernel) (ac_cons (l := false) (Ec.toB (ec_cmp op_gt opd_gt (Ec.toB (ec_calld (mo := .e) (okS__law_take T) (hr.mono (by decide)) rfl T.g__law_take T.F__law_take.kp T.b__law_take (ac_cons (l := true) (Pu.E.cd (e_v 1)) (ac_cons (l := true) (Pu.E.cd e_int) ac_nil)) (.inl rfl))) (Ec.toB (Pu.E.cd e_int)) (nomark _))) ac_nil)) sc_law.nd rfl (Or.inl rfl))
    (bc_cons (sc_set (i := 3) (ec_calld (mo := .e) (okS__law_take T) (hr.mono (by decide)) rfl T.g__law_take T.F__law_take.kp T.b__law_take (ac_cons (l := true) (Pu.E.cd (e_v 1)) (ac_cons (l := true) (Pu.E.cd e_int) ac_nil)) (.inl rfl)) sc_law.nd rfl (Or.inl rfl))
    (bc_cons (sc_set (i := 4) (ec_calld (mo := .e) (ok__law_size T) (hr.mono (by decide)) rfl T.g__law_size T.F__law_size.kp T.b__law_size (ac_cons (l := true) (Pu.E.cd (e_v 1)) (ac_cons (l := true) (Pu.E.cd e_int) (ac_cons (l := true) (ec_op op_addA opd_add (Ec.ec (Pu.E.cd e_int)) (Ec.ec (ec_calld (mo := .e) (okS__law_take T) (hr.mono (by decide)) rfl T.g__law_take T.F__law_take.kp T.b__law_take (ac_cons (l := true) (Pu.E.cd (e_v 1)) (ac_cons (l := true) (Pu.E.cd e_int) ac_nil)) (.inl rfl)))) ac_nil))) (.inl rfl)) sc_law.nd rfl (Or.inl rfl))
    (bc_cons (sc_set (i := 5) (ec_calld (mo := .e) (ok__law_ends T) (hr.mono (by decide)) rfl T.g__law_ends T.F__law_ends.kp T.b__law_ends (ac_cons (l := true) (Pu.E.cd (e_v 1)) (ac_cons (l := true) (Pu.E.cd (e_v 4)) ac_nil)) (.inl rfl)) sc_law.nd rfl (Or.inl rfl))
    (bc_cons (sc_own (i := 6) (ec_calld (mo := .f) (ok__law_lower T) (hr.mono (by decide)) rfl T.g__law_lower T.F__law_lower.kp T.b__law_lower (ac_cons (l := true) (Pu.E.cd (e_v 1)) (ac_cons (l := true) (Pu.E.cd (e_v 5)) (ac_cons (l := true) (Pu.E.cd (e_v 2)) ac_nil))) (.inr ⟨rfl, rfl⟩)) sc_law.nd rfl (Or.inl rfl))
    (bc_cons (Pu.S.cd (s_set (i := 7) (e_op op_sub opd_sub (E.toB (e_op op_shl opd_shl (E.toB e_int) (E.toB (e_v 4)))) (E.toB e_int)) sc_law.nd rfl (Or.inl rfl)))
    (bc_cons (Pu.S.cd (s_set (i := 8) (e_call (mo := .e) (ok__law_height T) (hr.mono (by decide)) rfl T.g__law_height T.F__law_height.kp T.b__law_height (a_cons (l := true) (e_v 5) (a_cons (l := true) (e_tupRg1 (E.toB (e_v 4)) rfl (by rfl) T.n_tuple (by rfl) T.n_range) a_nil)) (.inl rfl)) sc_law.nd rfl (Or.inl rfl)))
    (bc_cons (Pu.S.cd (s_set (i := 9) (e_op op_addA opd_add (E.ec (e_dgetO (hu_of hr) (e_o 6) (E.ec (e_v 7)))) (E.ec (e_op op_mul opd_mul (E.toB (e_op op_sub opd_sub (E.toB (e_v 8)) (E.toB (e_call (mo := .e) (ok__law_starts T) (hr.mono (by decide)) rfl T.g__law_starts T.F__law_starts.kp T.b__law_starts (a_cons (l := true) (e_v 5) a_nil) (.inl rfl))))) (E.toB (e_callTy call_int1 cd_int (by rfl) T.n_int (by decide +kernel) (a_cons (l := false) (E.toB (e_cmp op_gt opd_gt (E.toB (e_v 4)) (E.toB e_int) (nomark _))) a_nil)))))) sc_law.nd rfl (Or.inl rfl)))
    (bc_cons (Pu.S.cd (s_set (i := 10) (e_call (mo := .e) (ok_table_shown T) (hr.mono (by decide)) rfl T.g_table_shown T.F_table_shown.kp T.b_table_shown (a_cons (l := true) (e_v 5) (a_cons (l := true) (e_lock 6 (e_call (mo := .e) (ok__law_table T) (hr.mono (by decide)) rfl T.g__law_table T.F__law_table.kp T.b__law_table (a_cons (l := true) (e_v 6) (a_cons (l := true) (e_v 4) a_nil)) (.inl rfl))) a_nil)) (.inl rfl)) sc_law.nd rfl (Or.inl rfl)))
    (bc_cons (sc_if (Pu.T.cd (w_t (w_or (t_not (t_val (E.toB (e_call (mo := .e) (ok__law_whole T) (hr.mono (by decide)) rfl T.g__law_whole T.F__law_whole.kp T.b__law_whole (a_cons (l := true) (e_v 10) a_nil) (.inl rfl))))) (w_or1 (t_cmp (op_neD hr.units) (OpD.eb opd_ne) (E.toB (e_v 10)) (E.toB (e_v 9)) (nomark _)))))) (bc_one (sc_ret (Pu.E.cd e_bl))) bc_nil)
    (bc_cons (sc_for (ic_range1 (ac_cons (l := false) (Ec.toB (Pu.E.cd (e_v 3))) ac_nil) (by rfl) T.n_range) (g_name (i := 11) sc_law.nd rfl (.inl rfl))
    (bc_one (sc_if (tc_cmp op_gt (OpD.eb opd_gt) (Ec.toB (Pu.E.cd (e_v 10))) (Ec.toB (ec_callP (mo := .e) (ok__law_even T) (hr.mono (by decide)) rfl T.g__law_even T.F__law_even.kp T.b__law_even (ac_cons (l := true) (Pu.E.cd (e_v 5)) (ac_cons (l := true) (ec_calld (mo := .e) (ok__law_joining T) (hr.mono (by decide)) rfl T.g__law_joining T.F__law_joining.kp T.b__law_joining (ac_cons (l := true) (Pu.E.cd (e_v 1)) (ac_cons (l := true) (Pu.E.cd (e_v 4)) ac_nil)) (.inl rfl)) ac_nil)) (.inl rfl))) (nomark _)) (bc_one (sc_ret (Pu.E.cd e_bl))) bc_nil)) PassesOwn.never rfl)
    (bc_cons (Pu.S.cd (s_set (i := 12) (e_call (mo := .e) (ok__law_even T) (hr.mono (by decide)) rfl T.g__law_even T.F__law_even.kp T.b__law_even (a_cons (l := true) (e_v 5) (a_cons (l := true) (e_ix (E.ec (e_call (mo := .e) (ok_best_joining T) (hr.mono (by decide)) rfl T.g_best_joining T.F_best_joining.kp T.b_best_joining (a_cons (l := true) (e_v 5) a_nil) (.inl rfl))) (E.ec e_int)) a_nil)) (.inl rfl)) sc_law.nd rfl (Or.inl rfl)))
    (bc_cons (sc_if (Pu.T.cd (w_t (w_or (t_cmp op_gt (OpD.eb opd_gt) (E.toB (e_v 10)) (E.toB (e_v 12)) (nomark _)) (w_or1 (w_t (w_and (t_cmp (op_eqD hr.units) (OpD.eb opd_eq) (E.toB (e_v 2)) (E.toB e_int) (nomark _)) (w_and1 (t_cmp (op_neD hr.units) (OpD.eb opd_ne) (E.toB (e_v 10)) (E.toB (e_v 12)) (nomark _))))))))) (bc_one (sc_ret (Pu.E.cd e_bl))) bc_nil)
    (bc_cons (sc_if (Pu.T.cd (t_cmp op_gt (OpD.eb opd_gt) (E.toB (e_v 4)) (E.toB e_int) (nomark _))) (bc_cons (Pu.S.cd (s_dput 6 (hu_of hr) (e_op op_addA opd_add (E.ec (e_op op_addA opd_add (E.ec e_int) (E.ec (e_v 8)))) (E.ec (e_lock 6 (e_call (mo := .e) (ok__law_partings_least T) (hr.mono (by decide)) rfl T.g__law_partings_least T.F__law_partings_least.kp T.b__law_partings_least (a_cons (l := true) (e_v 6) (a_cons (l := true) (e_v 7) a_nil)) (.inl rfl))))) (E.toB (e_v 7))))
    (bc_one (sc_ret (Pu.E.cd (e_cmp op_isA opd_is (E.toB (e_call (mo := .e) (ok_table_shown T) (hr.mono (by decide)) rfl T.g_table_shown T.F_table_shown.kp T.b_table_shown (a_cons (l := true) (e_v 5) (a_cons (l := true) (e_lock 6 (e_call (mo := .e) (ok__law_table T) (hr.mono (by decide)) rfl T.g__law_table T.F__law_table.kp T.b__law_table (a_cons (l := true) (e_v 6) (a_cons (l := true) (e_v 4) a_nil)) (.inl rfl))) a_nil)) (.inl rfl))) (E.toB e_non) (nomark _)))))) bc_nil)
    (bc_frz 6 (bc_one (sc_ret (Pu.E.cd e_bl)))))))))))))))))) (Nat.le_of_ble_eq_true rfl))), ?_⟩
  refine ⟨_, rfl, sp__law_deck.mk hS hn hT (fun H1 dk c hD1 hT1 _ _ => ?_)⟩
  exact rest_okC (n := 30002000007) (N := N_law) (Nat.le_of_ble_eq_true rfl) rsc_tPS (by decide) (deck_dkF hD1) (deck_0 hD1) hT1 k law_pure
end
omit [Tbs] in
set_option maxHeartbeats 0 in
theorem all_mk {l : PySem.W.OpenLaw} {w : World} {K : PySem.W.Frag} {h : Heap} {mg : Str → Option Value} {fa : Addr} (X : K.In h) (G : h.Ns mainGlobals mg) (hfa : mg "law" = some (.ref fa))
    {f0 f1 f2 f3 f4 f5 f6 f7 f8 f9 f10 f11 f12 f13 f14 f15 f16 f17 f18 f19 f20 f21 f22 f23 f24 f25 f26 f27 f28 f29 f30 f31 : Addr}
    {od0 an0 od1 an1 od2 an2 od3 an3 od4 an4 od5 an5 od6 an6 od7 an7 od8 an8 od9 an9 od10 an10 od11 an11 od12 an12 od13 an13 od14 an14 od15 an15 od16 an16 od17 an17 od18 an18 od19 an19 od20 an20 od21 an21 od22 an22 od23 an23 od24 an24 od25 an25 od26 an26 od27 an27 od28 an28 od29 an29 od30 an30 od31 an31 : Option Addr} {sl0 sl1 sl2 sl3 sl4 sl5 sl6 sl7 sl8 sl9 sl10 sl11 sl12 sl13 sl14 sl15 sl16 sl17 sl18 sl19 sl20 sl21 sl22 sl23 sl24 sl25 sl26 sl27 sl28 sl29 sl30 sl31 : Array (Option Value)} {oc0 kV0 dc0 pm0 ct0 cd0 oc1 kV1 dc1 pm1 ct1 cd1 oc2 kV2 dc2 pm2 ct2 cd2 oc3 kV3 dc3 pm3 ct3 cd3 oc4 kV4 dc4 pm4 ct4 cd4 oc5 kV5 dc5 pm5 ct5 cd5 oc6 kV6 dc6 pm6 ct6 cd6 oc7 kV7 dc7 pm7 ct7 oc8 kV8 dc8 pm8 ct8 oc9 kV9 dc9 pm9 ct9 oc10 kV10 dc10 pm10 ct10 cd10 oc11 kV11 dc11 pm11 ct11 cd11 oc12 kV12 dc12 pm12 ct12 cd12 oc13 kV13 dc13 pm13 ct13 cd13 oc14 kV14 dc14 pm14 ct14 cd14 oc15 kV15 dc15 pm15 ct15 cd15 oc16 kV16 dc16 pm16 ct16 cd16 oc17 kV17 dc17 pm17 ct17 cd17 oc18 kV18 dc18 pm18 ct18 cd18 oc19 kV19 dc19 pm19 ct19 cd19 oc20 kV20 dc20 pm20 ct20 cd20 oc21 kV21 dc21 pm21 ct21 cd21 oc22 kV22 dc22 pm22 ct22 cd22 oc23 kV23 dc23 pm23 ct23 cd23 oc24 kV24 dc24 pm24 ct24 cd24 oc25 kV25 dc25 pm25 ct25 cd25 oc26 kV26 dc26 pm26 ct26 cd26 oc27 kV27 dc27 pm27 ct27 cd27 oc28 kV28 dc28 pm28 ct28 cd28 oc29 kV29 dc29 pm29 ct29 cd29 oc30 kV30 dc30 pm30 ct30 cd30 oc31 kV31 dc31 pm31 ct31 cd31 : Value}
    {q7 p7 : Addr} {ec7 : Value} {ed7 : Option Addr} {ev7 : Array Value} {es7 : Array (Option Value)}
    {q8 p8 : Addr} {ec8 : Value} {ed8 : Option Addr} {ev8 : Array Value} {es8 : Array (Option Value)}
    {q9 p9 : Addr} {ec9 : Value} {ed9 : Option Addr} {ev9 : Array Value} {es9 : Array (Option Value)}
    (a0 : PySem.W.nsIn K mainGlobals "choices" = some (some (.ref f0))) (l0 : K.lookup f0 = some ⟨oc0, od0, .func (PySem.W.fnOf "choices" "choices" (defArgs s_choices) (defBody s_choices) (defScope s_choices) .none kV0 dc0 pm0 an0 cd0 ct0), sl0⟩) (c0 : PySem.W.codeIn K cd0 "choices" = true) (k0 : PySem.W.keepIn K (.ref f0) = true)
    (a1 : PySem.W.nsIn K mainGlobals "partings" = some (some (.ref f1))) (l1 : K.lookup f1 = some ⟨oc1, od1, .func (PySem.W.fnOf "partings" "partings" (defArgs s_partings) (defBody s_partings) (defScope s_partings) .none kV1 dc1 pm1 an1 cd1 ct1), sl1⟩) (c1 : PySem.W.codeIn K cd1 "partings" = true) (k1 : PySem.W.keepIn K (.ref f1) = true)
    (a2 : PySem.W.nsIn K mainGlobals "steps" = some (some (.ref f2))) (l2 : K.lookup f2 = some ⟨oc2, od2, .func (PySem.W.fnOf "steps" "steps" (defArgs s_steps) (defBody s_steps) (defScope s_steps) .none kV2 dc2 pm2 an2 cd2 ct2), sl2⟩) (c2 : PySem.W.codeIn K cd2 "steps" = true) (k2 : PySem.W.keepIn K (.ref f2) = true)
    (a3 : PySem.W.nsIn K mainGlobals "wanted" = some (some (.ref f3))) (l3 : K.lookup f3 = some ⟨oc3, od3, .func (PySem.W.fnOf "wanted" "wanted" (defArgs s_wanted) (defBody s_wanted) (defScope s_wanted) .none kV3 dc3 pm3 an3 cd3 ct3), sl3⟩) (c3 : PySem.W.codeIn K cd3 "wanted" = true) (k3 : PySem.W.keepIn K (.ref f3) = true)
    (a4 : PySem.W.nsIn K mainGlobals "started" = some (some (.ref f4))) (l4 : K.lookup f4 = some ⟨oc4, od4, .func (PySem.W.fnOf "started" "started" (defArgs s_started) (defBody s_started) (defScope s_started) .none kV4 dc4 pm4 an4 cd4 ct4), sl4⟩) (c4 : PySem.W.codeIn K cd4 "started" = true) (k4 : PySem.W.keepIn K (.ref f4) = true)
    (a5 : PySem.W.nsIn K mainGlobals "height_of" = some (some (.ref f5))) (l5 : K.lookup f5 = some ⟨oc5, od5, .func (PySem.W.fnOf "height_of" "height_of" (defArgs s_height_of) (defBody s_height_of) (defScope s_height_of) .none kV5 dc5 pm5 an5 cd5 ct5), sl5⟩) (c5 : PySem.W.codeIn K cd5 "height_of" = true) (k5 : PySem.W.keepIn K (.ref f5) = true)
    (a6 : PySem.W.nsIn K mainGlobals "is_whole" = some (some (.ref f6))) (l6 : K.lookup f6 = some ⟨oc6, od6, .func (PySem.W.fnOf "is_whole" "is_whole" (defArgs s_is_whole) (defBody s_is_whole) (defScope s_is_whole) .none kV6 dc6 pm6 an6 cd6 ct6), sl6⟩) (c6 : PySem.W.codeIn K cd6 "is_whole" = true) (k6 : PySem.W.keepIn K (.ref f6) = true)
    (a7 : PySem.W.nsIn K mainGlobals "are_wholes" = some (some (.ref f7))) (l7 : K.lookup f7 = some ⟨oc7, od7, .func (PySem.W.fnOf "are_wholes" "are_wholes" (defArgs s_are_wholes) (defBody s_are_wholes) (defScope s_are_wholes) .none kV7 dc7 pm7 an7 (.ref q7) ct7), sl7⟩) (c7 : PySem.W.codeIn K (.ref q7) "are_wholes" = true) (k7 : PySem.W.keepIn K (.ref f7) = true)
    (u7 : K.lookup q7 = some ⟨ec7, ed7, .fields ev7, es7⟩) (w7 : ev7[11]? = some (.ref p7)) (v7 : K.lookup p7 = none)
    (a8 : PySem.W.nsIn K mainGlobals "table_shown" = some (some (.ref f8))) (l8 : K.lookup f8 = some ⟨oc8, od8, .func (PySem.W.fnOf "table_shown" "table_shown" (defArgs s_table_shown) (defBody s_table_shown) (defScope s_table_shown) .none kV8 dc8 pm8 an8 (.ref q8) ct8), sl8⟩) (c8 : PySem.W.codeIn K (.ref q8) "table_shown" = true) (k8 : PySem.W.keepIn K (.ref f8) = true)
    (u8 : K.lookup q8 = some ⟨ec8, ed8, .fields ev8, es8⟩) (w8 : ev8[11]? = some (.ref p8)) (v8 : K.lookup p8 = none)
    (a9 : PySem.W.nsIn K mainGlobals "has_form" = some (some (.ref f9))) (l9 : K.lookup f9 = some ⟨oc9, od9, .func (PySem.W.fnOf "has_form" "has_form" (defArgs s_has_form) (defBody s_has_form) (defScope s_has_form) .none kV9 dc9 pm9 an9 (.ref q9) ct9), sl9⟩) (c9 : PySem.W.codeIn K (.ref q9) "has_form" = true) (k9 : PySem.W.keepIn K (.ref f9) = true)
    (u9 : K.lookup q9 = some ⟨ec9, ed9, .fields ev9, es9⟩) (w9 : ev9[11]? = some (.ref p9)) (v9 : K.lookup p9 = none)
    (a10 : PySem.W.nsIn K mainGlobals "is_row" = some (some (.ref f10))) (l10 : K.lookup f10 = some ⟨oc10, od10, .func (PySem.W.fnOf "is_row" "is_row" (defArgs s_is_row) (defBody s_is_row) (defScope s_is_row) .none kV10 dc10 pm10 an10 cd10 ct10), sl10⟩) (c10 : PySem.W.codeIn K cd10 "is_row" = true) (k10 : PySem.W.keepIn K (.ref f10) = true)
    (a11 : PySem.W.nsIn K mainGlobals "numbers_of" = some (some (.ref f11))) (l11 : K.lookup f11 = some ⟨oc11, od11, .func (PySem.W.fnOf "numbers_of" "numbers_of" (defArgs s_numbers_of) (defBody s_numbers_of) (defScope s_numbers_of) .none kV11 dc11 pm11 an11 cd11 ct11), sl11⟩) (c11 : PySem.W.codeIn K cd11 "numbers_of" = true) (k11 : PySem.W.keepIn K (.ref f11) = true)
    (a12 : PySem.W.nsIn K mainGlobals "most_of" = some (some (.ref f12))) (l12 : K.lookup f12 = some ⟨oc12, od12, .func (PySem.W.fnOf "most_of" "most_of" (defArgs s_most_of) (defBody s_most_of) (defScope s_most_of) .none kV12 dc12 pm12 an12 cd12 ct12), sl12⟩) (c12 : PySem.W.codeIn K cd12 "most_of" = true) (k12 : PySem.W.keepIn K (.ref f12) = true)
    (a13 : PySem.W.nsIn K mainGlobals "joining_of" = some (some (.ref f13))) (l13 : K.lookup f13 = some ⟨oc13, od13, .func (PySem.W.fnOf "joining_of" "joining_of" (defArgs s_joining_of) (defBody s_joining_of) (defScope s_joining_of) .none kV13 dc13 pm13 an13 cd13 ct13), sl13⟩) (c13 : PySem.W.codeIn K cd13 "joining_of" = true) (k13 : PySem.W.keepIn K (.ref f13) = true)
    (a14 : PySem.W.nsIn K mainGlobals "tie" = some (some (.ref f14))) (l14 : K.lookup f14 = some ⟨oc14, od14, .func (PySem.W.fnOf "tie" "tie" (defArgs s_tie) (defBody s_tie) (defScope s_tie) .none kV14 dc14 pm14 an14 cd14 ct14), sl14⟩) (c14 : PySem.W.codeIn K cd14 "tie" = true) (k14 : PySem.W.keepIn K (.ref f14) = true)
    (a15 : PySem.W.nsIn K mainGlobals "best_joining" = some (some (.ref f15))) (l15 : K.lookup f15 = some ⟨oc15, od15, .func (PySem.W.fnOf "best_joining" "best_joining" (defArgs s_best_joining) (defBody s_best_joining) (defScope s_best_joining) .none kV15 dc15 pm15 an15 cd15 ct15), sl15⟩) (c15 : PySem.W.codeIn K cd15 "best_joining" = true) (k15 : PySem.W.keepIn K (.ref f15) = true)
    (a16 : PySem.W.nsIn K mainGlobals "_law_deck" = some (some (.ref f16))) (l16 : K.lookup f16 = some ⟨oc16, od16, .func (PySem.W.fnOf "_law_deck" "_law_deck" (defArgs s__law_deck) (defBody s__law_deck) (defScope s__law_deck) .none kV16 dc16 pm16 an16 cd16 ct16), sl16⟩) (c16 : PySem.W.codeIn K cd16 "_law_deck" = true) (k16 : PySem.W.keepIn K (.ref f16) = true)
    (a17 : PySem.W.nsIn K mainGlobals "_law_take" = some (some (.ref f17))) (l17 : K.lookup f17 = some ⟨oc17, od17, .func (PySem.W.fnOf "_law_take" "_law_take" (defArgs s__law_take) (defBody s__law_take) (defScope s__law_take) .none kV17 dc17 pm17 an17 cd17 ct17), sl17⟩) (c17 : PySem.W.codeIn K cd17 "_law_take" = true) (k17 : PySem.W.keepIn K (.ref f17) = true)
    (a18 : PySem.W.nsIn K mainGlobals "_law_place" = some (some (.ref f18))) (l18 : K.lookup f18 = some ⟨oc18, od18, .func (PySem.W.fnOf "_law_place" "_law_place" (defArgs s__law_place) (defBody s__law_place) (defScope s__law_place) .none kV18 dc18 pm18 an18 cd18 ct18), sl18⟩) (c18 : PySem.W.codeIn K cd18 "_law_place" = true) (k18 : PySem.W.keepIn K (.ref f18) = true)
    (a19 : PySem.W.nsIn K mainGlobals "_law_ends" = some (some (.ref f19))) (l19 : K.lookup f19 = some ⟨oc19, od19, .func (PySem.W.fnOf "_law_ends" "_law_ends" (defArgs s__law_ends) (defBody s__law_ends) (defScope s__law_ends) .none kV19 dc19 pm19 an19 cd19 ct19), sl19⟩) (c19 : PySem.W.codeIn K cd19 "_law_ends" = true) (k19 : PySem.W.keepIn K (.ref f19) = true)
    (a20 : PySem.W.nsIn K mainGlobals "_law_joining" = some (some (.ref f20))) (l20 : K.lookup f20 = some ⟨oc20, od20, .func (PySem.W.fnOf "_law_joining" "_law_joining" (defArgs s__law_joining) (defBody s__law_joining) (defScope s__law_joining) .none kV20 dc20 pm20 an20 cd20 ct20), sl20⟩) (c20 : PySem.W.codeIn K cd20 "_law_joining" = true) (k20 : PySem.W.keepIn K (.ref f20) = true)
    (a21 : PySem.W.nsIn K mainGlobals "_law_size" = some (some (.ref f21))) (l21 : K.lookup f21 = some ⟨oc21, od21, .func (PySem.W.fnOf "_law_size" "_law_size" (defArgs s__law_size) (defBody s__law_size) (defScope s__law_size) .none kV21 dc21 pm21 an21 cd21 ct21), sl21⟩) (c21 : PySem.W.codeIn K cd21 "_law_size" = true) (k21 : PySem.W.keepIn K (.ref f21) = true)
    (a22 : PySem.W.nsIn K mainGlobals "_law_want" = some (some (.ref f22))) (l22 : K.lookup f22 = some ⟨oc22, od22, .func (PySem.W.fnOf "_law_want" "_law_want" (defArgs s__law_want) (defBody s__law_want) (defScope s__law_want) .none kV22 dc22 pm22 an22 cd22 ct22), sl22⟩) (c22 : PySem.W.codeIn K cd22 "_law_want" = true) (k22 : PySem.W.keepIn K (.ref f22) = true)
    (a23 : PySem.W.nsIn K mainGlobals "_law_height" = some (some (.ref f23))) (l23 : K.lookup f23 = some ⟨oc23, od23, .func (PySem.W.fnOf "_law_height" "_law_height" (defArgs s__law_height) (defBody s__law_height) (defScope s__law_height) .none kV23 dc23 pm23 an23 cd23 ct23), sl23⟩) (c23 : PySem.W.codeIn K cd23 "_law_height" = true) (k23 : PySem.W.keepIn K (.ref f23) = true)
    (a24 : PySem.W.nsIn K mainGlobals "_law_members" = some (some (.ref f24))) (l24 : K.lookup f24 = some ⟨oc24, od24, .func (PySem.W.fnOf "_law_members" "_law_members" (defArgs s__law_members) (defBody s__law_members) (defScope s__law_members) .none kV24 dc24 pm24 an24 cd24 ct24), sl24⟩) (c24 : PySem.W.codeIn K cd24 "_law_members" = true) (k24 : PySem.W.keepIn K (.ref f24) = true)
    (a25 : PySem.W.nsIn K mainGlobals "_law_whole" = some (some (.ref f25))) (l25 : K.lookup f25 = some ⟨oc25, od25, .func (PySem.W.fnOf "_law_whole" "_law_whole" (defArgs s__law_whole) (defBody s__law_whole) (defScope s__law_whole) .none kV25 dc25 pm25 an25 cd25 ct25), sl25⟩) (c25 : PySem.W.codeIn K cd25 "_law_whole" = true) (k25 : PySem.W.keepIn K (.ref f25) = true)
    (a26 : PySem.W.nsIn K mainGlobals "_law_even" = some (some (.ref f26))) (l26 : K.lookup f26 = some ⟨oc26, od26, .func (PySem.W.fnOf "_law_even" "_law_even" (defArgs s__law_even) (defBody s__law_even) (defScope s__law_even) .none kV26 dc26 pm26 an26 cd26 ct26), sl26⟩) (c26 : PySem.W.codeIn K cd26 "_law_even" = true) (k26 : PySem.W.keepIn K (.ref f26) = true)
    (a27 : PySem.W.nsIn K mainGlobals "_law_starts" = some (some (.ref f27))) (l27 : K.lookup f27 = some ⟨oc27, od27, .func (PySem.W.fnOf "_law_starts" "_law_starts" (defArgs s__law_starts) (defBody s__law_starts) (defScope s__law_starts) .none kV27 dc27 pm27 an27 cd27 ct27), sl27⟩) (c27 : PySem.W.codeIn K cd27 "_law_starts" = true) (k27 : PySem.W.keepIn K (.ref f27) = true)
    (a28 : PySem.W.nsIn K mainGlobals "_law_partings_least" = some (some (.ref f28))) (l28 : K.lookup f28 = some ⟨oc28, od28, .func (PySem.W.fnOf "_law_partings_least" "_law_partings_least" (defArgs s__law_partings_least) (defBody s__law_partings_least) (defScope s__law_partings_least) .none kV28 dc28 pm28 an28 cd28 ct28), sl28⟩) (c28 : PySem.W.codeIn K cd28 "_law_partings_least" = true) (k28 : PySem.W.keepIn K (.ref f28) = true)
    (a29 : PySem.W.nsIn K mainGlobals "_law_lower" = some (some (.ref f29))) (l29 : K.lookup f29 = some ⟨oc29, od29, .func (PySem.W.fnOf "_law_lower" "_law_lower" (defArgs s__law_lower) (defBody s__law_lower) (defScope s__law_lower) .none kV29 dc29 pm29 an29 cd29 ct29), sl29⟩) (c29 : PySem.W.codeIn K cd29 "_law_lower" = true) (k29 : PySem.W.keepIn K (.ref f29) = true)
    (a30 : PySem.W.nsIn K mainGlobals "_law_table" = some (some (.ref f30))) (l30 : K.lookup f30 = some ⟨oc30, od30, .func (PySem.W.fnOf "_law_table" "_law_table" (defArgs s__law_table) (defBody s__law_table) (defScope s__law_table) .none kV30 dc30 pm30 an30 cd30 ct30), sl30⟩) (c30 : PySem.W.codeIn K cd30 "_law_table" = true) (k30 : PySem.W.keepIn K (.ref f30) = true)
    (a31 : PySem.W.nsIn K mainGlobals "law" = some (some (.ref f31))) (l31 : K.lookup f31 = some ⟨oc31, od31, .func (PySem.W.fnOf "law" "law" (defArgs s_law) (defBody s_law) (defScope s_law) .none kV31 dc31 pm31 an31 cd31 ct31), sl31⟩) (c31 : PySem.W.codeIn K cd31 "law" = true) (k31 : PySem.W.keepIn K (.ref f31) = true)
    {tk_GRAIN : Tok} (y_GRAIN : PySem.W.nsIn K mainGlobals "GRAIN" = some (some (.int 2 tk_GRAIN)))
    {tk_MOST_ENDS : Tok} (y_MOST_ENDS : PySem.W.nsIn K mainGlobals "MOST_ENDS" = some (some (.int 7 tk_MOST_ENDS)))
    (z_list : PySem.W.nsIn K mainGlobals "list" = some none)
    (z_range : PySem.W.nsIn K mainGlobals "range" = some none)
    (z_len : PySem.W.nsIn K mainGlobals "len" = some none)
    (z_sorted : PySem.W.nsIn K mainGlobals "sorted" = some none)
    (z_abs : PySem.W.nsIn K mainGlobals "abs" = some none)
    (z_sum : PySem.W.nsIn K mainGlobals "sum" = some none)
    (z_max : PySem.W.nsIn K mainGlobals "max" = some none)
    (z_bool : PySem.W.nsIn K mainGlobals "bool" = some none)
    (z_isinstance : PySem.W.nsIn K mainGlobals "isinstance" = some none)
    (z_int : PySem.W.nsIn K mainGlobals "int" = some none)
    (z_tuple : PySem.W.nsIn K mainGlobals "tuple" = some none)
    (z_all : PySem.W.nsIn K mainGlobals "all" = some none)
    (z_zip : PySem.W.nsIn K mainGlobals "zip" = some none)
    (z_min : PySem.W.nsIn K mainGlobals "min" = some none)
    (z_any : PySem.W.nsIn K mainGlobals "any" = some none)
    : ∃ (fd : FuncData) (cs : List (Addr × Addr)), (∀ p ∈ cs, ∃ x ∈ [("are_wholes" : Str), ("table_shown" : Str), ("has_form" : Str)], PySem.W.tabIn K x = some p) ∧ (∀ p ∈ cs, K.lookup p.2 = none) ∧ (∀ (s : Shared) (v : Value), BindsTo s fd ⟨[v], []⟩ [("_law_script", v)]) ∧ ∀ base : Heap, K.In base → base.Ns mainGlobals mg → (∀ p ∈ cs, GxR.TabB base mg p.1 p.2) → FnOk l.prog w K mg base CX0 11 fa fd ["_law_script"] (Pu.sp_lawT K (cs.map (·.2))) := by
  letI : Tbs := ⟨[p7, p8, p9], w⟩
  have e := hfa.symm.trans (PySem.W.mg_of X G a31)
  cases e
  have F0 := fun_mk (st := s_choices) l0 c0 k0
  have F1 := fun_mk (st := s_partings) l1 c1 k1
  have F2 := fun_mk (st := s_steps) l2 c2 k2
  have F3 := fun_mk (st := s_wanted) l3 c3 k3
  have F4 := fun_mk (st := s_started) l4 c4 k4
  have F5 := fun_mk (st := s_height_of) l5 c5 k5
  have F6 := fun_mk (st := s_is_whole) l6 c6 k6
  have F7 := fun_mk (st := s_are_wholes) l7 c7 k7
  have F8 := fun_mk (st := s_table_shown) l8 c8 k8
  have F9 := fun_mk (st := s_has_form) l9 c9 k9
  have F10 := fun_mk (st := s_is_row) l10 c10 k10
  have F11 := fun_mk (st := s_numbers_of) l11 c11 k11
  have F12 := fun_mk (st := s_most_of) l12 c12 k12
  have F13 := fun_mk (st := s_joining_of) l13 c13 k13
  have F14 := fun_mk (st := s_tie) l14 c14 k14
  have F15 := fun_mk (st := s_best_joining) l15 c15 k15
  have F16 := fun_mk (st := s__law_deck) l16 c16 k16
  have F17 := fun_mk (st := s__law_take) l17 c17 k17
  have F18 := fun_mk (st := s__law_place) l18 c18 k18
  have F19 := fun_mk (st := s__law_ends) l19 c19 k19
  have F20 := fun_mk (st := s__law_joining) l20 c20 k20
  have F21 := fun_mk (st := s__law_size) l21 c21 k21
  have F22 := fun_mk (st := s__law_want) l22 c22 k22
  have F23 := fun_mk (st := s__law_height) l23 c23 k23
  have F24 := fun_mk (st := s__law_members) l24 c24 k24
  have F25 := fun_mk (st := s__law_whole) l25 c25 k25
  have F26 := fun_mk (st := s__law_even) l26 c26 k26
  have F27 := fun_mk (st := s__law_starts) l27 c27 k27
  have F28 := fun_mk (st := s__law_partings_least) l28 c28 k28
  have F29 := fun_mk (st := s__law_lower) l29 c29 k29
  have F30 := fun_mk (st := s__law_table) l30 c30 k30
  have F31 := fun_mk (st := s_law) l31 c31 k31
  have b0 := F0.binds (ps := ["many"]) fun _ _ _ _ _ _ us hl => match us, hl with | [_], _ => rfl
  have b1 := F1.binds (ps := ["some"]) fun _ _ _ _ _ _ us hl => match us, hl with | [_], _ => rfl
  have b2 := F2.binds (ps := ["one", "other"]) fun _ _ _ _ _ _ us hl => match us, hl with | [_, _], _ => rfl
  have b3 := F3.binds (ps := ["ends", "one", "other"]) fun _ _ _ _ _ _ us hl => match us, hl with | [_, _, _], _ => rfl
  have b4 := F4.binds (ps := ["ends"]) fun _ _ _ _ _ _ us hl => match us, hl with | [_], _ => rfl
  have b5 := F5.binds (ps := ["ends", "some"]) fun _ _ _ _ _ _ us hl => match us, hl with | [_, _], _ => rfl
  have b6 := F6.binds (ps := ["thing"]) fun _ _ _ _ _ _ us hl => match us, hl with | [_], _ => rfl
  have b7 := F7.binds (ps := ["thing", "many"]) fun _ _ _ _ _ _ us hl => match us, hl with | [_, _], _ => rfl
  have b8 := F8.binds (ps := ["ends", "thing"]) fun _ _ _ _ _ _ us hl => match us, hl with | [_, _], _ => rfl
  have b9 := F9.binds (ps := ["many", "thing"]) fun _ _ _ _ _ _ us hl => match us, hl with | [_, _], _ => rfl
  have b10 := F10.binds (ps := ["some", "thing"]) fun _ _ _ _ _ _ us hl => match us, hl with | [_, _], _ => rfl
  have b11 := F11.binds (ps := ["many", "table"]) fun _ _ _ _ _ _ us hl => match us, hl with | [_, _], _ => rfl
  have b12 := F12.binds (ps := ["ends", "numbers", "some"]) fun _ _ _ _ _ _ us hl => match us, hl with | [_, _, _], _ => rfl
  have b13 := F13.binds (ps := ["many", "nest"]) fun _ _ _ _ _ _ us hl => match us, hl with | [_, _], _ => rfl
  have b14 := F14.binds (ps := ["many", "nest", "rows"]) fun _ _ _ _ _ _ us hl => match us, hl with | [_, _, _], _ => rfl
  have b15 := F15.binds (ps := ["ends"]) fun _ _ _ _ _ _ us hl => match us, hl with | [_], _ => rfl
  have b16 := F16.binds (ps := ["_law_script"]) fun _ _ _ _ _ _ us hl => match us, hl with | [_], _ => rfl
  have b17 := F17.binds (ps := ["_law_deck_here", "_law_most"]) fun _ _ _ _ _ _ us hl => match us, hl with | [_, _], _ => rfl
  have b18 := F18.binds (ps := ["_law_deck_here", "_law_way"]) fun _ _ _ _ _ _ us hl => match us, hl with | [_, _], _ => rfl
  have b19 := F19.binds (ps := ["_law_deck_here", "_law_many"]) fun _ _ _ _ _ _ us hl => match us, hl with | [_, _], _ => rfl
  have b20 := F20.binds (ps := ["_law_deck_here", "_law_many"]) fun _ _ _ _ _ _ us hl => match us, hl with | [_, _], _ => rfl
  have b21 := F21.binds (ps := ["_law_deck_here", "_law_few", "_law_most"]) fun _ _ _ _ _ _ us hl => match us, hl with | [_, _, _], _ => rfl
  have b22 := F22.binds (ps := ["_law_ends_here", "_law_one", "_law_other"]) fun _ _ _ _ _ _ us hl => match us, hl with | [_, _, _], _ => rfl
  have b23 := F23.binds (ps := ["_law_ends_here", "_law_some"]) fun _ _ _ _ _ _ us hl => match us, hl with | [_, _], _ => rfl
  have b24 := F24.binds (ps := ["_law_mask", "_law_many"]) fun _ _ _ _ _ _ us hl => match us, hl with | [_, _], _ => rfl
  have b25 := F25.binds (ps := ["_law_thing"]) fun _ _ _ _ _ _ us hl => match us, hl with | [_], _ => rfl
  have b26 := F26.binds (ps := ["_law_ends_here", "_law_joining_here"]) fun _ _ _ _ _ _ us hl => match us, hl with | [_, _], _ => rfl
  have b27 := F27.binds (ps := ["_law_ends_here"]) fun _ _ _ _ _ _ us hl => match us, hl with | [_], _ => rfl
  have b28 := F28.binds (ps := ["_law_numbers", "_law_mask"]) fun _ _ _ _ _ _ us hl => match us, hl with | [_, _], _ => rfl
  have b29 := F29.binds (ps := ["_law_deck_here", "_law_ends_here", "_law_slack"]) fun _ _ _ _ _ _ us hl => match us, hl with | [_, _, _], _ => rfl
  have b30 := F30.binds (ps := ["_law_numbers", "_law_many"]) fun _ _ _ _ _ _ us hl => match us, hl with | [_, _], _ => rfl
  have b31 := F31.binds (ps := ["_law_script"]) fun _ _ _ _ _ _ us hl => match us, hl with | [_], _ => rfl
  refine ⟨PySem.W.fnOf "law" "law" (defArgs s_law) (defBody s_law) (defScope s_law) .none kV31 dc31 pm31 an31 cd31 ct31, [(q7, p7), (q8, p8), (q9, p9)], fun p hp => ?_, fun p hp => ?_, fun s v => .of_eq rfl, fun base _ _ TB => ?_⟩
  · simp only [List.mem_cons, List.not_mem_nil, or_false] at hp
    rcases hp with rfl | rfl | rfl
    · exact ⟨"are_wholes", by simp, Pu.tabIn_mk a7 l7 rfl u7 w7⟩
    · exact ⟨"table_shown", by simp, Pu.tabIn_mk a8 l8 rfl u8 w8⟩
    · exact ⟨"has_form", by simp, Pu.tabIn_mk a9 l9 rfl u9 w9⟩
  · simp only [List.mem_cons, List.not_mem_nil, or_false] at hp
    rcases hp with rfl | rfl | rfl
    · exact v7
    · exact v8
    · exact v9
  let T : Tx K mg base := ⟨_, _, F0, b0, PySem.W.mg_of X G a0, _, _, F1, b1, PySem.W.mg_of X G a1, _, _, F2, b2, PySem.W.mg_of X G a2, _, _, F3, b3, PySem.W.mg_of X G a3, _, _, F4, b4, PySem.W.mg_of X G a4, _, _, F5, b5, PySem.W.mg_of X G a5, _, _, F6, b6, PySem.W.mg_of X G a6, _, _, F7, b7, PySem.W.mg_of X G a7, q7, p7, rfl, TB (q7, p7) (by simp), show p7 ∈ [p7, p8, p9] by simp, _, _, F8, b8, PySem.W.mg_of X G a8, q8, p8, rfl, TB (q8, p8) (by simp), show p8 ∈ [p7, p8, p9] by simp, _, _, F9, b9, PySem.W.mg_of X G a9, q9, p9, rfl, TB (q9, p9) (by simp), show p9 ∈ [p7, p8, p9] by simp, _, _, F10, b10, PySem.W.mg_of X G a10, _, _, F11, b11, PySem.W.mg_of X G a11, _, _, F12, b12, PySem.W.mg_of X G a12, _, _, F13, b13, PySem.W.mg_of X G a13, _, _, F14, b14, PySem.W.mg_of X G a14, _, _, F15, b15, PySem.W.mg_of X G a15, _, _, F16, b16, PySem.W.mg_of X G a16, _, _, F17, b17, PySem.W.mg_of X G a17, _, _, F18, b18, PySem.W.mg_of X G a18, _, _, F19, b19, PySem.W.mg_of X G a19, _, _, F20, b20, PySem.W.mg_of X G a20, _, _, F21, b21, PySem.W.mg_of X G a21, _, _, F22, b22, PySem.W.mg_of X G a22, _, _, F23, b23, PySem.W.mg_of X G a23, _, _, F24, b24, PySem.W.mg_of X G a24, _, _, F25, b25, PySem.W.mg_of X G a25, _, _, F26, b26, PySem.W.mg_of X G a26, _, _, F27, b27, PySem.W.mg_of X G a27, _, _, F28, b28, PySem.W.mg_of X G a28, _, _, F29, b29, PySem.W.mg_of X G a29, _, _, F30, b30, PySem.W.mg_of X G a30, _, _, F31, b31, PySem.W.mg_of X G a31, _, PySem.W.mg_of X G y_GRAIN, _, PySem.W.mg_of X G y_MOST_ENDS, PySem.W.mg_none_of X G z_list, PySem.W.mg_none_of X G z_range, PySem.W.mg_none_of X G z_len, PySem.W.mg_none_of X G z_sorted, PySem.W.mg_none_of X G z_abs, PySem.W.mg_none_of X G z_sum, PySem.W.mg_none_of X G z_max, PySem.W.mg_none_of X G z_bool, PySem.W.mg_none_of X G z_isinstance, PySem.W.mg_none_of X G z_int, PySem.W.mg_none_of X G z_tuple, PySem.W.mg_none_of X G z_all, PySem.W.mg_none_of X G z_zip, PySem.W.mg_none_of X G z_min, PySem.W.mg_none_of X G z_any⟩
  exact ok_law T
end Ew
open PySem PySem.W PyProof.Rows
set_option maxRecDepth 100000 in
set_option maxHeartbeats 0 in
theorem PySem.Challenge.cw_evenwires_k66_whole_tables_of_any_hand_holds : PySem.Challenge.rw_evenwires_k66_whole_tables_of_any_hand.Holds := by
  w_on; o_law; k_head; (case hw => w_witness2)
  k_fill
  refine Pu.walkT (l := PySem.Challenge.rw_evenwires_k66_whole_tables_of_any_hand) (k := 11) rfl rfl ⟨rfl, by decide, by decide⟩ (fun w h Y => PySem.W.kIn_of Y) ["are_wholes", "table_shown", "has_form"] (by first | rfl | decide +kernel) ?F
  case F =>
    intro w mg fa h KX G hmg
    refine' Ew.all_mk KX G hmg ?a0 ?l0 ?c0 ?k0 ?a1 ?l1 ?c1 ?k1 ?a2 ?l2 ?c2 ?k2 ?a3 ?l3 ?c3 ?k3 ?a4 ?l4 ?c4 ?k4 ?a5 ?l5 ?c5 ?k5 ?a6 ?l6 ?c6 ?k6 ?a7 ?l7 ?c7 ?k7 ?u7 ?w7 ?v7 ?a8 ?l8 ?c8 ?k8 ?u8 ?w8 ?v8 ?a9 ?l9 ?c9 ?k9 ?u9 ?w9 ?v9 ?a10 ?l10 ?c10 ?k10 ?a11 ?l11 ?c11 ?k11 ?a12 ?l12 ?c12 ?k12 ?a13 ?l13 ?c13 ?k13 ?a14 ?l14 ?c14 ?k14 ?a15 ?l15 ?c15 ?k15 ?a16 ?l16 ?c16 ?k16 ?a17 ?l17 ?c17 ?k17 ?a18 ?l18 ?c18 ?k18 ?a19 ?l19 ?c19 ?k19 ?a20 ?l20 ?c20 ?k20 ?a21 ?l21 ?c21 ?k21 ?a22 ?l22 ?c22 ?k22 ?a23 ?l23 ?c23 ?k23 ?a24 ?l24 ?c24 ?k24 ?a25 ?l25 ?c25 ?k25 ?a26 ?l26 ?c26 ?k26 ?a27 ?l27 ?c27 ?k27 ?a28 ?l28 ?c28 ?k28 ?a29 ?l29 ?c29 ?k29 ?a30 ?l30 ?c30 ?k30 ?a31 ?l31 ?c31 ?k31 ?y_GRAIN ?y_MOST_ENDS ?z_list ?z_range ?z_len ?z_sorted ?z_abs ?z_sum ?z_max ?z_bool ?z_isinstance ?z_int ?z_tuple ?z_all ?z_zip ?z_min ?z_any
    (case a0 => k_is)
    (case l0 => k_is)
    (case c0 => k_is)
    (case k0 => k_is)
    (case a1 => k_is)
    (case l1 => k_is)
    (case c1 => k_is)
    (case k1 => k_is)
    (case a2 => k_is)
    (case l2 => k_is)
    (case c2 => k_is)
    (case k2 => k_is)
    (case a3 => k_is)
    (case l3 => k_is)
    (case c3 => k_is)
    (case k3 => k_is)
    (case a4 => k_is)
    (case l4 => k_is)
    (case c4 => k_is)
    (case k4 => k_is)
    (case a5 => k_is)
    (case l5 => k_is)
    (case c5 => k_is)
    (case k5 => k_is)
    (case a6 => k_is)
    (case l6 => k_is)
    (case c6 => k_is)
    (case k6 => k_is)
    (case a7 => k_is)
    (case l7 => k_is)
    (case c7 => k_is)
    (case k7 => k_is)
    (case u7 => k_is)
    (case w7 => exact rfl)
    (case v7 => exact rfl)
    (case a8 => k_is)
    (case l8 => k_is)
    (case c8 => k_is)
    (case k8 => k_is)
    (case u8 => k_is)
    (case w8 => exact rfl)
    (case v8 => exact rfl)
    (case a9 => k_is)
    (case l9 => k_is)
    (case c9 => k_is)
    (case k9 => k_is)
    (case u9 => k_is)
    (case w9 => exact rfl)
    (case v9 => exact rfl)
    (case a10 => k_is)
    (case l10 => k_is)
    (case c10 => k_is)
    (case k10 => k_is)
    (case a11 => k_is)
    (case l11 => k_is)
    (case c11 => k_is)
    (case k11 => k_is)
    (case a12 => k_is)
    (case l12 => k_is)
    (case c12 => k_is)
    (case k12 => k_is)
    (case a13 => k_is)
    (case l13 => k_is)
    (case c13 => k_is)
    (case k13 => k_is)
    (case a14 => k_is)
    (case l14 => k_is)
    (case c14 => k_is)
    (case k14 => k_is)
    (case a15 => k_is)
    (case l15 => k_is)
    (case c15 => k_is)
    (case k15 => k_is)
    (case a16 => k_is)
    (case l16 => k_is)
    (case c16 => k_is)
    (case k16 => k_is)
    (case a17 => k_is)
    (case l17 => k_is)
    (case c17 => k_is)
    (case k17 => k_is)
    (case a18 => k_is)
    (case l18 => k_is)
    (case c18 => k_is)
    (case k18 => k_is)
    (case a19 => k_is)
    (case l19 => k_is)
    (case c19 => k_is)
    (case k19 => k_is)
    (case a20 => k_is)
    (case l20 => k_is)
    (case c20 => k_is)
    (case k20 => k_is)
    (case a21 => k_is)
    (case l21 => k_is)
    (case c21 => k_is)
    (case k21 => k_is)
    (case a22 => k_is)
    (case l22 => k_is)
    (case c22 => k_is)
    (case k22 => k_is)
    (case a23 => k_is)
    (case l23 => k_is)
    (case c23 => k_is)
    (case k23 => k_is)
    (case a24 => k_is)
    (case l24 => k_is)
    (case c24 => k_is)
    (case k24 => k_is)
    (case a25 => k_is)
    (case l25 => k_is)
    (case c25 => k_is)
    (case k25 => k_is)
    (case a26 => k_is)
    (case l26 => k_is)
    (case c26 => k_is)
    (case k26 => k_is)
    (case a27 => k_is)
    (case l27 => k_is)
    (case c27 => k_is)
    (case k27 => k_is)
    (case a28 => k_is)
    (case l28 => k_is)
    (case c28 => k_is)
    (case k28 => k_is)
    (case a29 => k_is)
    (case l29 => k_is)
    (case c29 => k_is)
    (case k29 => k_is)
    (case a30 => k_is)
    (case l30 => k_is)
    (case c30 => k_is)
    (case k30 => k_is)
    (case a31 => k_is)
    (case l31 => k_is)
    (case c31 => k_is)
    (case k31 => k_is)
    (case y_GRAIN => k_is)
    (case y_MOST_ENDS => k_is)
    (case z_list => k_is)
    (case z_range => k_is)
    (case z_len => k_is)
    (case z_sorted => k_is)
    (case z_abs => k_is)
    (case z_sum => k_is)
    (case z_max => k_is)
    (case z_bool => k_is)
    (case z_isinstance => k_is)
    (case z_int => k_is)
    (case z_tuple => k_is)
    (case z_all => k_is)
    (case z_zip => k_is)
    (case z_min => k_is)
    (case z_any => k_is)

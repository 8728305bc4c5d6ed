import PyProof.Rows.All
import Wide.All
import OpenK.AllK
import Wide.FinOn
import HandS.ForMost
import HandS.IsInst
import HandS.Style
import HandS.Wide
import HandS.NoneIn
import HandS.Codes
import HandS.TupAny
import HandS.TupLe
import HandS.Conv
import HandS.Deep
import HandS.AnyAll
import HandS.Strs
import HandS.Iter
import HandS.SortKw
import KE.GoesEnumKw
import KE.GoesNew
import KE.GoesMore
import HandS.RevRange
import HandS.SortInts
import HandS.Zip
import KE.GoesEnum
import HandS.More
import KE.DataMinMax
import KE.KTupSum
import HandS.TupMul
import HandS.SetFor
import HandS.Defaults
import PyProof.ReprRoads
import PyProof.ReprLen
import HandS.GenList
import HandS.EndTab
import KE.KSortTupG
import HandS.Exc
import HandS.ExcOwn
import HandS.ExcIs
import HandS.WordsExc
import HandS.TryOnly
import HandS.ExcInit
import HandS.ExcField
import HandS.FStr
import KE.KExcSuper
import HandS.CallSlots
import HandS.DictComp
import HandS.DictTup
import HandS.Text
import HandS.Lambda
import KE.DataMinKey
import PySem.Challenge.RW_evenwires_k85_whole_even_wires_otherwise
set_option Elab.async false
set_option linter.all false
set_option maxRecDepth 100000
namespace Ew
open PySem PySem.Spec PyProof.Rows L2
/-- what may have happened between two heaps: only what stands in S is changed; tuples and locked things stay -/
structure Evo (S : List Addr) (H H' : Hp) : Prop where
  old : ∀ a o, H a = some o → a ∉ S → H' a = some o
  tup : ∀ a xs, H a = some (.tup xs) → H' a = some (.tup xs)
  frz : ∀ a o u, H a = some (.frz o u) → H' a = some (.frz o u)
section
variable {K : PySem.W.Frag} {S S' : List Addr} {H H1 H2 H' : Hp} {a p q : Addr} {o x y : HO} {xs ys : List V}
theorem get_new (hp : H p = none) (h : H a = some x) : upd H p o a = some x := by rw [upd_ne (ne_of_none h hp)]; exact h
theorem get_ne (hn : a ≠ p) (h : H a = some x) : upd H p o a = some x := by rw [upd_ne hn]; exact h
theorem Evo.refl (S : List Addr) (H : Hp) : Evo S H H := ⟨fun _ _ h _ => h, fun _ _ h => h, fun _ _ _ h => h⟩
theorem Evo.trans (e : Evo S H H1) (f : Evo S H1 H2) : Evo S H H2 := ⟨fun a o h n => f.old a o (e.old a o h n) n, fun a xs h => f.tup a xs (e.tup a xs h), fun a o u h => f.frz a o u (e.frz a o u h)⟩
/-- a new thing -/
theorem Evo.new (e : Evo S H H1) (hp : H1 p = none) : Evo S H (upd H1 p o) :=
  ⟨fun a u h n => get_new hp (e.old a u h n), fun a ys h => get_new hp (e.tup a ys h), fun a u v h => get_new hp (e.frz a u v h)⟩
/-- a thing that was not there at the beginning is changed -/
theorem Evo.mut (e : Evo S H H1) (hp : H p = none) : Evo S H (upd H1 p o) :=
  ⟨fun a u h n => get_ne (ne_of_none h hp) (e.old a u h n), fun a ys h => get_ne (ne_of_none h hp) (e.tup a ys h), fun a u v h => get_ne (ne_of_none h hp) (e.frz a u v h)⟩
/-- a thing of S is changed -/
theorem Evo.set (e : Evo S H H1) (hp : p ∈ S) (hm : ∀ ys, H p ≠ some (.tup ys)) (hf : ∀ u v, H p ≠ some (.frz u v)) : Evo S H (upd H1 p o) :=
  ⟨fun a u h n => get_ne (fun z => n (z ▸ hp)) (e.old a u h n), fun a ys h => get_ne (fun z => hm ys (z ▸ h)) (e.tup a ys h), fun a u v h => get_ne (fun z => hf u v (z ▸ h)) (e.frz a u v h)⟩
/-- a callee's changes -/
theorem Evo.call (e : Evo S H H1) (f : Evo S' H1 H2) (h : ∀ s ∈ S', s ∈ S ∨ H s = none) : Evo S H H2 :=
  ⟨fun a o ha n => f.old a o (e.old a o ha n) fun m => (h a m).elim n (fun z => nomatch (ha.symm.trans z)), fun a xs h => f.tup a xs (e.tup a xs h), fun a o u h => f.frz a o u (e.frz a o u h)⟩
theorem Evo.get (e : Evo S H H') (hn : a ∉ S) (h : H a = some x) : H' a = some x := e.old a x h hn
theorem Evo.fresh (e : Evo [] H H') (h : H' p = none) : H p = none := by
  cases q : H p with
  | none => rfl
  | some o =>
    rw [e.old p o q (by intro z; cases z)] at h
    cases h
end
theorem sz {n : Nat} (h : n ≤ 100000) : n ≤ sizeLine := Nat.le_trans h (by decide)
/-- a test by its answer -/
theorem iteD {c : Prop} [Decidable c] {A B : Prop} (h1 : c → A) (h2 : ¬ c → B) : if decide c = true then A else B := by
  by_cases h : c
  · rw [if_pos (decide_eq_true h)]; exact h1 h
  · rw [if_neg (by rw [decide_eq_false h]; exact Bool.false_ne_true)]; exact h2 h
theorem iteN {c : Prop} [Decidable c] {A B : Prop} (h1 : ¬ c → A) (h2 : c → B) : if (!decide c) = true then A else B := by
  by_cases h : c
  · rw [if_neg (by rw [decide_eq_true h]; exact Bool.false_ne_true)]; exact h2 h
  · rw [if_pos (by rw [decide_eq_false h]; rfl)]; exact h1 h
end Ew
namespace Ew
open PySem PySem.Spec PyProof.Rows L2
theorem tup_mut {H : Hp} {a p : Addr} {o : HO} {xs ys : List V} (hm : H p = some (.lst ys)) (h : H a = some (.tup xs)) : upd H p o a = some (.tup xs) := get_ne (ne_of h hm (by intro z; cases z)) h
/-- a written power -/
theorem op_powC {X : Cx} (b e r : Int) (hc : CPow b e := by exact ⟨by decide, by decide, by decide⟩) (hr : b ^ e.toNat = r := by rfl) : OpR X (binaryOp .Pow) (fun x y H Q => x = .int b ∧ y = .int e ∧ Q (.int r) H) :=
  fun pins s σ H x y v u Q I rx ry h => op_pow pins s σ H x y v u Q I rx ry ⟨b, e, h.1, h.2.1, hc, by show Q (.int (b ^ e.toNat)) H; rw [hr]; exact h.2.2⟩
end Ew
namespace Ew
open PySem PySem.Spec PyProof.Rows L2
/-! data that are rows of whole numbers -/
def intsOf : List V → Option (List Int)
  | [] => some []
  | .int i :: r => match intsOf r with
    | some z => some (i :: z)
    | none => none
  | _ => none
theorem intsOf_map : ∀ {vs : List V} {xs : List Int}, intsOf vs = some xs → vs = xs.map V.int
  | [], _, h => by cases h; rfl
  | .int i :: r, xs, h => by
    unfold intsOf at h
    cases e : intsOf r with
    | none => rw [e] at h; cases h
    | some z =>
      rw [e] at h
      cases h
      rw [intsOf_map e]
      rfl
  | .non :: _, _, h => by cases h
  | .bl _ :: _, _, h => by cases h
  | .str _ :: _, _, h => by cases h
  | .byt _ :: _, _, h => by cases h
  | .flt _ :: _, _, h => by cases h
  | .ref _ :: _, _, h => by cases h
  | .ty _ :: _, _, h => by cases h
theorem intsOf_of : ∀ xs : List Int, intsOf (xs.map V.int) = some xs
  | [] => rfl
  | x :: r => by
    show (match intsOf (r.map V.int) with | some z => some (x :: z) | none => none) = _
    rw [intsOf_of r]
theorem dpInts {K : PySem.W.Frag} {H : Hp} : ∀ xs : List Int, DpAll K H (xs.map V.int) (xs.map PyData.int)
  | [] => .nil
  | x :: r => .cons (.int x) (dpInts r)
theorem canInts : ∀ xs : List Int, PyData.canLayAll0 (xs.map PyData.int) = true
  | [] => by simp [PyData.canLayAll0]
  | x :: r => by
    show PyData.canLayAll0 (PyData.int x :: r.map PyData.int) = true
    simp [PyData.canLayAll0, PyData.canLay0, canInts r]
theorem depInts : ∀ xs : List Int, PyData.depthAll (xs.map PyData.int) ≤ 1
  | [] => by simp [PyData.depthAll]
  | x :: r => by
    show PyData.depthAll (PyData.int x :: r.map PyData.int) ≤ 1
    have h := depInts r
    simp [PyData.depthAll, PyData.depth]
    omega
theorem shIntsL (xs : List Int) : SeqAt.shaped (.list (xs.map PyData.int)) = true := by
  have h := depInts xs
  simp [SeqAt.shaped, PyData.canLay0, canInts xs, PyData.depth]
  omega
theorem eqvAllInts : ∀ xs ys : List Int, PyData.eqvAll (xs.map PyData.int) (ys.map PyData.int) = decide (xs = ys)
  | [], [] => by simp [PyData.eqvAll]
  | [], y :: _ => by simp [PyData.eqvAll]
  | x :: _, [] => by simp [PyData.eqvAll]
  | x :: r, y :: q => by
    show PyData.eqvAll (PyData.int x :: r.map PyData.int) (PyData.int y :: q.map PyData.int) = _
    have e : PyData.eqvAll (PyData.int x :: r.map PyData.int) (PyData.int y :: q.map PyData.int) = ((x == y) && PyData.eqvAll (r.map PyData.int) (q.map PyData.int)) := by simp [PyData.eqvAll, PyData.eqv]
    rw [e, eqvAllInts r q]
    by_cases h : x = y
    · by_cases h2 : r = q
      · simp [h, h2]
      · simp [h, h2]
    · simp [h]
theorem eqvL (xs ys : List Int) : PyData.eqv (.list (xs.map PyData.int)) (.list (ys.map PyData.int)) = decide (xs = ys) := by
  rw [← eqvAllInts]; simp [PyData.eqv]
section
variable {K : PySem.W.Frag} {H : Hp} {a b p : Addr} {vs us : List V} {xs ys : List Int} {R : V → Prop}
/-- == of data: its answer -/
def EqR (K : PySem.W.Frag) (H : Hp) (x y : V) (c : Bool) : Prop := ∃ d e, Dp K H x d ∧ Dp K H y e ∧ SeqAt.shaped d = true ∧ SeqAt.shaped e = true ∧ PyData.eqv d e = c
def rNeX (K : PySem.W.Frag) : R2 := fun x y H Q => ∃ c, EqR K H x y c ∧ Q (.bl (!c)) H
theorem op_neX {X : Cx} (hu : X.A.units + 64 < cLine) : OpR X (compareOp .NotEq) (rNeX X.K) := fun pins s σ H x y v u Q I rx ry ⟨c, ⟨d, e, h1, h2, h3, h4, h5⟩, q⟩ =>
  op_neD hu pins s σ H x y v u Q I rx ry ⟨d, e, h1, h2, h3, h4, h5 ▸ q⟩
theorem eqL (h1 : H a = some (.lst vs)) (h2 : H b = some (.lst us)) (e1 : intsOf vs = some xs) (e2 : intsOf us = some ys) : EqR K H (.ref a) (.ref b) (decide (xs = ys)) := by
  have q1 := intsOf_map e1; have q2 := intsOf_map e2; subst q1 q2
  exact ⟨_, _, .lst (SqL.of h1) (dpInts xs), .lst (SqL.of h2) (dpInts ys), shIntsL _, shIntsL _, eqvL _ _⟩
end
theorem cut63 {xs : List V} (h : xs.length ≤ 63) : cutV xs none (some 63) = xs := by
  unfold cutV
  rw [show HT.sIx xs.length xs.length (some 63) = min 63 xs.length from HT.sIx_nat xs.length xs.length 63, HT.sIx_none, List.drop_zero, Nat.sub_zero]
  exact List.take_of_length_le (by omega)
end Ew
namespace Ew
open PySem PySem.Spec PyProof.Rows L2
/-! == of whole numbers, of truths -/
theorem decV {i j : Int} : decide (V.int i = V.int j) = decide (i = j) := by
  by_cases h : i = j
  · subst h; simp
  · rw [decide_eq_false h, decide_eq_false fun e => h (V.int.inj e)]
section
variable {X : Cx}
theorem op_eqI : OpR X (compareOp .Eq) (fun x y H Q => ∃ i j, x = .int i ∧ y = .int j ∧ Q (.bl (decide (i = j))) H) := fun pins s σ H x y v u Q I rx ry ⟨i, j, h1, h2, q⟩ =>
  op_eq pins s σ H x y v u Q I rx ry ⟨by rw [h1, h2]; rfl, by rw [h1, h2, decV]; exact q⟩
end
end Ew
namespace Ew
abbrev ab (x : Int) : Int := if x < 0 then -x else x
end Ew
namespace Ew
open PySem PySem.Spec PyProof.Rows L2
/-! lists of rows of whole numbers -/
inductive RowsAt (H : Hp) : List V → List (List Int) → Prop
  | nil : RowsAt H [] []
  | cons {a : Addr} {vs : List V} {r : List Int} {rs : List (List Int)} : H a = some (.tup (r.map V.int)) → RowsAt H vs rs → RowsAt H (.ref a :: vs) (r :: rs)
theorem RowsAt.mono {H H' : Hp} (f : ∀ a xs, H a = some (.tup xs) → H' a = some (.tup xs)) : ∀ {vs : List V} {rs : List (List Int)}, RowsAt H vs rs → RowsAt H' vs rs
  | _, _, .nil => .nil
  | _, _, .cons h t => .cons (f _ _ h) (RowsAt.mono f t)
theorem RowsAt.evo {S : List Addr} {H H' : Hp} {vs : List V} {rs : List (List Int)} (e : Evo S H H') (h : RowsAt H vs rs) : RowsAt H' vs rs := h.mono e.tup
theorem RowsAt.new {H : Hp} {p : Addr} {o : HO} {vs : List V} {rs : List (List Int)} (h : RowsAt H vs rs) (hp : H p = none) : RowsAt (upd H p o) vs rs := h.mono fun _ _ q => get_new hp q
theorem RowsAt.mut {H : Hp} {p : Addr} {o : HO} {ys vs : List V} {rs : List (List Int)} (h : RowsAt H vs rs) (hp : H p = some (.lst ys)) : RowsAt (upd H p o) vs rs := h.mono fun _ _ q => tup_mut hp q
theorem RowsAt.length {H : Hp} : ∀ {vs : List V} {rs : List (List Int)}, RowsAt H vs rs → vs.length = rs.length
  | _, _, .nil => rfl
  | _, _, .cons _ t => congrArg Nat.succ (RowsAt.length t)
theorem RowsAt.snoc {H : Hp} {a : Addr} {r : List Int} (h : H a = some (.tup (r.map V.int))) : ∀ {vs : List V} {rs : List (List Int)}, RowsAt H vs rs → RowsAt H (vs ++ [.ref a]) (rs ++ [r])
  | _, _, .nil => .cons h .nil
  | _, _, .cons q t => .cons q (RowsAt.snoc h t)
theorem RowsAt.get {H : Hp} : ∀ {vs : List V} {rs : List (List Int)} {i : Nat} {r : List Int}, RowsAt H vs rs → rs[i]? = some r → ∃ a, vs[i]? = some (.ref a) ∧ H a = some (.tup (r.map V.int))
  | _, _, _, _, .nil, e => by cases e
  | _, _, 0, _, .cons q _, e => by cases e; exact ⟨_, rfl, q⟩
  | _, _, i + 1, _, .cons _ t, e => RowsAt.get (i := i) t e
theorem RowsAt.dp {K : PySem.W.Frag} {H : Hp} : ∀ {vs : List V} {rs : List (List Int)}, RowsAt H vs rs → DpAll K H vs (rs.map fun r => .tuple (r.map PyData.int))
  | _, _, .nil => .nil
  | _, _, .cons h t => .cons (.tup (SqT.of h) (dpInts _)) (RowsAt.dp t)
end Ew
namespace Ew
open PySem PySem.Spec PyProof.Rows L2
/-! slices, by what they come to -/
def rSlE (K : PySem.W.Frag) : V → Option Int → Option Int → Hp → VK → Prop := fun x lo hi H Q => ∃ a xs ys, x = .ref a ∧ SqL K H a xs ∧ cutV xs lo hi = ys ∧ ∀ p, H p = none → Q (.ref p) (upd H p (.lst ys))
theorem sl_listE {X : Cx} : SlR X (rSlE X.K) := fun pins s σ H x v vl vu lo hi sl Q I rx hs pl pu ⟨a, xs, ys, h1, h2, h3, h4⟩ =>
  sl_list pins s σ H x v vl vu lo hi sl Q I rx hs pl pu ⟨a, xs, h1, h2, fun p hp => h3 ▸ h4 p hp⟩
end Ew
/-- the tables of codes of the defs that hold generator expressions -/
class Tbs where
  tb : List PySem.Addr
  wd : PySem.World
  /-- the program -/
  pr : PySem.Program
  /-- the classes of exceptions, by numbers -/
  cv : Nat → PySem.Value
  /-- the tables of codes of the defs that hold lambdas, the lambda's full name -/
  tl : List (PySem.Addr × PySem.Str)
  tn : ∀ p ∈ tl, p.1 ∉ tb
  tu : ∀ p ∈ tl, ∀ r ∈ tl, p.1 = r.1 → p.2 = r.2
namespace Pu
open PySem PySem.Spec PyProof.Rows L2
variable [Tbs]
/-! Data without places: what a value shows. -/
inductive D where
  | non | bl (b : Bool) | int (i : Int) | str (s : Str) | ty (n : String)
  | tup (xs : List D) | lst (xs : List D) | dic (kvs : List (Key × D))
  | deck (n : Nat)
  | dpr (kvs : List (List Int × Int))
  | dfz (kvs : List (Int × Int))
  | st (ns : List Int)
  | bor (xs : List D)
  | opq (a : Addr)
  /-- an exception that is handled, at a, its dict at d, with two fields -/
  | xf (a d : Addr) (x y : Int)
  | dpd (kvs : List (List Int × D))
/-- the members of a set -/
def memB (ns : List Int) : Int → Bool := fun j => decide (j ∈ ns)
/-- a dict by pairs of whole numbers, its values whole numbers -/
def dtV (ds : List (List Int × Int)) : List (List Key × V) := ds.map fun q => (q.1.map Sum.inl, V.int q.2)
/-- a dict by whole numbers, its values whole numbers, that is changed no more -/
def dzV (ds : List (Int × Int)) : List (Key × V) := ds.map fun p => (Sum.inl p.1, V.int p.2)
/-! the decks of the laws: what a deck at dk with its cells at c is, by its kind -/
def dkA (c : Addr) (l s n : Int) : List (Key × V) := [(.inr "cells", .ref c), (.inr "left", .int l), (.inr "seed", .int s), (.inr "count", .int n)]
def dkB (c : Addr) (a r s : Int) : List (Key × V) := [(.inr "cells", .ref c), (.inr "at", .int a), (.inr "rest", .int r), (.inr "seed", .int s)]
def dkC (c : Addr) (g s t : Int) : List (Key × V) := [(.inr "cells", .ref c), (.inr "great", .int g), (.inr "seed", .int s), (.inr "turn", .int t)]
def dkE (c : Addr) (s : Int) : List (Key × V) := [(.inr "cells", .ref c), (.inr "seed", .int s)]
def DkF : Nat → Hp → Addr → Addr → Prop
  | 1, H, dk, c => ∃ (l s n : Int) (cs : List Int), H dk = some (.dK (dkA c l s n)) ∧ H c = some (.lst (cs.map V.int)) ∧ 0 ≤ s ∧ s < 4294967296
  | 2, H, dk, c => ∃ (a r s : Int) (cs : List Int), H dk = some (.dK (dkB c a r s)) ∧ H c = some (.lst (cs.map V.int)) ∧ 0 ≤ a ∧ 0 ≤ s ∧ s < 4294967296
  | 3, H, dk, c => ∃ (s n g : Int) (cs : List Int), H dk = some (.lst [.ref c, .int s, .int n, .int g]) ∧ H c = some (.lst (cs.map V.int)) ∧ True
  | 4, H, dk, c => ∃ (g s t : Int) (cs : List Int), H dk = some (.dK (dkC c g s t)) ∧ H c = some (.lst (cs.map V.int)) ∧ True
  | 5, H, dk, c => ∃ (s n _g : Int) (cs : List Int), H dk = some (.lst [.ref c, .int s, .int n]) ∧ H c = some (.lst (cs.map V.int)) ∧ 0 ≤ s ∧ s < 4294967296
  | 6, H, dk, c => ∃ (s n g : Int) (cs : List Int), H dk = some (.lst [.ref c, .int s, .int n, .int g]) ∧ H c = some (.lst (cs.map V.int)) ∧ True
  | 8, H, dk, c => ∃ (s n g : Int) (cs : List Int), H dk = some (.lst [.int g, .int s, .int n]) ∧ H c = some (.lst (cs.map V.int)) ∧ True
  | 7, H, dk, c => ∃ (s _n _g : Int) (cs : List Int), H dk = some (.dK (dkE c s)) ∧ H c = some (.lst (cs.map V.int)) ∧ 0 ≤ s ∧ s < 4294967296
  | _, _, _, _ => False
theorem DkF.keep {n : Nat} {H H' : Hp} {dk c : Addr} (h : DkF n H dk c) (h1 : ∀ o, H dk = some o → H' dk = some o) (h2 : ∀ o, H c = some o → H' c = some o) : DkF n H' dk c := by
  unfold DkF at h ⊢
  split at h
  · obtain ⟨l, s, n, cs, e1, e2, r⟩ := h; exact ⟨l, s, n, cs, h1 _ e1, h2 _ e2, r⟩
  · obtain ⟨l, s, n, cs, e1, e2, r⟩ := h; exact ⟨l, s, n, cs, h1 _ e1, h2 _ e2, r⟩
  · obtain ⟨l, s, n, cs, e1, e2, r⟩ := h; exact ⟨l, s, n, cs, h1 _ e1, h2 _ e2, r⟩
  · obtain ⟨l, s, n, cs, e1, e2, r⟩ := h; exact ⟨l, s, n, cs, h1 _ e1, h2 _ e2, r⟩
  · obtain ⟨l, s, n, cs, e1, e2, r⟩ := h; exact ⟨l, s, n, cs, h1 _ e1, h2 _ e2, r⟩
  · obtain ⟨l, s, n, cs, e1, e2, r⟩ := h; exact ⟨l, s, n, cs, h1 _ e1, h2 _ e2, r⟩
  · obtain ⟨l, s, n, cs, e1, e2, r⟩ := h; exact ⟨l, s, n, cs, h1 _ e1, h2 _ e2, r⟩
  · obtain ⟨l, s, n, cs, e1, e2, r⟩ := h; exact ⟨l, s, n, cs, h1 _ e1, h2 _ e2, r⟩
  · exact h.elim
theorem DkF.al {n : Nat} {H : Hp} {dk c : Addr} (h : DkF n H dk c) : H dk ≠ none ∧ H c ≠ none := by
  have nt : ∀ {u : HO}, some u ≠ none := fun q => by cases q
  unfold DkF at h
  split at h
  · obtain ⟨l, s, n, cs, e1, e2, r⟩ := h; rw [e1, e2]; exact ⟨nt, nt⟩
  · obtain ⟨l, s, n, cs, e1, e2, r⟩ := h; rw [e1, e2]; exact ⟨nt, nt⟩
  · obtain ⟨l, s, n, cs, e1, e2, r⟩ := h; rw [e1, e2]; exact ⟨nt, nt⟩
  · obtain ⟨l, s, n, cs, e1, e2, r⟩ := h; rw [e1, e2]; exact ⟨nt, nt⟩
  · obtain ⟨l, s, n, cs, e1, e2, r⟩ := h; rw [e1, e2]; exact ⟨nt, nt⟩
  · obtain ⟨l, s, n, cs, e1, e2, r⟩ := h; rw [e1, e2]; exact ⟨nt, nt⟩
  · obtain ⟨l, s, n, cs, e1, e2, r⟩ := h; rw [e1, e2]; exact ⟨nt, nt⟩
  · obtain ⟨l, s, n, cs, e1, e2, r⟩ := h; rw [e1, e2]; exact ⟨nt, nt⟩
  · exact h.elim
/-- the count of a deck that counts (kinds 6, 8) -/
def CtF : Nat → Hp → Addr → Addr → Nat → Prop
  | 6, H, dk, c, n => ∃ s g : Int, H dk = some (.lst [.ref c, .int s, .int (n : Int), .int g])
  | 8, H, dk, _, n => ∃ g s : Int, H dk = some (.lst [.int g, .int s, .int (n : Int)])
  | _, _, _, _, _ => True
theorem CtF.keep {k : Nat} {H H' : Hp} {dk c : Addr} {n : Nat} (h : CtF k H dk c n) (h1 : ∀ o, H dk = some o → H' dk = some o) : CtF k H' dk c n := by
  unfold CtF at h ⊢
  split at h
  · obtain ⟨s, g, q⟩ := h; exact ⟨s, g, h1 _ q⟩
  · obtain ⟨s, g, q⟩ := h; exact ⟨s, g, h1 _ q⟩
  · trivial
/-- the zone of places that calls may change: the law's deck (nt: its kind, 0: none) -/
structure Zn where
  dk : Addr
  c : Addr
  nt : Nat
  /-- a list that is borrowed -/
  bo : Option Addr := Option.none
  /-- how many draws there were, of a deck that counts (kind 6) -/
  ct : Nat := 0
def Zn.Z (z : Zn) : Addr → Prop := fun a => (z.nt ≠ 0 ∧ (a = z.dk ∨ a = z.c)) ∨ (a ∈ Tbs.tb ∨ a ∈ Tbs.tl.map (·.1))
/-- the thing at c is a code of the name q -/
def CodeF (H : Hp) (c : Addr) (q : Str) : Prop := ∃ (oc : Obj) (u : Heap → Prop) (vs : Array Value) (t : Tok), H c = some (.frz oc (.ext u)) ∧ oc.data = .fields vs ∧ vs[1]? = some (.str q t)
/-- the table at P: each code that it tells is of the name q -/
def TabF (H : Hp) (P : Addr) (q : Str) : Prop := ∃ ps : Array Value, H P = some (.tbl ps) ∧ TriplesOk ps.toList ∧ ∀ (pos : Pos) (cv : Value), codeAmong pos ps.toList = some cv → ∃ c, cv = .ref c ∧ CodeF H c q
/-- what may be written: nothing that is known to the object -/
def NoF (H : Hp) (p : Addr) : Prop := ∀ o u, H p ≠ some (.frz o (.ext u))
/-- the tables stand -/
structure Tabs (H : Hp) : Prop where
  g : ∀ P ∈ Tbs.tb, GxR.TabG H P
  l : ∀ p ∈ Tbs.tl, TabF H p.1 p.2
def Zn.ok (z : Zn) (H : Hp) (a : Addr) : Prop := a = z.dk ∧ z.nt ≠ 0 ∧ DkF z.nt H z.dk z.c ∧ CtF z.nt H z.dk z.c z.ct
theorem Zn.keep (z : Zn) : ∀ (H H' : Hp) (a : Addr), z.ok H a → (∀ b o, z.Z b → H b = some o → H' b = some o) → z.ok H' a := fun H H' a ⟨h1, h2, h3, h4⟩ k => ⟨h1, h2, h3.keep (fun o q => k _ o (.inl ⟨h2, .inl rfl⟩) q) (fun o q => k _ o (.inl ⟨h2, .inr rfl⟩) q), h4.keep fun o q => k _ o (.inl ⟨h2, .inl rfl⟩) q⟩
/-- no deck yet -/
def Zn.none : Zn := ⟨0, 0, 0, Option.none, 0⟩
mutual
/-- the value v shows d; no list or dict of it stands in M -/
inductive Is (z : Zn) (M : Addr → Prop) (H : Hp) : V → D → Prop
  | non : Is z M H .non .non
  | bl (b : Bool) : Is z M H (.bl b) (.bl b)
  | int (i : Int) : Is z M H (.int i) (.int i)
  | str (s : Str) : Is z M H (.str s) (.str s)
  | ty (n : String) : Is z M H (.ty n) (.ty n)
  | tup {a : Addr} {vs : List V} {ds : List D} : H a = some (.tup vs) → ¬ M a → IsA z M H vs ds → Is z M H (.ref a) (.tup ds)
  | lst {a : Addr} {vs : List V} {ds : List D} : H a = some (.lst vs) → ¬ M a → IsA z M H vs ds → Is z M H (.ref a) (.lst ds)
  | dic {a : Addr} {vs : List (Key × V)} {ds : List (Key × D)} : H a = some (.dK vs) → ¬ M a → IsK z M H vs ds → Is z M H (.ref a) (.dic ds)
  | deck {a : Addr} : z.ok H a → Is z M H (.ref a) (.deck z.nt)
  | dpr {a : Addr} {ds : List (List Int × Int)} : H a = some (.dT (dtV ds)) → ¬ M a → Is z M H (.ref a) (.dpr ds)
  | dfz {a : Addr} {o : Obj} {ds : List (Int × Int)} : H a = some (.frz o (.dK (dzV ds))) → ¬ M a → Is z M H (.ref a) (.dfz ds)
  | st {a : Addr} {ns : List Int} {n : Nat} : H a = some (SetO Tbs.wd a (memB ns) n) → n ≤ ns.length → ¬ M a → Is z M H (.ref a) (.st ns)
  | bor {a : Addr} {vs : List V} {ds : List D} : H a = some (.lst vs) → ¬ M a → IsA z M H vs ds → Is z M H (.ref a) (.bor ds)
  | opq (a : Addr) : Is z M H (.ref a) (.opq a)
  | xf (a : Addr) {d : Addr} {x y : Int} : H d = some (.xd [("other", .int y), ("one", .int x)]) → ¬ M d → Is z M H (.ref a) (.xf a d x y)
  | dpd {a : Addr} {vs : List (List Key × V)} {ds : List (List Int × D)} : H a = some (.dT vs) → ¬ M a → vs.map (·.1) = ds.map (fun p => p.1.map Sum.inl) → IsA z M H (vs.map (·.2)) (ds.map (·.2)) → Is z M H (.ref a) (.dpd ds)
inductive IsA (z : Zn) (M : Addr → Prop) (H : Hp) : List V → List D → Prop
  | nil : IsA z M H [] []
  | cons {v : V} {d : D} {vs : List V} {ds : List D} : Is z M H v d → IsA z M H vs ds → IsA z M H (v :: vs) (d :: ds)
inductive IsK (z : Zn) (M : Addr → Prop) (H : Hp) : List (Key × V) → List (Key × D) → Prop
  | nil : IsK z M H [] []
  | cons {k : Key} {v : V} {d : D} {vs : List (Key × V)} {ds : List (Key × D)} : Is z M H v d → IsK z M H vs ds → IsK z M H ((k, v) :: vs) ((k, d) :: ds)
end
section
variable {z : Zn} {M M' : Addr → Prop} {H H' : Hp}
mutual
theorem Is.gen (h1 : ∀ a o, H a = some o → ¬ M a → H' a = some o ∧ ¬ M' a) (h2 : ∀ a, z.ok H a → z.ok H' a) : ∀ {v : V} {d : D}, Is z M H v d → Is z M' H' v d
  | _, _, .non => .non
  | _, _, .bl b => .bl b
  | _, _, .int i => .int i
  | _, _, .str s => .str s
  | _, _, .ty n => .ty n
  | _, _, .tup e n r => .tup (h1 _ _ e n).1 (h1 _ _ e n).2 (IsA.gen h1 h2 r)
  | _, _, .lst e n r => .lst (h1 _ _ e n).1 (h1 _ _ e n).2 (IsA.gen h1 h2 r)
  | _, _, .dic e n r => .dic (h1 _ _ e n).1 (h1 _ _ e n).2 (IsK.gen h1 h2 r)
  | _, _, .deck e => .deck (h2 _ e)
  | _, _, .dpr e n => .dpr (h1 _ _ e n).1 (h1 _ _ e n).2
  | _, _, .dfz e n => .dfz (h1 _ _ e n).1 (h1 _ _ e n).2
  | _, _, .st e l n => .st (h1 _ _ e n).1 l (h1 _ _ e n).2
  | _, _, .bor e n r => .bor (h1 _ _ e n).1 (h1 _ _ e n).2 (IsA.gen h1 h2 r)
  | _, _, .opq v => .opq v
  | _, _, .xf v e n => .xf v (h1 _ _ e n).1 (h1 _ _ e n).2
  | _, _, .dpd e n q r => .dpd (h1 _ _ e n).1 (h1 _ _ e n).2 q (IsA.gen h1 h2 r)
theorem IsA.gen (h1 : ∀ a o, H a = some o → ¬ M a → H' a = some o ∧ ¬ M' a) (h2 : ∀ a, z.ok H a → z.ok H' a) : ∀ {v : List V} {d : List D}, IsA z M H v d → IsA z M' H' v d
  | _, _, .nil => .nil
  | _, _, .cons h t => .cons (Is.gen h1 h2 h) (IsA.gen h1 h2 t)
theorem IsK.gen (h1 : ∀ a o, H a = some o → ¬ M a → H' a = some o ∧ ¬ M' a) (h2 : ∀ a, z.ok H a → z.ok H' a) : ∀ {v : List (Key × V)} {d : List (Key × D)}, IsK z M H v d → IsK z M' H' v d
  | _, _, .nil => .nil
  | _, _, .cons h t => .cons (Is.gen h1 h2 h) (IsK.gen h1 h2 t)
end
theorem IsA.length : ∀ {vs : List V} {ds : List D}, IsA z M H vs ds → vs.length = ds.length
  | _, _, .nil => rfl
  | _, _, .cons _ t => congrArg Nat.succ (IsA.length t)
theorem IsA.append : ∀ {vs us : List V} {ds es : List D}, IsA z M H vs ds → IsA z M H us es → IsA z M H (vs ++ us) (ds ++ es)
  | _, _, _, _, .nil, h => h
  | _, _, _, _, .cons q t, h => .cons q (IsA.append t h)
theorem IsA.get : ∀ {vs : List V} {ds : List D} {i : Nat} {d : D}, IsA z M H vs ds → ds[i]? = some d → ∃ v, vs[i]? = some v ∧ Is z M H v d
  | _, _, _, _, .nil, e => by cases e
  | _, _, 0, _, .cons q _, e => by cases e; exact ⟨_, rfl, q⟩
  | _, _, i + 1, _, .cons _ t, e => IsA.get (i := i) t e
theorem IsA.take : ∀ {vs : List V} {ds : List D} (n : Nat), IsA z M H vs ds → IsA z M H (vs.take n) (ds.take n)
  | _, _, 0, _ => .nil
  | _, _, _ + 1, .nil => .nil
  | _, _, n + 1, .cons q t => .cons q (IsA.take n t)
theorem IsA.drop : ∀ {vs : List V} {ds : List D} (n : Nat), IsA z M H vs ds → IsA z M H (vs.drop n) (ds.drop n)
  | _, _, 0, h => h
  | _, _, _ + 1, .nil => .nil
  | _, _, n + 1, .cons _ t => IsA.drop n t
theorem IsA.set {v : V} {d : D} (h : Is z M H v d) : ∀ {vs : List V} {ds : List D} (n : Nat), IsA z M H vs ds → IsA z M H (vs.set n v) (ds.set n d)
  | _, _, _, .nil => .nil
  | _, _, 0, .cons _ t => .cons h t
  | _, _, n + 1, .cons q t => .cons q (IsA.set h n t)
theorem IsA.eraseIdx : ∀ {vs : List V} {ds : List D} (n : Nat), IsA z M H vs ds → IsA z M H (vs.eraseIdx n) (ds.eraseIdx n)
  | _, _, _, .nil => .nil
  | _, _, 0, .cons _ t => t
  | _, _, n + 1, .cons q t => .cons q (IsA.eraseIdx n t)
theorem IsA.reverse {vs : List V} {ds : List D} (h : IsA z M H vs ds) : IsA z M H vs.reverse ds.reverse := by
  induction h using IsA.rec (motive_1 := fun _ _ _ => True) (motive_3 := fun _ _ _ => True) with
  | nil => exact .nil
  | cons q t _ ih =>
    rw [List.reverse_cons, List.reverse_cons]
    exact ih.append (.cons q .nil)
  | _ => trivial
theorem IsA.dropLast : ∀ {vs : List V} {ds : List D}, IsA z M H vs ds → IsA z M H vs.dropLast ds.dropLast
  | _, _, .nil => .nil
  | _, _, .cons _ .nil => .nil
  | _, _, .cons q (.cons r t) => .cons q (IsA.dropLast (.cons r t))
theorem IsA.ints : ∀ {vs : List V} {ns : List Int}, IsA z M H vs (ns.map D.int) → vs = ns.map V.int
  | _, [], .nil => rfl
  | _, n :: ns, .cons q t => by cases q; rw [IsA.ints t]; rfl
theorem IsA.ofInts : ∀ (ns : List Int), IsA z M H (ns.map V.int) (ns.map D.int)
  | [] => .nil
  | n :: ns => .cons (.int n) (IsA.ofInts ns)
end
/-! what may happen to the heap -/
structure Evo (z : Zn) (H H' : Hp) : Prop where
  old : ∀ a o, H a = some o → ¬ z.Z a → H' a = some o
  al : ∀ a, H a ≠ none → H' a ≠ none
  dk : ∀ a, z.ok H a → z.ok H' a
  tab : Tabs H → Tabs H'
section
variable {z : Zn} {M M' : Addr → Prop} {H H1 H2 H' : Hp} {p : Addr} {o : HO} {v : V} {d : D}
theorem CodeF.keep {H H' : Hp} {c : Addr} {q : Str} (h : CodeF H c q) (k : ∀ o u, H c = some (.frz o (.ext u)) → H' c = some (.frz o (.ext u))) : CodeF H' c q := by
  obtain ⟨oc, u, vs, t, e, r⟩ := h
  exact ⟨oc, u, vs, t, k _ _ e, r⟩
theorem TabF.keep {H H' : Hp} {P : Addr} {q : Str} (h : TabF H P q) (k : ∀ ps, H P = some (.tbl ps) → H' P = some (.tbl ps)) (k2 : ∀ c o u, H c = some (.frz o (.ext u)) → H' c = some (.frz o (.ext u))) : TabF H' P q := by
  obtain ⟨ps, e, t, f⟩ := h
  refine ⟨ps, k _ e, t, fun pos cv hc => ?_⟩
  obtain ⟨c, e1, e2⟩ := f pos cv hc
  exact ⟨c, e1, e2.keep fun o u q => k2 _ _ _ q⟩
/-- the tables, and what is known, are kept -/
theorem Tabs.keep {H H' : Hp} (h : Tabs H) (k : ∀ P ps, H P = some (.tbl ps) → (P ∈ Tbs.tb ∨ P ∈ Tbs.tl.map (·.1)) → H' P = some (.tbl ps)) (k2 : ∀ c o u, H c = some (.frz o (.ext u)) → H' c = some (.frz o (.ext u))) : Tabs H' :=
  ⟨fun P hP => by
    obtain ⟨ps, e, t⟩ := h.g P hP
    exact ⟨ps, k _ _ e (.inl hP), t⟩, fun p hp => (h.l p hp).keep (fun ps e => k _ _ e (.inr (List.mem_map.mpr ⟨p, hp, rfl⟩))) k2⟩
theorem Tabs.tbl (h : Tabs H) {P : Addr} (hP : P ∈ Tbs.tb ∨ P ∈ Tbs.tl.map (·.1)) : ∃ ps, H P = some (.tbl ps) := by
  rcases hP with hP | hP
  · obtain ⟨ps, e, _⟩ := h.g P hP
    exact ⟨ps, e⟩
  · obtain ⟨p, hp, rfl⟩ := List.mem_map.mp hP
    obtain ⟨ps, e, _⟩ := h.l p hp
    exact ⟨ps, e⟩
theorem Tabs.at (h : Tabs H) {P : Addr} (hP : P ∈ Tbs.tb ∨ P ∈ Tbs.tl.map (·.1)) : H P ≠ none := by
  obtain ⟨ps, e⟩ := h.tbl hP
  rw [e]; intro q; cases q
theorem Tabs.new (h : Tabs H) (hp : H p = none) : Tabs (upd H p o) := h.keep (fun P ps e _ => by rw [upd_ne (ne_of_none e hp)]; exact e) fun c o u e => by rw [upd_ne (ne_of_none e hp)]; exact e
theorem NoF.ne {H : Hp} {p c : Addr} {o : Obj} {u : Heap → Prop} (n : NoF H p) (h : H c = some (.frz o (.ext u))) : c ≠ p := fun e => n o u (by rw [← e]; exact h)
theorem NoF.of {H : Hp} {p : Addr} {o : HO} (h : H p = some o) (n : ∀ a b, o ≠ .frz a (.ext b)) : NoF H p := fun a b e => n a b (Option.some.inj (h.symm.trans e))
theorem NoF.lst {H : Hp} {p : Addr} {vs : List V} (h : H p = some (.lst vs)) : NoF H p := .of h fun a b e => nomatch e
theorem NoF.non {H : Hp} {p : Addr} (h : H p = none) : NoF H p := fun a b e => by rw [h] at e; cases e
theorem Tabs.mut (h : Tabs H) (hp : ¬ z.Z p) (hf : NoF H p) : Tabs (upd H p o) := h.keep (fun P ps e m => by rw [upd_ne (fun w => hp (.inr (by rw [← w]; exact m)))]; exact e) fun c o u e => by rw [upd_ne (hf.ne e)]; exact e
theorem Evo.refl (z : Zn) (H : Hp) : Evo z H H := ⟨fun _ _ h _ => h, fun _ h => h, fun _ h => h, fun h => h⟩
theorem Evo.trans (a : Evo z H H1) (b : Evo z H1 H2) : Evo z H H2 := ⟨fun x o h n => b.old x o (a.old x o h n) n, fun x h => b.al x (a.al x h), fun x h => b.dk x (a.dk x h), fun h => b.tab (a.tab h)⟩
theorem Evo.fresh (a : Evo z H H1) (h : H1 p = none) : H p = none := by
  cases q : H p with
  | none => rfl
  | some o => exact absurd h (a.al p (by rw [q]; intro z; cases z))
theorem ok_new (hp : H p = none) {a : Addr} (h : z.ok H a) : z.ok (upd H p o) a :=
  z.keep _ _ _ h fun b u _ e => by rw [upd_ne (ne_of_none e hp)]; exact e
theorem ok_mut (hp : ¬ z.Z p) {a : Addr} (h : z.ok H a) : z.ok (upd H p o) a :=
  z.keep _ _ _ h fun b u zb e => by rw [upd_ne (fun q => hp (by rw [← q]; exact zb))]; exact e
theorem Evo.new (a : Evo z H H1) (hp : H1 p = none) : Evo z H (upd H1 p o) :=
  ⟨fun x u h n => by rw [upd_ne (ne_of_none (a.old x u h n) hp)]; exact a.old x u h n, fun x h => by
    by_cases e : x = p
    · rw [e, upd_same]; intro z; cases z
    · rw [upd_ne e]; exact a.al x h, fun x h => ok_new hp (a.dk x h), fun h => (a.tab h).new hp⟩
/-- a thing that was not there at first is changed -/
theorem Evo.mut (a : Evo z H H1) (hp : H p = none) (hz : ¬ z.Z p) (hf : NoF H1 p) : Evo z H (upd H1 p o) :=
  ⟨fun x u h n => by rw [upd_ne (ne_of_none h hp)]; exact a.old x u h n, fun x h => by
    by_cases e : x = p
    · rw [e, upd_same]; intro z; cases z
    · rw [upd_ne e]; exact a.al x h, fun x h => ok_mut hz (a.dk x h), fun h => (a.tab h).mut hz hf⟩
theorem Is.evo (hM : ∀ a, z.Z a → M a) (e : Evo z H H') (h : Is z M H v d) : Is z M H' v d := h.gen (fun a o q n => ⟨e.old a o q (fun x => n (hM a x)), n⟩) e.dk
theorem IsA.evo {vs : List V} {ds : List D} (hM : ∀ a, z.Z a → M a) (e : Evo z H H') (h : IsA z M H vs ds) : IsA z M H' vs ds := h.gen (fun a o q n => ⟨e.old a o q (fun x => n (hM a x)), n⟩) e.dk
theorem Is.weak (hM : ∀ a, M' a → M a) (h : Is z M H v d) : Is z M' H v d := h.gen (fun a o q n => ⟨q, fun x => n (hM a x)⟩) fun _ h => h
theorem IsA.weak {vs : List V} {ds : List D} (hM : ∀ a, M' a → M a) (h : IsA z M H vs ds) : IsA z M' H vs ds := h.gen (fun a o q n => ⟨q, fun x => n (hM a x)⟩) fun _ h => h
theorem Is.new (hp : H p = none) (h : Is z M H v d) : Is z M (upd H p o) v d := h.gen (fun a u q n => ⟨by rw [upd_ne (ne_of_none q hp)]; exact q, n⟩) fun _ h => ok_new hp h
theorem IsA.new {vs : List V} {ds : List D} (hp : H p = none) (h : IsA z M H vs ds) : IsA z M (upd H p o) vs ds := h.gen (fun a u q n => ⟨by rw [upd_ne (ne_of_none q hp)]; exact q, n⟩) fun _ h => ok_new hp h
end
theorem DkF.nof {n : Nat} {H : Hp} {dk c P : Addr} {o : HO} (h : DkF n H dk c) (e : H P = some o) (he : (∃ ps, o = .tbl ps) ∨ ∃ a b, o = .frz a b) : dk ≠ P ∧ c ≠ P := by
  unfold DkF at h
  split at h
  all_goals first
    | exact h.elim
    | (obtain ⟨l, s, n, cs, e1, e2, r⟩ := h
       refine ⟨fun w => ?_, fun w => ?_⟩
       · rw [w, e] at e1; rcases he with ⟨ps, rfl⟩ | ⟨a, b, rfl⟩ <;> cases e1
       · rw [w, e] at e2; rcases he with ⟨ps, rfl⟩ | ⟨a, b, rfl⟩ <;> cases e2)
theorem DkF.notbl {n : Nat} {H : Hp} {dk c P : Addr} {ps : Array Value} (h : DkF n H dk c) (e : H P = some (.tbl ps)) : dk ≠ P ∧ c ≠ P := h.nof e (.inl ⟨ps, rfl⟩)
/-- a draw leaves the tables -/
theorem tab_deck {n : Nat} {H H' : Hp} {dk c : Addr} (d : DkF n H dk c) (ev : ∀ b o, H b = some o → b ∉ [dk, c] → H' b = some o) (h : Tabs H) : Tabs H' :=
  h.keep (fun P ps e _ => by
    obtain ⟨n1, n2⟩ := d.notbl e
    exact ev P _ e (by simp only [List.mem_cons, List.not_mem_nil, or_false, not_or]; exact ⟨fun w => n1 w.symm, fun w => n2 w.symm⟩)) fun P o u e => by
    obtain ⟨n1, n2⟩ := d.nof e (.inr ⟨o, _, rfl⟩)
    exact ev P _ e (by simp only [List.mem_cons, List.not_mem_nil, or_false, not_or]; exact ⟨fun w => n1 w.symm, fun w => n2 w.symm⟩)
/-- what the thing at a holds -/
def Con (z : Zn) (M : Addr → Prop) (H : Hp) (a : Addr) : D → Prop
  | .tup ds => ∃ vs, H a = some (.tup vs) ∧ IsA z M H vs ds
  | .lst ds => ∃ vs, H a = some (.lst vs) ∧ IsA z M H vs ds
  | .dic ds => ∃ vs, H a = some (.dK vs) ∧ IsK z M H vs ds
  | .dpr ds => H a = some (.dT (dtV ds))
  | .dpd ds => ∃ vs, H a = some (.dT vs) ∧ vs.map (·.1) = ds.map (fun p => p.1.map Sum.inl) ∧ IsA z M H (vs.map (·.2)) (ds.map (·.2))
  | .st ns => ∃ n, H a = some (SetO Tbs.wd a (memB ns) n) ∧ n ≤ ns.length
  | .bor ds => z.bo = some a ∧ ∃ vs, H a = some (.lst vs) ∧ IsA z M H vs ds
  | _ => False
section
variable {z : Zn} {M M' : Addr → Prop} {H H' : Hp} {a : Addr} {d : D}
theorem Con.gen (ha : ∀ o, H a = some o → H' a = some o) (h1 : ∀ a o, H a = some o → ¬ M a → H' a = some o ∧ ¬ M' a) (h2 : ∀ a, z.ok H a → z.ok H' a) (h : Con z M H a d) : Con z M' H' a d := by
  cases d with
  | tup ds => obtain ⟨vs, e, r⟩ := h; exact ⟨vs, ha _ e, r.gen h1 h2⟩
  | lst ds => obtain ⟨vs, e, r⟩ := h; exact ⟨vs, ha _ e, r.gen h1 h2⟩
  | dic ds => obtain ⟨vs, e, r⟩ := h; exact ⟨vs, ha _ e, r.gen h1 h2⟩
  | dpr ds => exact ha _ h
  | dpd ds => obtain ⟨vs, e, q, r⟩ := h; exact ⟨vs, ha _ e, q, r.gen h1 h2⟩
  | st ns => obtain ⟨n, e, l⟩ := h; exact ⟨n, ha _ e, l⟩
  | bor ds => obtain ⟨w, vs, e, r⟩ := h; exact ⟨w, vs, ha _ e, r.gen h1 h2⟩
  | _ => exact h.elim
theorem Con.is (n : ¬ M a) (h : Con z M H a d) : Is z M H (.ref a) d := by
  cases d with
  | tup ds => obtain ⟨vs, e, r⟩ := h; exact .tup e n r
  | lst ds => obtain ⟨vs, e, r⟩ := h; exact .lst e n r
  | dic ds => obtain ⟨vs, e, r⟩ := h; exact .dic e n r
  | dpr ds => exact .dpr h n
  | dpd ds => obtain ⟨vs, e, q, r⟩ := h; exact .dpd e n q r
  | st ns => obtain ⟨m, e, l⟩ := h; exact .st e l n
  | bor ds => obtain ⟨w, vs, e, r⟩ := h; exact .bor e n r
  | _ => exact h.elim
theorem Con.some (h : Con z M H a d) : ∃ o, H a = some o := by
  cases d with
  | tup ds => obtain ⟨vs, e, r⟩ := h; exact ⟨_, e⟩
  | lst ds => obtain ⟨vs, e, r⟩ := h; exact ⟨_, e⟩
  | dic ds => obtain ⟨vs, e, r⟩ := h; exact ⟨_, e⟩
  | dpr ds => exact ⟨_, h⟩
  | dpd ds => obtain ⟨vs, e, q, r⟩ := h; exact ⟨_, e⟩
  | st ns => obtain ⟨m, e, l⟩ := h; exact ⟨_, e⟩
  | bor ds => obtain ⟨w, vs, e, r⟩ := h; exact ⟨_, e⟩
  | _ => exact h.elim
theorem Con.nof (h : Con z M H a d) : NoF H a := by
  cases d with
  | tup ds => obtain ⟨vs, e, r⟩ := h; exact .of e fun a b q => nomatch q
  | lst ds => obtain ⟨vs, e, r⟩ := h; exact .of e fun a b q => nomatch q
  | dic ds => obtain ⟨vs, e, r⟩ := h; exact .of e fun a b q => nomatch q
  | dpr ds => exact .of h fun a b q => nomatch q
  | dpd ds => obtain ⟨vs, e, q, r⟩ := h; exact .of e fun a b q => nomatch q
  | st ns => obtain ⟨m, e, l⟩ := h; exact .of e fun a b q => nomatch q
  | bor ds => obtain ⟨w, vs, e, r⟩ := h; exact .of e fun a b q => nomatch q
  | _ => exact h.elim
end
/-! slots -/
abbrev Sl := List (Option V)
abbrev AP := Addr → Prop
inductive SV where
  | no | val (d : D) | own (d : D)
/-- the places that no plain value of the slots has: the zone, what X names, what slots own -/
def Ms (z : Zn) (X : AP) (σ : Sl) (env : List SV) : AP := fun a => z.Z a ∨ X a ∨ ∃ (i : Nat) (d : D), env[i]? = some (.own d) ∧ σ[i]? = some (some (V.ref a))
structure Ok (z : Zn) (X : AP) (H0 H : Hp) (σ : Sl) (env : List SV) : Prop where
  len : σ.length = env.length
  evo : Evo z H0 H
  zal : ∀ a, z.Z a → H a ≠ none
  xal : ∀ a, X a → H a ≠ none ∧ ¬ z.Z a
  val : ∀ (i : Nat) (d : D), env[i]? = some (.val d) → ∃ v, σ[i]? = some (some v) ∧ Is z (Ms z X σ env) H v d
  own : ∀ (i : Nat) (d : D), env[i]? = some (.own d) → ∃ a, σ[i]? = some (some (V.ref a)) ∧ Con z (Ms z X σ env) H a d ∧ ¬ z.Z a ∧ ¬ X a ∧ H0 a = none
  inj : ∀ (i j : Nat) (a : Addr) (d e : D), env[i]? = some (.own d) → env[j]? = some (.own e) → σ[i]? = some (some (V.ref a)) → σ[j]? = some (some (V.ref a)) → i = j
  tab : Tabs H
/-- what stood outside M stands, outside M' -/
structure Fr (z : Zn) (X : AP) (M : AP) (H : Hp) (M' : AP) (H' : Hp) : Prop where
  old : ∀ a o, H a = some o → ¬ M a → H' a = some o ∧ ¬ M' a
  dk : ∀ a, z.ok H a → z.ok H' a
  al : ∀ a, H a ≠ none → H' a ≠ none
section
variable {z : Zn} {X : AP} {H0 H H' H1 H2 : Hp} {σ σ' : Sl} {env env' : List SV} {M M1 M2 : AP}
theorem Fr.refl : Fr z X M H M H := ⟨fun _ _ h n => ⟨h, n⟩, fun _ h => h, fun _ h => h⟩
theorem Fr.trans (a : Fr z X M H M1 H1) (b : Fr z X M1 H1 M2 H2) : Fr z X M H M2 H2 := ⟨fun x o h n => b.old x o (a.old x o h n).1 (a.old x o h n).2, fun x h => b.dk x (a.dk x h), fun x h => b.al x (a.al x h)⟩
theorem Fr.is {v : V} {d : D} (f : Fr z X M H M1 H1) (h : Is z M H v d) : Is z M1 H1 v d := h.gen f.old f.dk
theorem Fr.isA {v : List V} {d : List D} (f : Fr z X M H M1 H1) (h : IsA z M H v d) : IsA z M1 H1 v d := h.gen f.old f.dk
theorem Ok.fr (k : Ok z X H0 H σ env) (e : Evo z H H') : Fr z X (Ms z X σ env) H (Ms z X σ env) H' := ⟨fun a o h n => ⟨e.old a o h fun x => n (.inl x), n⟩, e.dk, e.al⟩
theorem Ok.go (k : Ok z X H0 H σ env) (e : Evo z H H') : Ok z X H0 H' σ env :=
  ⟨k.len, k.evo.trans e, fun a h => e.al a (k.zal a h), fun a h => ⟨e.al a (k.xal a h).1, (k.xal a h).2⟩, fun i d h => let ⟨v, h1, h2⟩ := k.val i d h; ⟨v, h1, h2.evo (fun _ h => .inl h) e⟩,
   fun i d h => let ⟨a, h1, h2, h3, h4⟩ := k.own i d h; ⟨a, h1, h2.gen (fun o q => e.old a o q h3) (fun b o q n => ⟨e.old b o q fun x => n (.inl x), n⟩) e.dk, h3, h4⟩, k.inj, e.tab k.tab⟩
theorem set_own {i j : Nat} {d e : D} (h : (env.set i (.val d))[j]? = some (.own e)) : j ≠ i ∧ env[j]? = some (.own e) := by
  by_cases hj : i = j
  · subst hj
    rw [List.getElem?_set] at h
    split at h
    · split at h <;> cases h
    · exact absurd rfl (by assumption)
  · rw [List.getElem?_set_ne hj] at h
    exact ⟨fun q => hj q.symm, h⟩
/-- a plain store: the slot i shows d -/
theorem Ok.set (k : Ok z X H0 H σ env) {i : Nat} {v : V} {d : D} (hv : Is z (Ms z X σ env) H v d) : Ok z X H0 H (σ.set i (some v)) (env.set i (.val d)) ∧ Fr z X (Ms z X σ env) H (Ms z X (σ.set i (some v)) (env.set i (.val d))) H := by
  have sub : ∀ a, Ms z X (σ.set i (some v)) (env.set i (.val d)) a → Ms z X σ env a := by
    rintro a (h | h | ⟨j, e, h1, h2⟩)
    · exact .inl h
    · exact .inr (.inl h)
    · obtain ⟨hj, h1⟩ := set_own h1
      rw [List.getElem?_set_ne (Ne.symm hj)] at h2
      exact .inr (.inr ⟨j, e, h1, h2⟩)
  refine ⟨⟨by simp [k.len], k.evo, k.zal, k.xal, fun j e h => ?_, fun j e h => ?_, fun j l a e f h1 h2 h3 h4 => ?_, k.tab⟩, ⟨fun a o q n => ⟨q, fun x => n (sub a x)⟩, fun _ h => h, fun _ h => h⟩⟩
  · by_cases hj : i = j
    · subst hj
      rw [List.getElem?_set] at h
      split at h
      · split at h
        · rename_i hl
          cases h
          refine ⟨v, ?_, hv.weak sub⟩
          rw [List.getElem?_set_self (by rw [k.len]; exact hl)]
        · cases h
      · exact absurd rfl (by assumption)
    · rw [List.getElem?_set_ne hj] at h ⊢
      obtain ⟨u, h1, h2⟩ := k.val j e h
      exact ⟨u, h1, h2.weak sub⟩
  · obtain ⟨hj, h⟩ := set_own h
    rw [List.getElem?_set_ne (Ne.symm hj)]
    obtain ⟨a, h1, h2, h3, h4⟩ := k.own j e h
    exact ⟨a, h1, h2.gen (fun _ q => q) (fun b o q n => ⟨q, fun x => n (sub b x)⟩) fun _ h => h, h3, h4⟩
  · obtain ⟨hj, h1⟩ := set_own h1
    obtain ⟨hl, h2⟩ := set_own h2
    rw [List.getElem?_set_ne (Ne.symm hj)] at h3
    rw [List.getElem?_set_ne (Ne.symm hl)] at h4
    exact k.inj j l a e f h1 h2 h3 h4
abbrev AP.or (X : AP) (a : Addr) : AP := fun b => X b ∨ b = a
/-- a store of a new thing that the slot owns -/
theorem Ok.take (k : Ok z X H0 H σ env) {i : Nat} {a : Addr} {d : D} (hl : i < env.length) (e : Evo z H H') (hn : H a = none) (hc : Con z (Ms z (X.or a) σ env) H' a d) :
    Ok z X H0 H' (σ.set i (some (V.ref a))) (env.set i (.own d)) ∧ Fr z X (Ms z X σ env) H (Ms z X (σ.set i (some (V.ref a))) (env.set i (.own d))) H' := by
  have hz : ¬ z.Z a := fun q => k.zal a q hn
  have hx : ¬ X a := fun q => (k.xal a q).1 hn
  have ms : ∀ b, Ms z X (σ.set i (some (V.ref a))) (env.set i (.own d)) b → Ms z (X.or a) σ env b := by
    rintro b (h | h | ⟨j, f, h1, h2⟩)
    · exact .inl h
    · exact .inr (.inl (.inl h))
    · by_cases hj : i = j
      · subst hj
        rw [List.getElem?_set_self (by rw [k.len]; exact hl)] at h2
        cases h2
        exact .inr (.inl (.inr rfl))
      · rw [List.getElem?_set_ne hj] at h1 h2
        exact .inr (.inr ⟨j, f, h1, h2⟩)
  have ms2 : ∀ b, Ms z (X.or a) σ env b → Ms z X σ env b ∨ b = a := by
    rintro b (h | (h | h) | h)
    · exact .inl (.inl h)
    · exact .inl (.inr (.inl h))
    · exact .inr h
    · exact .inl (.inr (.inr h))
  have old : ∀ b o, H b = some o → ¬ Ms z X σ env b → H' b = some o ∧ ¬ Ms z X (σ.set i (some (V.ref a))) (env.set i (.own d)) b := fun b o q n =>
    ⟨e.old b o q fun x => n (.inl x), fun x => (ms2 b (ms b x)).elim n fun y => by rw [y, hn] at q; cases q⟩
  refine ⟨⟨by simp [k.len], k.evo.trans e, fun b h => e.al b (k.zal b h), fun b h => ⟨e.al b (k.xal b h).1, (k.xal b h).2⟩, fun j f h => ?_, fun j f h => ?_, fun j l b f g h1 h2 h3 h4 => ?_, e.tab k.tab⟩, ⟨old, e.dk, e.al⟩⟩
  · by_cases hj : i = j
    · subst hj
      rw [List.getElem?_set_self hl] at h
      cases h
    · rw [List.getElem?_set_ne hj] at h ⊢
      obtain ⟨u, h1, h2⟩ := k.val j f h
      exact ⟨u, h1, h2.gen old e.dk⟩
  · by_cases hj : i = j
    · subst hj
      rw [List.getElem?_set_self hl] at h
      cases h
      exact ⟨a, by rw [List.getElem?_set_self (by rw [k.len]; exact hl)], hc.gen (fun _ q => q) (fun b o q n => ⟨q, fun x => n (ms b x)⟩) fun _ h => h, hz, hx, k.evo.fresh hn⟩
    · rw [List.getElem?_set_ne hj] at h ⊢
      obtain ⟨b, h1, h2, h3, h4⟩ := k.own j f h
      exact ⟨b, h1, h2.gen (fun o q => e.old b o q h3) old e.dk, h3, h4⟩
  · have own' : ∀ (j : Nat) (f : D), (env.set i (.own d))[j]? = some (.own f) → j ≠ i → env[j]? = some (.own f) := fun j f h hj => by rw [List.getElem?_set_ne (Ne.symm hj)] at h; exact h
    have no : ∀ (j : Nat) (f : D), env[j]? = some (.own f) → σ[j]? = some (some (V.ref a)) → False := fun j f h1 h2 => by
      obtain ⟨b, h3, h4, _⟩ := k.own j f h1
      rw [h2] at h3
      cases h3
      obtain ⟨o, h5⟩ := h4.some
      rw [hn] at h5
      cases h5
    by_cases hj : j = i
    · by_cases hl2 : l = i
      · rw [hj, hl2]
      · rw [hj, List.getElem?_set_self (by rw [k.len]; exact hl)] at h3
        cases h3
        rw [List.getElem?_set_ne (Ne.symm hl2)] at h4
        exact (no l g (own' l g h2 hl2) h4).elim
    · by_cases hl2 : l = i
      · rw [hl2, List.getElem?_set_self (by rw [k.len]; exact hl)] at h4
        cases h4
        rw [List.getElem?_set_ne (Ne.symm hj)] at h3
        exact (no j f (own' j f h1 hj) h3).elim
      · rw [List.getElem?_set_ne (Ne.symm hj)] at h3
        rw [List.getElem?_set_ne (Ne.symm hl2)] at h4
        exact k.inj j l b f g (own' j f h1 hj) (own' l g h2 hl2) h3 h4
/-- what a slot owns is changed -/
theorem Ok.mut (k : Ok z X H0 H σ env) {i : Nat} {a : Addr} {d d' : D} {o : HO} (hi : env[i]? = some (.own d)) (hs : σ[i]? = some (some (V.ref a))) (hc : Con z (Ms z X σ env) (upd H a o) a d') :
    Ok z X H0 (upd H a o) σ (env.set i (.own d')) ∧ Fr z X (Ms z X σ env) H (Ms z X σ (env.set i (.own d'))) (upd H a o) := by
  have hl : i < env.length := (List.getElem?_eq_some_iff.mp hi).1
  obtain ⟨a', hs', hc0, hz, hx, h0⟩ := k.own i d hi
  have ea : a' = a := by rw [hs] at hs'; cases hs'; rfl
  subst ea
  have ms : ∀ b, Ms z X σ (env.set i (.own d')) b → Ms z X σ env b := by
    rintro b (h | h | ⟨j, f, h1, h2⟩)
    · exact .inl h
    · exact .inr (.inl h)
    · by_cases hj : i = j
      · subst hj
        exact .inr (.inr ⟨i, d, hi, h2⟩)
      · rw [List.getElem?_set_ne hj] at h1
        exact .inr (.inr ⟨j, f, h1, h2⟩)
  have ain : Ms z X σ env a' := .inr (.inr ⟨i, d, hi, hs⟩)
  have old : ∀ b u, H b = some u → ¬ Ms z X σ env b → upd H a' o b = some u ∧ ¬ Ms z X σ (env.set i (.own d')) b := fun b u q n =>
    ⟨by rw [upd_ne (fun e => n (by rw [e]; exact ain))]; exact q, fun x => n (ms b x)⟩
  have dk : ∀ b, z.ok H b → z.ok (upd H a' o) b := fun b h => ok_mut hz h
  have al : ∀ b, H b ≠ none → upd H a' o b ≠ none := fun b h => by
    by_cases e : b = a'
    · rw [e, upd_same]; intro q; cases q
    · rw [upd_ne e]; exact h
  refine ⟨⟨by simp [k.len], k.evo.mut h0 hz hc0.nof, fun b h => al b (k.zal b h), fun b h => ⟨al b (k.xal b h).1, (k.xal b h).2⟩, fun j f h => ?_, fun j f h => ?_, fun j l b f g h1 h2 h3 h4 => ?_, k.tab.mut hz hc0.nof⟩, ⟨old, dk, al⟩⟩
  · by_cases hj : i = j
    · subst hj
      rw [List.getElem?_set_self hl] at h
      cases h
    · rw [List.getElem?_set_ne hj] at h
      obtain ⟨u, h1, h2⟩ := k.val j f h
      exact ⟨u, h1, h2.gen old dk⟩
  · by_cases hj : i = j
    · subst hj
      rw [List.getElem?_set_self hl] at h
      cases h
      exact ⟨a', hs, hc.gen (fun _ q => q) (fun b o q n => ⟨q, fun x => n (ms b x)⟩) fun _ h => h, hz, hx, h0⟩
    · rw [List.getElem?_set_ne hj] at h
      obtain ⟨b, h1, h2, h3, h4⟩ := k.own j f h
      have nb : b ≠ a' := fun e => hj (k.inj i j a' d f hi h hs (e ▸ h1))
      exact ⟨b, h1, h2.gen (fun o q => by rw [upd_ne nb]; exact q) old dk, h3, h4⟩
  · have un : ∀ (j : Nat) (f : D), (env.set i (.own d'))[j]? = some (.own f) → ∃ f', env[j]? = some (.own f') := fun j f h => by
      by_cases hj : i = j
      · subst hj; exact ⟨d, hi⟩
      · rw [List.getElem?_set_ne hj] at h; exact ⟨f, h⟩
    obtain ⟨f', h1'⟩ := un j f h1
    obtain ⟨g', h2'⟩ := un l g h2
    exact k.inj j l b f' g' h1' h2' h3 h4
end
end Pu
namespace Pu
open PySem PySem.Spec PyProof.Rows L2
variable [Tbs]
/-! == of data -/
mutual
def pd : D → PyData
  | .non => .none
  | .bl b => .bool b
  | .int i => .int i
  | .str s => .str s
  | .ty _ => .none
  | .tup xs => .tuple (pdA xs)
  | .lst xs => .list (pdA xs)
  | .dic _ => .none
  | .deck _ => .none
  | .dpr _ => .none
  | .dfz _ => .none
  | .st _ => .none
  | .bor _ => .none
  | .opq _ => .none
  | .xf _ _ _ _ => .none
  | .dpd _ => .none
def pdA : List D → List PyData
  | [] => []
  | x :: xs => pd x :: pdA xs
end
mutual
/-- of None, truths, numbers, texts, tuples and lists, at most n deep -/
def shp : Nat → D → Bool
  | _, .non => true
  | _, .bl _ => true
  | _, .int _ => true
  | _, .str s => PyData.strOk s
  | 0, .tup _ => false
  | n + 1, .tup xs => shpA n xs
  | 0, .lst _ => false
  | n + 1, .lst xs => shpA n xs
  | _, .ty _ => false
  | _, .dic _ => false
  | _, .deck _ => false
  | _, .dpr _ => false
  | _, .dfz _ => false
  | _, .st _ => false
  | _, .bor _ => false
  | _, .opq _ => false
  | _, .xf _ _ _ _ => false
  | _, .dpd _ => false
def shpA : Nat → List D → Bool
  | _, [] => true
  | n, x :: xs => shp n x && shpA n xs
end
mutual
/-- the same without truths -/
def pln : Nat → D → Bool
  | _, .non => true
  | _, .bl _ => false
  | _, .int _ => true
  | _, .str s => PyData.strOk s
  | 0, .tup _ => false
  | n + 1, .tup xs => plnA n xs
  | 0, .lst _ => false
  | n + 1, .lst xs => plnA n xs
  | _, .ty _ => false
  | _, .dic _ => false
  | _, .deck _ => false
  | _, .dpr _ => false
  | _, .dfz _ => false
  | _, .st _ => false
  | _, .bor _ => false
  | _, .opq _ => false
  | _, .xf _ _ _ _ => false
  | _, .dpd _ => false
def plnA : Nat → List D → Bool
  | _, [] => true
  | n, x :: xs => pln n x && plnA n xs
end
theorem plnA_iff {n : Nat} : ∀ {xs : List D}, plnA n xs = true ↔ ∀ x ∈ xs, pln n x = true
  | [] => by simp [plnA]
  | x :: xs => by simp [plnA, plnA_iff (xs := xs)]
mutual
theorem pln_shp : ∀ (n : Nat) (d : D), pln n d = true → shp n d = true
  | _, .non, _ => by simp [shp]
  | _, .bl _, h => by simp [pln] at h
  | _, .int _, _ => by simp [shp]
  | _, .str s, h => by simp only [pln] at h; simp only [shp]; exact h
  | 0, .tup _, h => by simp [pln] at h
  | n + 1, .tup xs, h => by simp only [pln] at h; simp only [shp]; exact plnA_shp n xs h
  | 0, .lst _, h => by simp [pln] at h
  | n + 1, .lst xs, h => by simp only [pln] at h; simp only [shp]; exact plnA_shp n xs h
  | _, .ty _, h => by simp [pln] at h
  | _, .dic _, h => by simp [pln] at h
  | _, .deck _, h => by simp [pln] at h
  | _, .dpr _, h => by simp [pln] at h
  | _, .dfz _, h => by simp [pln] at h
  | _, .st _, h => by simp [pln] at h
  | _, .bor _, h => by simp [pln] at h
  | _, .opq _, h => by simp [pln] at h
  | _, .xf _ _ _ _, h => by simp [pln] at h
  | _, .dpd _, h => by simp [pln] at h
theorem plnA_shp : ∀ (n : Nat) (xs : List D), plnA n xs = true → shpA n xs = true
  | _, [], _ => by simp [shpA]
  | n, x :: xs, h => by
    simp only [plnA, Bool.and_eq_true] at h
    simp only [shpA, Bool.and_eq_true]
    exact ⟨pln_shp n x h.1, plnA_shp n xs h.2⟩
end
mutual
theorem shp_lay : ∀ (n : Nat) (d : D), shp n d = true → (pd d).canLay0 = true ∧ (pd d).depth ≤ n + 1
  | n, .non, _ => by simp [pd, PyData.canLay0, PyData.depth]
  | n, .bl _, h => by simp [pd, PyData.canLay0, PyData.depth]
  | n, .int _, _ => by simp [pd, PyData.canLay0, PyData.depth]
  | n, .str s, h => by simp only [shp] at h; simp [pd, PyData.canLay0, PyData.depth, h]
  | 0, .tup _, h => by simp [shp] at h
  | n + 1, .tup xs, h => by
    simp only [shp] at h
    have q := shp_layA n xs h
    simp only [pd, PyData.canLay0, PyData.depth, q.1, true_and]
    omega
  | 0, .lst _, h => by simp [shp] at h
  | n + 1, .lst xs, h => by
    simp only [shp] at h
    have q := shp_layA n xs h
    simp only [pd, PyData.canLay0, PyData.depth, q.1, true_and]
    omega
  | _, .ty _, h => by simp [shp] at h
  | _, .dic _, h => by simp [shp] at h
  | _, .deck _, h => by simp [shp] at h
  | _, .dpr _, h => by simp [shp] at h
  | _, .dfz _, h => by simp [shp] at h
  | _, .st _, h => by simp [shp] at h
  | _, .bor _, h => by simp [shp] at h
  | _, .opq _, h => by simp [shp] at h
  | _, .xf _ _ _ _, h => by simp [shp] at h
  | _, .dpd _, h => by simp [shp] at h
theorem shp_layA : ∀ (n : Nat) (xs : List D), shpA n xs = true → PyData.canLayAll0 (pdA xs) = true ∧ PyData.depthAll (pdA xs) ≤ n + 1
  | n, [], _ => by simp [pdA, PyData.canLayAll0, PyData.depthAll]
  | n, x :: xs, h => by
    simp only [shpA, Bool.and_eq_true] at h
    have q := shp_lay n x h.1
    have r := shp_layA n xs h.2
    simp only [pdA, PyData.canLayAll0, PyData.depthAll, q.1, r.1, Bool.and_self, true_and]
    omega
end
theorem shaped_of {d : D} (h : shp 60 d = true) : SeqAt.shaped (pd d) = true := by
  have q := shp_lay 60 d h
  simp only [SeqAt.shaped, q.1, Bool.true_and, decide_eq_true_eq]
  omega
section
variable {z : Zn} {M : Addr → Prop} {H : Hp} {K : PySem.W.Frag}
mutual
theorem Is.dp : ∀ {v : V} {d : D} {n : Nat}, Is z M H v d → shp n d = true → Dp K H v (pd d)
  | _, _, _, .non, _ => by simp only [pd]; exact .non
  | _, _, _, .bl b, _ => by simp only [pd]; exact .bl b
  | _, _, _, .int b, _ => by simp only [pd]; exact .int b
  | _, _, _, .str b, _ => by simp only [pd]; exact .str b
  | _, _, _, .ty b, h => by simp [shp] at h
  | _, _, 0, .tup e _ r, h => by simp [shp] at h
  | _, _, n + 1, .tup e _ r, h => by simp only [pd]; exact .tup (SqT.of e) (IsA.dp r (by simpa only [shp] using h))
  | _, _, 0, .lst e _ r, h => by simp [shp] at h
  | _, _, n + 1, .lst e _ r, h => by simp only [pd]; exact .lst (SqL.of e) (IsA.dp r (by simpa only [shp] using h))
  | _, _, _, .dic _ _ _, h => by simp [shp] at h
  | _, _, _, .deck _, h => by simp [shp] at h
  | _, _, _, .dpr _ _, h => by simp [shp] at h
  | _, _, _, .dfz _ _, h => by simp [shp] at h
  | _, _, _, .st _ _ _, h => by simp [shp] at h
  | _, _, _, .bor _ _ _, h => by simp [shp] at h
  | _, _, _, .opq _, h => by simp [shp] at h
  | _, _, _, .xf _ _ _, h => by simp [shp] at h
  | _, _, _, .dpd _ _ _ _, h => by simp [shp] at h
theorem IsA.dp : ∀ {vs : List V} {ds : List D} {n : Nat}, IsA z M H vs ds → shpA n ds = true → DpAll K H vs (pdA ds)
  | _, _, _, .nil, _ => by simp only [pdA]; exact .nil
  | _, _, _, .cons q t, h => by
    simp only [shpA, Bool.and_eq_true] at h
    simp only [pdA]
    exact .cons (Is.dp q h.1) (IsA.dp t h.2)
end
end
def eqvD (a b : D) : Bool := PyData.eqv (pd a) (pd b)
mutual
theorem eqv_iff : ∀ (n m : Nat) (a b : D), pln n a = true → pln m b = true → (PyData.eqv (pd a) (pd b) = true ↔ a = b)
  | n, m, a, b, ha, hb => by
    cases a with
    | non => cases b <;> simp_all [pd, PyData.eqv, pln]
    | bl _ => simp [pln] at ha
    | int i => cases b <;> simp_all [pd, PyData.eqv, pln]
    | str s => cases b <;> simp_all [pd, PyData.eqv, pln]
    | ty _ => simp [pln] at ha
    | dic _ => simp [pln] at ha
    | deck _ => simp [pln] at ha
    | dpr _ => simp [pln] at ha
    | dfz _ => simp [pln] at ha
    | st _ => simp [pln] at ha
    | bor _ => simp [pln] at ha
    | opq _ => simp [pln] at ha
    | xf _ _ _ _ => simp [pln] at ha
    | dpd _ => simp [pln] at ha
    | tup xs =>
      cases b with
      | tup ys =>
        cases n with
        | zero => simp [pln] at ha
        | succ n =>
          cases m with
          | zero => simp [pln] at hb
          | succ m =>
            simp only [pln] at ha hb
            simp only [pd, PyData.eqv, D.tup.injEq]
            exact eqv_iffA n m xs ys ha hb
      | bl _ => simp [pln] at hb
      | _ => simp_all [pd, PyData.eqv, pln]
    | lst xs =>
      cases b with
      | lst ys =>
        cases n with
        | zero => simp [pln] at ha
        | succ n =>
          cases m with
          | zero => simp [pln] at hb
          | succ m =>
            simp only [pln] at ha hb
            simp only [pd, PyData.eqv, D.lst.injEq]
            exact eqv_iffA n m xs ys ha hb
      | bl _ => simp [pln] at hb
      | _ => simp_all [pd, PyData.eqv, pln]
theorem eqv_iffA : ∀ (n m : Nat) (a b : List D), plnA n a = true → plnA m b = true → (PyData.eqvAll (pdA a) (pdA b) = true ↔ a = b)
  | n, m, [], [], _, _ => by simp [pdA, PyData.eqvAll]
  | n, m, [], _ :: _, _, _ => by simp [pdA, PyData.eqvAll]
  | n, m, _ :: _, [], _, _ => by simp [pdA, PyData.eqvAll]
  | n, m, x :: xs, y :: ys, ha, hb => by
    simp only [plnA, Bool.and_eq_true] at ha hb
    simp only [pdA, PyData.eqvAll, Bool.and_eq_true, List.cons.injEq]
    rw [eqv_iff n m x y ha.1 hb.1, eqv_iffA n m xs ys ha.2 hb.2]
end
theorem eqvD_iff {a b : D} (ha : pln 60 a = true) (hb : pln 60 b = true) : eqvD a b = true ↔ a = b := eqv_iff 60 60 a b ha hb
end Pu
namespace Pu
open PySem PySem.Spec PyProof.Rows L2
variable [Tbs]
/-! readings without places -/
abbrev PX := List SV → (D → Prop) → Prop
abbrev PTs' := List SV → (Bool → Prop) → Prop
abbrev PAs := List SV → (List D → Prop) → Prop
/-- the zone and X -/
def Zx (z : Zn) (X : AP) : AP := fun a => z.Z a ∨ X a
/-- how an expression's value stands: f new and alone; e plain; c its parts plain; b for a look only -/
inductive Mode where | f | e | c | b
  deriving DecidableEq
def mutD : D → Bool
  | .lst _ => true
  | .dic _ => true
  | .dpr _ => true
  | .dpd _ => true
  | .st _ => true
  | _ => false
def Rel (m : Mode) (z : Zn) (X : AP) (H H' : Hp) (σ : Sl) (env : List SV) (v : V) (d : D) : Prop := match m with
  | .f => ∃ a, v = .ref a ∧ H a = none ∧ Con z (Ms z (X.or a) σ env) H' a d
  | .e => Is z (Ms z X σ env) H' v d
  | .c => Is z (Ms z X σ env) H' v d ∨ ∃ a, v = .ref a ∧ Con z (Ms z X σ env) H' a d ∧ ¬ Zx z X a ∧ mutD d = true
  | .b => Is z (Zx z X) H' v d
section
variable {z : Zn} {X : AP} {H0 H H1 H' : Hp} {σ : Sl} {env : List SV} {v : V} {d : D} {m : Mode}
theorem Zx.ms {a : Addr} (h : Zx z X a) : Ms z X σ env a := h.elim .inl fun q => .inr (.inl q)
theorem Ms.orL {a b : Addr} (h : Ms z X σ env b) : Ms z (X.or a) σ env b := by
  rcases h with h | h | h
  · exact .inl h
  · exact .inr (.inl (.inl h))
  · exact .inr (.inr h)
theorem Ok.notMs (k : Ok z X H0 H σ env) {a : Addr} (h : H a = none) : ¬ Ms z X σ env a := by
  rintro (q | q | ⟨i, d, q1, q2⟩)
  · exact k.zal a q h
  · exact (k.xal a q).1 h
  · obtain ⟨b, h1, h2, _⟩ := k.own i d q1
    rw [q2] at h1
    cases h1
    obtain ⟨o, h3⟩ := h2.some
    rw [h] at h3
    cases h3
theorem Rel.fe (k : Ok z X H0 H σ env) (h : Rel .f z X H H' σ env v d) : Rel .e z X H H' σ env v d := by
  obtain ⟨a, rfl, hn, hc⟩ := h
  exact (hc.gen (fun _ q => q) (fun b o q n => ⟨q, fun x => n x.orL⟩) fun _ h => h).is (k.notMs hn)
theorem Rel.ec (h : Rel .e z X H H' σ env v d) : Rel .c z X H H' σ env v d := .inl h
theorem Rel.cb (h : Rel .c z X H H' σ env v d) : Rel .b z X H H' σ env v d := by
  rcases h with h | ⟨a, rfl, hc, n, _⟩
  · exact Is.weak (fun a q => q.ms) h
  · exact (hc.gen (fun _ q => q) (fun b o q n => ⟨q, fun x => n x.ms⟩) fun _ h => h).is n
theorem Rel.eb (h : Rel .e z X H H' σ env v d) : Rel .b z X H H' σ env v d := h.ec.cb
theorem Rel.toB (k : Ok z X H0 H σ env) (h : Rel m z X H H' σ env v d) : Rel .b z X H H' σ env v d := by
  cases m with
  | f => exact (h.fe k).eb
  | e => exact h.eb
  | c => exact h.cb
  | b => exact h
/-- a later heap -/
theorem Rel.evo (k : Ok z X H0 H σ env) (e : Evo z H1 H') (h : Rel m z X H H1 σ env v d) (h0 : Evo z H H1) : Rel m z X H H' σ env v d := by
  cases m with
  | f =>
    obtain ⟨a, rfl, hn, hc⟩ := h
    refine ⟨a, rfl, hn, hc.gen (fun o q => e.old a o q fun x => ?_) (fun b o q n => ⟨e.old b o q fun x => n (.inl x), n⟩) e.dk⟩
    exact k.zal a x hn
  | e => exact Is.evo (fun _ q => .inl q) e h
  | c =>
    rcases h with h | ⟨a, rfl, hc, n, md⟩
    · exact .inl (Is.evo (fun _ q => .inl q) e h)
    · exact .inr ⟨a, rfl, hc.gen (fun o q => e.old a o q fun x => n (.inl x)) (fun b o q n => ⟨e.old b o q fun x => n (.inl x), n⟩) e.dk, n, md⟩
  | b => exact Is.evo (fun _ q => .inl q) e h
/-- a later start: for all but f -/
theorem Rel.later (hm : m ≠ .f) (h : Rel m z X H H' σ env v d) : Rel m z X H1 H' σ env v d := by
  cases m with
  | f => exact absurd rfl hm
  | _ => exact h
/-- an earlier start -/
theorem Rel.early (e : Evo z H H1) (h : Rel m z X H1 H' σ env v d) : Rel m z X H H' σ env v d := by
  cases m with
  | f => obtain ⟨a, rfl, hn, hc⟩ := h; exact ⟨a, rfl, e.fresh hn, hc⟩
  | e => exact h
  | c => exact h
  | b => exact h
end
def RE (m : Mode) (t : TE) (p : PX) : Prop := ∀ (z : Zn) (X : AP) (H0 H : Hp) (σ : Sl) (env : List SV) (Q : VK) (k : D → Prop), Ok z X H0 H σ env →
  (∀ d v H', Evo z H H' → Rel m z X H H' σ env v d → k d → Q v H') → p env k → t σ H Q
def RT (t : TT) (p : PTs') : Prop := ∀ (z : Zn) (X : AP) (H0 H : Hp) (σ : Sl) (env : List SV) (Q : Bool → Hp → Prop) (k : Bool → Prop), Ok z X H0 H σ env →
  (∀ b H', Evo z H H' → k b → Q b H') → p env k → t σ H Q
/-- arguments: plain (l = true), or for a look only -/
def RA (l : Bool) (t : TA) (p : PAs) : Prop := ∀ (z : Zn) (X : AP) (H0 H : Hp) (σ : Sl) (env : List SV) (Q : List V → Hp → Prop) (k : List D → Prop), Ok z X H0 H σ env →
  (∀ ds vs H', Evo z H H' → IsA z (if l = true then Ms z X σ env else Zx z X) H' vs ds → k ds → Q vs H') → p env k → t σ H Q
structure E (m : Mode) (C : Cx) (e : Expr) (p : PX) : Prop where
  ex : ∃ t, PE C e t ∧ RE m t p
structure T (C : Cx) (e : Expr) (p : PTs') : Prop where
  ex : ∃ t, PT C e t ∧ RT t p
structure W (C : Cx) (e : Expr) (p : PTs') : Prop where
  ex : ∃ t, PW C e t ∧ RT t p
structure A (l : Bool) (C : Cx) (es : List Expr) (p : PAs) : Prop where
  ex : ∃ t, PA C es t ∧ RA l t p
section
variable {C : Cx} {e a b : Expr} {p q : PX} {m m' : Mode} {pos : Pos}
theorem E.toB (h : E m C e p) : E .b C e p := by
  obtain ⟨t, h1, h2⟩ := h
  exact ⟨t, h1, fun z X H0 H σ env Q k o c hp => h2 z X H0 H σ env Q k o (fun d v H' ev r kd => c d v H' ev (r.toB o) kd) hp⟩
theorem E.fe (h : E .f C e p) : E .e C e p := by
  obtain ⟨t, h1, h2⟩ := h
  exact ⟨t, h1, fun z X H0 H σ env Q k o c hp => h2 z X H0 H σ env Q k o (fun d v H' ev r kd => c d v H' ev (r.fe o) kd) hp⟩
theorem E.ec (h : E .e C e p) : E .c C e p := by
  obtain ⟨t, h1, h2⟩ := h
  exact ⟨t, h1, fun z X H0 H σ env Q k o c hp => h2 z X H0 H σ env Q k o (fun d v H' ev r kd => c d v H' ev r.ec kd) hp⟩
/-! ### names, constants -/
def eC (d : D) : PX := fun _ k => k d
def eV (i : Nat) : PX := fun env k => match env[i]? with
  | some (.val d) => k d
  | _ => False
def eO (i : Nat) : PX := fun env k => match env[i]? with
  | some (.own (.lst xs)) => k (.lst xs)
  | some (.own (.dic xs)) => k (.dic xs)
  | some (.own (.dpr xs)) => k (.dpr xs)
  | some (.own (.dpd xs)) => k (.dpd xs)
  | some (.own (.st xs)) => k (.st xs)
  | some (.own (.bor xs)) => k (.lst xs)
  | _ => False
theorem re_c {v : V} {d : D} (h : ∀ z M H, Is z M H v d) : RE .e (tC v) (eC d) := fun z X H0 H σ env Q k o c hp => c d v H (Evo.refl _ _) (h _ _ _) hp
theorem e_int {i : Int} {j} : E .e C (.Constant (.int i) j pos) (eC (.int i)) := ⟨_, pe_int, re_c fun _ _ _ => .int i⟩
theorem e_bl {i : Bool} {j} : E .e C (.Constant (.bool i) j pos) (eC (.bl i)) := ⟨_, pe_bl, re_c fun _ _ _ => .bl i⟩
theorem e_non {j} : E .e C (.Constant .none j pos) (eC .non) := ⟨_, pe_non, re_c fun _ _ _ => .non⟩
theorem e_gint {x : Str} {i : Int} {t : Tok} (hg : Gl C x) (hm : C.mg x = some (.int i t)) (hd : (x == ("__debug__" : Str)) = false := by decide) : E .e C (.Name x pos) (eC (.int i)) := ⟨_, pe_glob (v := .int i) hg hm ⟨_, rfl⟩ hd, re_c fun _ _ _ => .int i⟩
theorem e_ty {x : Str} {n : String} (hg : Gl C x) (hm : C.mg x = none) (hv : bootBuiltins x = some (.type n)) (hn : x ≠ "__name__" := by decide) (hd : (x == ("__debug__" : Str)) = false := by decide) : E .e C (.Name x pos) (eC (.ty n)) :=
  ⟨_, pe_bltn (v := .ty n) hg hm hv rfl hn hd, re_c fun _ _ _ => .ty n⟩
theorem re_v (i : Nat) : RE .e (tVar i) (eV i) := fun z X H0 H σ env Q k o c hp => by
  unfold eV at hp
  split at hp
  · rename_i d he
    obtain ⟨v, h1, h2⟩ := o.val i d he
    exact ⟨v, h1, c d v H (Evo.refl _ _) h2 hp⟩
  · exact hp.elim
theorem re_o (i : Nat) : RE .c (tVar i) (eO i) := fun z X H0 H σ env Q k o c hp => by
  unfold eO at hp
  split at hp
  · rename_i xs he
    obtain ⟨a, h1, h2, h3, h4⟩ := o.own i _ he
    exact ⟨_, h1, c _ _ H (Evo.refl _ _) (.inr ⟨a, rfl, h2, fun q => q.elim h3 h4.1, rfl⟩) hp⟩
  · rename_i xs he
    obtain ⟨a, h1, h2, h3, h4⟩ := o.own i _ he
    exact ⟨_, h1, c _ _ H (Evo.refl _ _) (.inr ⟨a, rfl, h2, fun q => q.elim h3 h4.1, rfl⟩) hp⟩
  · rename_i xs he
    obtain ⟨a, h1, h2, h3, h4⟩ := o.own i _ he
    exact ⟨_, h1, c _ _ H (Evo.refl _ _) (.inr ⟨a, rfl, h2, fun q => q.elim h3 h4.1, rfl⟩) hp⟩
  · rename_i xs he
    obtain ⟨a, h1, h2, h3, h4⟩ := o.own i _ he
    exact ⟨_, h1, c _ _ H (Evo.refl _ _) (.inr ⟨a, rfl, h2, fun q => q.elim h3 h4.1, rfl⟩) hp⟩
  · rename_i xs he
    obtain ⟨a, h1, h2, h3, h4⟩ := o.own i _ he
    exact ⟨_, h1, c _ _ H (Evo.refl _ _) (.inr ⟨a, rfl, h2, fun q => q.elim h3 h4.1, rfl⟩) hp⟩
  · rename_i xs he
    obtain ⟨a, h1, h2, h3, h4⟩ := o.own i _ he
    exact ⟨_, h1, c (.lst xs) _ H (Evo.refl _ _) (.inr ⟨a, rfl, h2.2, fun q => q.elim h3 h4.1, rfl⟩) hp⟩
  · exact hp.elim
theorem e_v (i : Nat) {x : Str} (hN : C.N[i]? = some x := by rfl) (hv : Vis C.env.scope x := by first | exact Or.inl rfl | exact Or.inr (Or.inl rfl) | exact Or.inr (Or.inr rfl)) (hd : (x == ("__debug__" : Str)) = false := by decide)
    (hcd : (x == ("__classdict__" : Str)) = false := by decide) : E .e C (.Name x pos) (eV i) := ⟨_, pe_var hN hv hd hcd, re_v i⟩
theorem e_o (i : Nat) {x : Str} (hN : C.N[i]? = some x := by rfl) (hv : Vis C.env.scope x := by first | exact Or.inl rfl | exact Or.inr (Or.inl rfl) | exact Or.inr (Or.inr rfl)) (hd : (x == ("__debug__" : Str)) = false := by decide)
    (hcd : (x == ("__classdict__" : Str)) = false := by decide) : E .c C (.Name x pos) (eO i) := ⟨_, pe_var hN hv hd hcd, re_o i⟩
/-! ### operators, by values -/
/-- the pure operation g stands for r: operands of mode mi, the answer of mode mo -/
def OpD (mi mo : Mode) (r : R2) (g : D → D → (D → Prop) → Prop) : Prop := ∀ (z : Zn) (X : AP) (H0 H : Hp) (σ : Sl) (env : List SV) (v u : V) (x y : D) (Q : VK) (k : D → Prop), Ok z X H0 H σ env → Rel mi z X H H σ env v x → Rel mi z X H H σ env u y →
  (∀ d w H', Evo z H H' → Rel mo z X H H' σ env w d → k d → Q w H') → g x y k → r v u H Q
def eOp (g : D → D → (D → Prop) → Prop) (p q : PX) : PX := fun env k => p env fun x => q env fun y => g x y k
theorem RE.op {mi mo : Mode} {r : R2} {g : D → D → (D → Prop) → Prop} {ta tb : TE} (hm : mi ≠ .f) (ho : OpD mi mo r g) (ha : RE mi ta p) (hb : RE mi tb q) : RE mo (tOp r ta tb) (eOp g p q) := fun z X H0 H σ env Q k o c hp => by
  refine ha z X H0 H σ env _ _ o (fun x v H1 e1 r1 hp1 => ?_) hp
  refine hb z X H0 H1 σ env _ _ (o.go e1) (fun y u H2 e2 r2 hp2 => ?_) hp1
  refine ho z X H0 H2 σ env v u x y Q k ((o.go e1).go e2) ((r1.evo o e2 e1).later hm) (r2.later hm) (fun d w H3 e3 r3 kd => ?_) hp2
  exact c d w H3 (e1.trans (e2.trans e3)) (r3.early (e1.trans e2)) kd
theorem e_op {mi mo : Mode} {op : Operator} {r : R2} {g : D → D → (D → Prop) → Prop} (hr : OpR C (binaryOp op) r) (ho : OpD mi mo r g) (ha : E mi C a p) (hb : E mi C b q) (hm : mi ≠ .f := by decide) : E mo C (.BinOp a op b pos) (eOp g p q) := by
  obtain ⟨ta, a1, a2⟩ := ha
  obtain ⟨tb, b1, b2⟩ := hb
  exact ⟨_, pe_op hr a1 b1, RE.op hm ho a2 b2⟩
theorem e_cmp {mi mo : Mode} {op : CmpOp} {r : R2} {g : D → D → (D → Prop) → Prop} (hr : OpR C (compareOp op) r) (ho : OpD mi mo r g) (ha : E mi C a p) (hb : E mi C b q) (hk : behindInMarks op b = false) (hm : mi ≠ .f := by decide) : E mo C (.Compare a [op] [b] pos) (eOp g p q) := by
  obtain ⟨ta, a1, a2⟩ := ha
  obtain ⟨tb, b1, b2⟩ := hb
  exact ⟨_, pe_cmpR hr a1 b1 hk, RE.op hm ho a2 b2⟩
/-- a value that is a truth, as a test -/
def blK (d : D) (k : Bool → Prop) : Prop := match d with
  | .bl b => k b
  | _ => False
def tOf (p : PX) : PTs' := fun env k => p env fun d => blK d k
theorem RT.of {t : TE} (h : RE .b t p) : RT (tTest t) (tOf p) := fun z X H0 H σ env Q k o c hp => by
  refine h z X H0 H σ env _ _ o (fun d v H' e r hd => ?_) hp
  cases d with
  | bl b =>
    cases (show Is z _ H' v (.bl b) from r)
    exact ⟨b, rfl, c b H' e hd⟩
  | _ => exact (show False from hd).elim
theorem t_cmp {mi : Mode} {op : CmpOp} {r : R2} {g : D → D → (D → Prop) → Prop} (hr : OpR C (compareOp op) r) (ho : OpD mi .b r g) (ha : E mi C a p) (hb : E mi C b q) (hk : behindInMarks op b = false) (hm : mi ≠ .f := by decide) : T C (.Compare a [op] [b] pos) (tOf (eOp g p q)) := by
  obtain ⟨ta, a1, a2⟩ := ha
  obtain ⟨tb, b1, b2⟩ := hb
  exact ⟨_, pt_cmpR hr a1 b1 hk, RT.of (RE.op hm ho a2 b2)⟩
theorem t_val (h : E m C e p) (he : ∀ whole, isTrue e C.env whole = (do let v ← whole; standAt e.pos; holding [v] (truthy v)) := by intro _; rfl) : T C e (tOf p) := by
  obtain ⟨t, h1, h2⟩ := h.toB
  exact ⟨_, pt_val h1 he, RT.of h2⟩
/-- a op b op' c -/
def bCase (d : D) (A B : Prop) : Prop := match d with
  | .bl true => A
  | .bl false => B
  | _ => False
def eChain (g g' : D → D → (D → Prop) → Prop) (p q r : PX) : PX := fun env k => p env fun x => q env fun y => g x y fun w => bCase w (r env fun u => g' y u k) (k (.bl false))
theorem RE.chain {s : PX} {r r' : R2} {g g' : D → D → (D → Prop) → Prop} {ta tb tc : TE} (ho : OpD .b .b r g) (ho' : OpD .b .e r' g') (ha : RE .b ta p) (hb : RE .b tb q) (hc : RE .b tc s) : RE .e (tChain r r' ta tb tc) (eChain g g' p q s) := fun z X H0 H σ env Q k o c hp => by
  refine ha z X H0 H σ env _ _ o (fun x v H1 e1 r1 hp1 => ?_) hp
  refine hb z X H0 H1 σ env _ _ (o.go e1) (fun y u H2 e2 r2 hp2 => ?_) hp1
  have o2 := (o.go e1).go e2
  refine ho z X H0 H2 σ env v u x y _ _ o2 ((r1.evo o e2 e1).later (by decide)) (r2.later (by decide)) (fun d w H3 e3 r3 kd => ?_) hp2
  cases d with
  | bl b =>
    cases (show Is z _ H3 w (.bl b) from r3)
    refine ⟨b, rfl, ?_⟩
    cases b with
    | false =>
      rw [if_neg Bool.false_ne_true]
      exact c _ _ H3 (e1.trans (e2.trans e3)) (Is.bl false) kd
    | true =>
      rw [if_pos rfl]
      refine hc z X H0 H3 σ env _ _ (o2.go e3) (fun l w H4 e4 r4 hp4 => ?_) kd
      refine ho' z X H0 H4 σ env u w y l Q k ((o2.go e3).go e4) ((r2.evo (o.go e1) (e3.trans e4) e2).later (by decide)) (r4.later (by decide)) (fun d x H5 e5 r5 kd => ?_) hp4
      exact c d x H5 (e1.trans (e2.trans (e3.trans (e4.trans e5)))) r5 kd
  | _ => exact (show False from kd).elim
theorem e_chain {c : Expr} {s : PX} {op op' : CmpOp} {r r' : R2} {g g' : D → D → (D → Prop) → Prop} (hr : OpR C (compareOp op) r) (hr' : OpR C (compareOp op') r') (ho : OpD .b .b r g) (ho' : OpD .b .e r' g') (ha : E .b C a p) (hb : E .b C b q) (hc : E .b C c s)
    (hm : lastMarks [op, op'] [b, c] = false := by with_unfolding_all rfl) : E .e C (.Compare a [op, op'] [b, c] pos) (eChain g g' p q s) := by
  obtain ⟨ta, a1, a2⟩ := ha
  obtain ⟨tb, b1, b2⟩ := hb
  obtain ⟨tc, c1, c2⟩ := hc
  exact ⟨_, pe_chain hr hr' a1 b1 c1 hm, RE.chain ho ho' a2 b2 c2⟩
/-! whole numbers -/
def dII (Cc : Int → Int → Prop) (g : Int → Int → D) : D → D → (D → Prop) → Prop := fun x y k => match x, y with
  | .int i, .int j => Cc i j ∧ k (g i j)
  | _, _ => False
def dI0 (g : Int → Int → D) : D → D → (D → Prop) → Prop := fun x y k => match x, y with
  | .int i, .int j => k (g i j)
  | _, _ => False
theorem Is.intI {z : Zn} {M : AP} {H : Hp} {v : V} {i : Int} (h : Is z M H v (.int i)) : v = .int i := by cases h; rfl
theorem opd_II {Cc : Int → Int → Prop} {g : Int → Int → D} {g' : Int → Int → V} (h : ∀ i j z M H, Is z M H (g' i j) (g i j)) : OpD .b .e (rI Cc g') (dII Cc g) := fun z X H0 H σ env v u x y Q k o r1 r2 c hp => by
  cases x with
  | int i =>
    cases y with
    | int j => exact ⟨i, j, Is.intI r1, Is.intI r2, hp.1, c _ _ H (Evo.refl _ _) (h i j _ _ _) hp.2⟩
    | _ => exact (show False from hp).elim
  | _ => exact (show False from hp).elim
theorem opd_I0 {g : Int → Int → D} {g' : Int → Int → V} (h : ∀ i j z M H, Is z M H (g' i j) (g i j)) : OpD .b .e (rI0 g') (dI0 g) := fun z X H0 H σ env v u x y Q k o r1 r2 c hp => by
  cases x with
  | int i =>
    cases y with
    | int j => exact ⟨i, j, Is.intI r1, Is.intI r2, c _ _ H (Evo.refl _ _) (h i j _ _ _) hp⟩
    | _ => exact (show False from hp).elim
  | _ => exact (show False from hp).elim
theorem OpD.eb {mi : Mode} {r : R2} {g : D → D → (D → Prop) → Prop} (h : OpD mi .e r g) : OpD mi .b r g := fun z X H0 H σ env v u x y Q k o r1 r2 c hp => h z X H0 H σ env v u x y Q k o r1 r2 (fun d w H' e r kd => c d w H' e r.eb kd) hp
abbrev dSub := dI0 fun i j => .int (i - j)
abbrev dMul := dII CMul fun i j => .int (i * j)
abbrev dDiv := dII CDiv fun i j => .int (i / j)
abbrev dMod := dII (fun _ j => 0 < j) fun i j => .int (i % j)
abbrev dPow := dII CPow fun i j => .int (i ^ j.toNat)
abbrev dLt := dI0 fun i j => .bl (decide (i < j))
abbrev dLe := dI0 fun i j => .bl (decide (i ≤ j))
abbrev dGt := dI0 fun i j => .bl (decide (j < i))
abbrev dGe := dI0 fun i j => .bl (decide (j ≤ i))
theorem opd_sub : OpD .b .e (rI0 fun i j => .int (i - j)) dSub := opd_I0 fun i j _ _ _ => .int _
theorem opd_mul : OpD .b .e (rI CMul fun i j => .int (i * j)) dMul := opd_II fun i j _ _ _ => .int _
theorem opd_div : OpD .b .e (rI CDiv fun i j => .int (i / j)) dDiv := opd_II fun i j _ _ _ => .int _
theorem opd_mod : OpD .b .e (rI (fun _ j => 0 < j) fun i j => .int (i % j)) dMod := opd_II fun i j _ _ _ => .int _
theorem opd_pow : OpD .b .e (rI CPow fun i j => .int (i ^ j.toNat)) dPow := opd_II fun i j _ _ _ => .int _
theorem opd_lt : OpD .b .e (rI0 fun i j => .bl (decide (i < j))) dLt := opd_I0 fun i j _ _ _ => .bl _
theorem opd_le : OpD .b .e (rI0 fun i j => .bl (decide (i ≤ j))) dLe := opd_I0 fun i j _ _ _ => .bl _
theorem opd_gt : OpD .b .e (rI0 fun i j => .bl (decide (j < i))) dGt := opd_I0 fun i j _ _ _ => .bl _
theorem opd_ge : OpD .b .e (rI0 fun i j => .bl (decide (j ≤ i))) dGe := opd_I0 fun i j _ _ _ => .bl _
def eUn (g : D → (D → Prop) → Prop) (p : PX) : PX := fun env k => p env fun x => g x k
def dNeg : D → (D → Prop) → Prop := fun x k => match x with
  | .int i => k (.int (-i))
  | _ => False
theorem e_neg (ha : E m C a p) : E .e C (.UnaryOp .USub a pos) (eUn dNeg p) := by
  obtain ⟨t, h1, h2⟩ := ha.toB
  refine ⟨_, pe_un un_neg h1, fun z X H0 H σ env Q k o c hp => h2 z X H0 H σ env _ _ o (fun d v H' e r hd => ?_) hp⟩
  cases d with
  | int i => exact ⟨i, Is.intI r, c _ _ H' e (Is.int _) hd⟩
  | _ => exact (show False from hd).elim
end
/-! + -/
/-- of two rules one -/
theorem opr_or {C : Cx} {f : Value → Value → Sem Value} {r r' : R2} (h : OpR C f r) (h' : OpR C f r') : OpR C f (fun x y H Q => r x y H Q ∨ r' x y H Q) := fun pins s σ H x y v u Q I rx ry q => q.elim (h pins s σ H x y v u Q I rx ry) (h' pins s σ H x y v u Q I rx ry)
def rAddA (K : PySem.W.Frag) : R2 := fun x y H Q => (rI0 fun i j => .int (i + j)) x y H Q ∨ (rCatA K x y H Q ∨ (rCat x y H Q ∨ (∃ i j, x = .str i ∧ y = .str j ∧ i.length + j.length ≤ sizeLine ∧ Q (.str (i ++ j)) H)))
theorem op_addA {C : Cx} : OpR C (binaryOp .Add) (rAddA C.K) := opr_or op_add (opr_or op_catA (opr_or op_cat op_add_str))
def dAdd : D → D → (D → Prop) → Prop := fun x y k => match x, y with
  | .int i, .int j => k (.int (i + j))
  | .tup xs, .tup ys => xs.length + ys.length ≤ 100000 ∧ k (.tup (xs ++ ys))
  | .lst xs, .lst ys => xs.length + ys.length ≤ 100000 ∧ k (.lst (xs ++ ys))
  | .str xs, .str ys => xs.length + ys.length ≤ 100000 ∧ k (.str (xs ++ ys))
  | _, _ => False
theorem sz {n : Nat} (h : n ≤ 100000) : n ≤ sizeLine := Nat.le_trans h (by decide)
section
variable {z : Zn} {X : AP} {H0 H H1 H' : Hp} {σ : Sl} {env : List SV} {v : V} {d : D} {m : Mode} {M : AP}
theorem Rel.conT {xs : List D} (h : Rel .c z X H H' σ env v (.tup xs)) : ∃ a vs, v = .ref a ∧ H' a = some (.tup vs) ∧ IsA z (Ms z X σ env) H' vs xs ∧ ¬ Ms z X σ env a := by
  rcases h with h | ⟨a, rfl, ⟨vs, e, r⟩, n, md⟩
  · cases h with
    | tup e n r => exact ⟨_, _, rfl, e, r, n⟩
  · cases md
theorem Rel.conL {xs : List D} (h : Rel .c z X H H' σ env v (.lst xs)) : ∃ a vs, v = .ref a ∧ H' a = some (.lst vs) ∧ IsA z (Ms z X σ env) H' vs xs ∧ ¬ Zx z X a := by
  rcases h with h | ⟨a, rfl, ⟨vs, e, r⟩, n, md⟩
  · cases h with
    | lst e n r => exact ⟨_, _, rfl, e, r, fun q => n q.ms⟩
  · exact ⟨a, vs, rfl, e, r, n⟩
theorem Rel.strC {s : Str} (h : Rel .c z X H H' σ env v (.str s)) : v = .str s := by
  rcases h with h | ⟨a, _, hc, _⟩
  · cases h; rfl
  · exact hc.elim
theorem Rel.intC {s : Int} (h : Rel .c z X H H' σ env v (.int s)) : v = .int s := by
  rcases h with h | ⟨a, _, hc, _⟩
  · cases h; rfl
  · exact hc.elim
/-- parts of something that stood ahead of a new thing at a -/
theorem IsA.newer {a : Addr} {o : HO} {vs : List V} {ds : List D} (ha : H a = none) (h : IsA z (Ms z X σ env) H vs ds) : IsA z (Ms z (X.or a) σ env) (upd H a o) vs ds :=
  h.gen (fun b u q n => ⟨by rw [upd_ne (ne_of_none q ha)]; exact q, fun x => by
    rcases x with x | (x | x) | x
    · exact n (.inl x)
    · exact n (.inr (.inl x))
    · rw [x, ha] at q; cases q
    · exact n (.inr (.inr x))⟩) fun _ h => ok_new ha h
theorem Rel.newL {a : Addr} {vs : List V} {ds : List D} (hn : H a = none) (ha : H' a = none) (h : IsA z (Ms z X σ env) H' vs ds) : Rel .f z X H (upd H' a (.lst vs)) σ env (.ref a) (.lst ds) :=
  ⟨a, rfl, hn, vs, upd_same, h.newer ha⟩
theorem Rel.newT {a : Addr} {vs : List V} {ds : List D} (hn : H a = none) (ha : H' a = none) (h : IsA z (Ms z X σ env) H' vs ds) : Rel .f z X H (upd H' a (.tup vs)) σ env (.ref a) (.tup ds) :=
  ⟨a, rfl, hn, vs, upd_same, h.newer ha⟩
end
theorem opd_add {K : PySem.W.Frag} : OpD .c .e (rAddA K) dAdd := fun z X H0 H σ env v u x y Q k o r1 r2 c hp => by
  cases x with
  | int i =>
    cases y with
    | int j => exact .inl ⟨i, j, r1.intC, r2.intC, c _ _ H (Evo.refl _ _) (Is.int _) hp⟩
    | _ => exact (show False from hp).elim
  | str i =>
    cases y with
    | str j => exact .inr (.inr (.inr ⟨i, j, r1.strC, r2.strC, sz hp.1, c _ _ H (Evo.refl _ _) (Is.str _) hp.2⟩))
    | _ => exact (show False from hp).elim
  | tup xs =>
    cases y with
    | tup ys =>
      obtain ⟨a, vs, e1, h1, i1, n1⟩ := r1.conT
      obtain ⟨b, us, e2, h2, i2, n2⟩ := r2.conT
      subst e1 e2
      have l1 := i1.length
      have l2 := i2.length
      refine .inr (.inl ⟨a, b, vs, us, rfl, rfl, SqT.of h1, SqT.of h2, sz (by rw [l1, l2]; exact hp.1), fun e => ?_, fun e1 e => ?_, fun e1 e2 q hq => ?_⟩)
      · subst e
        cases i1
        exact c _ _ H (Evo.refl _ _) (Is.tup h2 n2 i2) hp.2
      · subst e
        cases i2
        have hp2 := hp.2
        rw [List.append_nil] at hp2
        exact c _ _ H (Evo.refl _ _) (Is.tup h1 n1 i1) hp2
      · exact c _ _ _ ((Evo.refl _ _).new hq) ((Rel.newT hq hq (i1.append i2)).fe o) hp.2
    | _ => exact (show False from hp).elim
  | lst xs =>
    cases y with
    | lst ys =>
      obtain ⟨a, vs, e1, h1, i1, n1⟩ := r1.conL
      obtain ⟨b, us, e2, h2, i2, n2⟩ := r2.conL
      subst e1 e2
      refine .inr (.inr (.inl ⟨a, b, vs, us, rfl, rfl, h1, h2, sz (by rw [i1.length, i2.length]; exact hp.1), fun q hq => ?_⟩))
      exact c _ _ _ ((Evo.refl _ _).new hq) ((Rel.newL hq hq (i1.append i2)).fe o) hp.2
    | _ => exact (show False from hp).elim
  | _ => exact (show False from hp).elim
end Pu
namespace Pu
open PySem PySem.Spec PyProof.Rows L2
variable [Tbs]
section
variable {C : Cx} {e a b : Expr} {p q : PX} {m m' : Mode} {pos : Pos}
/-! ### ==, in, is -/
def EqV (x y : D) (c : Bool) : Prop := shp 60 x = true ∧ shp 60 y = true ∧ eqvD x y = c
def dEq : D → D → (D → Prop) → Prop := fun x y k => ∃ c, EqV x y c ∧ k (.bl c)
def dNe : D → D → (D → Prop) → Prop := fun x y k => ∃ c, EqV x y c ∧ k (.bl (!c))
theorem opd_eq {K : PySem.W.Frag} : OpD .b .e (rEqD K) dEq := fun z X H0 H σ env v u x y Q k o r1 r2 c hp => by
  obtain ⟨b, ⟨h1, h2, h3⟩, hk⟩ := hp
  exact ⟨_, _, Is.dp r1 h1, Is.dp r2 h2, shaped_of h1, shaped_of h2, by rw [show PyData.eqv (pd x) (pd y) = b from h3]; exact c _ _ H (Evo.refl _ _) (Is.bl _) hk⟩
theorem opd_ne {K : PySem.W.Frag} : OpD .b .e (rNeD K) dNe := fun z X H0 H σ env v u x y Q k o r1 r2 c hp => by
  obtain ⟨b, ⟨h1, h2, h3⟩, hk⟩ := hp
  exact ⟨_, _, Is.dp r1 h1, Is.dp r2 h2, shaped_of h1, shaped_of h2, by rw [show PyData.eqv (pd x) (pd y) = b from h3]; exact c _ _ H (Evo.refl _ _) (Is.bl _) hk⟩
def dIs (neg : Bool) : D → D → (D → Prop) → Prop := fun x y k => match x, y with
  | .non, .non => k (.bl (neg ^^ true))
  | .bl a, .bl b => k (.bl (neg ^^ decide (a = b)))
  | _, .non => k (.bl neg)
  | _, _ => False
def rIsA : R2 := fun x y H Q => (y = .non ∧ Q (.bl (decide (x = .non))) H) ∨ (∃ a b, x = .bl a ∧ y = .bl b ∧ Q (.bl (decide (a = b))) H)
theorem op_isA : OpR C (compareOp .Is) rIsA := opr_or op_isN op_is_bl
theorem Is.notNon {z : Zn} {M : AP} {H : Hp} {v : V} {d : D} (h : Is z M H v d) (hd : d ≠ .non) : v ≠ .non := by
  cases h <;> first | exact absurd rfl hd | (intro q; cases q)
theorem opd_is : OpD .b .e rIsA (dIs false) := fun z X H0 H σ env v u x y Q k o r1 r2 c hp => by
  cases y with
  | non =>
    cases (show Is z _ H u .non from r2)
    refine .inl ⟨rfl, ?_⟩
    by_cases hx : x = .non
    · subst hx
      cases (show Is z _ H v .non from r1)
      exact c _ _ H (Evo.refl _ _) (Is.bl _) hp
    · rw [decide_eq_false (Is.notNon r1 hx)]
      refine c (.bl false) _ H (Evo.refl _ _) (Is.bl _) ?_
      cases x <;> first | exact absurd rfl hx | exact hp
  | bl b =>
    cases x with
    | bl a =>
      cases (show Is z _ H u _ from r2)
      cases (show Is z _ H v _ from r1)
      exact .inr ⟨a, b, rfl, rfl, c _ _ H (Evo.refl _ _) (Is.bl _) (by simpa [dIs] using hp)⟩
    | _ => exact (show False from hp).elim
  | _ => cases x <;> exact (show False from hp).elim
/-- a number among numbers -/
def intsD : List D → Option (List Int)
  | [] => some []
  | .int i :: r => (intsD r).map (i :: ·)
  | _ => none
theorem intsD_eq : ∀ {ds : List D} {ns : List Int}, intsD ds = some ns → ds = ns.map D.int
  | [], _, h => by cases h; rfl
  | .int i :: r, ns, h => by
    unfold intsD at h
    cases e : intsD r with
    | none => rw [e] at h; cases h
    | some z => rw [e] at h; cases h; rw [intsD_eq e]; rfl
  | .non :: _, _, h => by cases h
  | .bl _ :: _, _, h => by cases h
  | .str _ :: _, _, h => by cases h
  | .ty _ :: _, _, h => by cases h
  | .tup _ :: _, _, h => by cases h
  | .lst _ :: _, _, h => by cases h
  | .dic _ :: _, _, h => by cases h
  | .deck _ :: _, _, h => by cases h
  | .dpr _ :: _, _, h => by cases h
  | .dfz _ :: _, _, h => by cases h
  | .st _ :: _, _, h => by cases h
  | .bor _ :: _, _, h => by cases h
  | .dpd _ :: _, _, h => by cases h
theorem intsD_map : ∀ ns : List Int, intsD (ns.map D.int) = some ns
  | [] => rfl
  | n :: ns => by show (intsD (ns.map D.int)).map (n :: ·) = _; rw [intsD_map ns]; rfl
theorem inI {x : Int} {xs : List Int} : inV (.int x) (xs.map V.int) = decide (x ∈ xs) := by
  induction xs with
  | nil => rfl
  | cons y r ih =>
    have e : inV (.int x) ((y :: r).map V.int) = (eqV (.int y) (.int x) || inV (.int x) (r.map V.int)) := rfl
    rw [e, ih]
    have e2 : eqV (.int y) (.int x) = decide (y = x) := by
      show (y == x) = _
      by_cases h : y = x
      · simp [h]
      · simp [h]
    rw [e2]
    by_cases h : y = x
    · simp [h]
    · have h' : ¬ x = y := fun e => h e.symm
      simp [h, h']
def seqD : D → Option (List D)
  | .tup xs => some xs
  | .lst xs => some xs
  | _ => none
def dIn (neg : Bool) : D → D → (D → Prop) → Prop := fun x y k => ∃ i ds ns, x = .int i ∧ seqD y = some ds ∧ intsD ds = some ns ∧ k (.bl (if neg then !decide (i ∈ ns) else decide (i ∈ ns)))
theorem flatInts : ∀ ns : List Int, (ns.map V.int).all flatV = true
  | [] => rfl
  | n :: ns => by simp only [List.map_cons, List.all_cons, flatInts ns, Bool.and_true]; rfl
theorem opd_in {K : PySem.W.Frag} {neg : Bool} : OpD .b .e (rIn K neg) (dIn neg) := fun z X H0 H σ env v u x y Q k o r1 r2 c hp => by
  obtain ⟨i, ds, ns, rfl, hs, hi, hk⟩ := hp
  cases Is.intI r1
  cases intsD_eq hi
  have fin : ∀ vs : List V, IsA z (Zx z X) H vs (ns.map D.int) → Q (.bl (if neg then !inV (.int i) vs else inV (.int i) vs)) H := fun vs h => by
    rw [h.ints, inI]
    exact c _ _ H (Evo.refl _ _) (Is.bl _) hk
  cases y with
  | tup xs =>
    cases hs
    cases (show Is z _ H u _ from r2) with
    | tup e n r => exact ⟨_, _, rfl, .inr (SqT.of e), rfl, by rw [r.ints]; exact flatInts ns, fin _ r⟩
  | lst xs =>
    cases hs
    cases (show Is z _ H u _ from r2) with
    | lst e n r => exact ⟨_, _, rfl, .inl (SqL.of e), rfl, by rw [r.ints]; exact flatInts ns, fin _ r⟩
  | _ => cases hs
/-! ### tests, and, or, not, if -/
variable {s t : PTs'} {rest : List Expr}
def tAndP (s t : PTs') : PTs' := fun env k => s env fun x => if x = true then t env k else k false
def tOrP (s t : PTs') : PTs' := fun env k => s env fun x => if x = true then k true else t env k
def tNotP (s : PTs') : PTs' := fun env k => s env fun x => k (!x)
theorem w_t (h : W C e s) : T C e s := let ⟨t, h1, h2⟩ := h; ⟨t, h1.pt, h2⟩
theorem w_and1 (h : T C a s) : W C (.BoolOp .And [a] pos) s := let ⟨t, h1, h2⟩ := h; ⟨t, pw_and1 h1, h2⟩
theorem w_or1 (h : T C a s) : W C (.BoolOp .Or [a] pos) s := let ⟨t, h1, h2⟩ := h; ⟨t, pw_or1 h1, h2⟩
theorem w_and (h : T C a s) (g : W C (.BoolOp .And (b :: rest) pos) t) : W C (.BoolOp .And (a :: b :: rest) pos) (tAndP s t) := by
  obtain ⟨t1, h1, h2⟩ := h
  obtain ⟨t2, g1, g2⟩ := g
  refine ⟨_, pw_and h1 g1, fun z X H0 H σ env Q k o c hp => h2 z X H0 H σ env _ _ o (fun x H1 e1 hx => ?_) hp⟩
  cases x with
  | true => exact g2 z X H0 H1 σ env Q k (o.go e1) (fun y H2 e2 hy => c y H2 (e1.trans e2) hy) hx
  | false => exact c false H1 e1 hx
theorem w_or (h : T C a s) (g : W C (.BoolOp .Or (b :: rest) pos) t) : W C (.BoolOp .Or (a :: b :: rest) pos) (tOrP s t) := by
  obtain ⟨t1, h1, h2⟩ := h
  obtain ⟨t2, g1, g2⟩ := g
  refine ⟨_, pw_or h1 g1, fun z X H0 H σ env Q k o c hp => h2 z X H0 H σ env _ _ o (fun x H1 e1 hx => ?_) hp⟩
  cases x with
  | false => exact g2 z X H0 H1 σ env Q k (o.go e1) (fun y H2 e2 hy => c y H2 (e1.trans e2) hy) hx
  | true => exact c true H1 e1 hx
theorem t_not (h : T C a s) : T C (.UnaryOp .Not a pos) (tNotP s) := by
  obtain ⟨t1, h1, h2⟩ := h
  exact ⟨_, pt_not h1, fun z X H0 H σ env Q k o c hp => h2 z X H0 H σ env _ _ o (fun x H1 e1 hx => c _ H1 e1 hx) hp⟩
/-- values -/
def eAnd (p q : PX) : PX := fun env k => p env fun x => bCase x (q env k) (k (.bl false))
def eOr (p q : PX) : PX := fun env k => p env fun x => bCase x (k (.bl true)) (q env k)
def dNot : D → (D → Prop) → Prop := fun x k => match x with
  | .bl c => k (.bl (!c))
  | _ => False
theorem e_one {op} (h : E m C a p) : E m C (.BoolOp op [a] pos) p := let ⟨t, h1, h2⟩ := h; ⟨t, pe_one h1, h2⟩
theorem e_and (h : E m C a p) (g : E .e C (.BoolOp .And (b :: rest) pos) q) : E .e C (.BoolOp .And (a :: b :: rest) pos) (eAnd p q) := by
  obtain ⟨t1, h1, h2⟩ := h.toB
  obtain ⟨t2, g1, g2⟩ := g
  refine ⟨_, pe_and h1 g1, fun z X H0 H σ env Q k o c hp => h2 z X H0 H σ env _ _ o (fun d v H1 e1 r1 hx => ?_) hp⟩
  cases d with
  | bl x =>
    cases (show Is z _ H1 v _ from r1)
    refine ⟨x, rfl, ?_⟩
    cases x with
    | true => rw [if_pos rfl]; exact g2 z X H0 H1 σ env Q k (o.go e1) (fun d v H2 e2 r2 hy => c d v H2 (e1.trans e2) r2 hy) hx
    | false => rw [if_neg Bool.false_ne_true]; exact c _ _ H1 e1 (Is.bl _) hx
  | _ => exact (show False from hx).elim
theorem e_or (h : E m C a p) (g : E .e C (.BoolOp .Or (b :: rest) pos) q) : E .e C (.BoolOp .Or (a :: b :: rest) pos) (eOr p q) := by
  obtain ⟨t1, h1, h2⟩ := h.toB
  obtain ⟨t2, g1, g2⟩ := g
  refine ⟨_, pe_or h1 g1, fun z X H0 H σ env Q k o c hp => h2 z X H0 H σ env _ _ o (fun d v H1 e1 r1 hx => ?_) hp⟩
  cases d with
  | bl x =>
    cases (show Is z _ H1 v _ from r1)
    refine ⟨x, rfl, ?_⟩
    cases x with
    | false => rw [if_neg Bool.false_ne_true]; exact g2 z X H0 H1 σ env Q k (o.go e1) (fun d v H2 e2 r2 hy => c d v H2 (e1.trans e2) r2 hy) hx
    | true => rw [if_pos rfl]; exact c _ _ H1 e1 (Is.bl _) hx
  | _ => exact (show False from hx).elim
theorem e_not (h : E m C a p) : E .e C (.UnaryOp .Not a pos) (eUn dNot p) := by
  obtain ⟨t1, h1, h2⟩ := h.toB
  refine ⟨_, pe_not h1, fun z X H0 H σ env Q k o c hp => h2 z X H0 H σ env _ _ o (fun d v H1 e1 r1 hx => ?_) hp⟩
  cases d with
  | bl x =>
    cases (show Is z _ H1 v _ from r1)
    exact ⟨x, rfl, c _ _ H1 e1 (Is.bl _) hx⟩
  | _ => exact (show False from hx).elim
def eIf (s : PTs') (p q : PX) : PX := fun env k => s env fun x => if x = true then p env k else q env k
/-! ### arguments, displays -/
variable {es : List Expr} {l : Bool} {g : PAs}
def lm : Bool → Mode
  | true => .e
  | false => .b
def aNil : PAs := fun _ k => k []
def aCons (p : PX) (g : PAs) : PAs := fun env k => p env fun x => g env fun xs => k (x :: xs)
theorem a_nil : A l C [] aNil := ⟨_, pa_nil, fun z X H0 H σ env Q k o c hp => c [] [] H (Evo.refl _ _) .nil hp⟩
theorem a_cons (h : E (lm l) C e p) (hr : A l C es g) (hs : starEach (e :: es) C.env = (false, eval e C.env) :: starEach es C.env := by rfl) : A l C (e :: es) (aCons p g) := by
  obtain ⟨t, h1, h2⟩ := h
  obtain ⟨u, g1, g2⟩ := hr
  refine ⟨_, pa_cons h1 g1 hs, fun z X H0 H σ env Q k o c hp => h2 z X H0 H σ env _ _ o (fun d v H1 e1 r1 hx => ?_) hp⟩
  refine g2 z X H0 H1 σ env _ _ (o.go e1) (fun ds vs H2 e2 r2 hy => c (d :: ds) (v :: vs) H2 (e1.trans e2) (.cons ?_ r2) hy) hx
  cases l with
  | true => exact Is.evo (fun _ q => .inl q) e2 r1
  | false => exact Is.evo (fun _ q => .inl q) e2 r1
def eTup (g : PAs) : PX := fun env k => g env fun xs => xs.length ≤ 100000 ∧ k (.tup xs)
def eLst (g : PAs) : PX := fun env k => g env fun xs => xs.length ≤ 100000 ∧ k (.lst xs)
theorem e_tup {x1} (h : A true C es g) : E .e C (.Tuple es x1 pos) (eTup g) := by
  obtain ⟨t, h1, h2⟩ := h
  refine ⟨_, pe_tup h1, fun z X H0 H σ env Q k o c hp => h2 z X H0 H σ env _ _ o (fun ds vs H1 e1 r1 hx => ⟨by rw [r1.length]; exact sz hx.1, fun q hq => ?_⟩) hp⟩
  exact c _ _ _ (e1.new hq) ((Rel.newT (e1.fresh hq) hq r1).fe o) hx.2
theorem e_lst (h : A true C es g) : E .f C (.List es pos) (eLst g) := by
  obtain ⟨t, h1, h2⟩ := h
  refine ⟨_, pe_lst h1, fun z X H0 H σ env Q k o c hp => h2 z X H0 H σ env _ _ o (fun ds vs H1 e1 r1 hx => ⟨by rw [r1.length]; exact sz hx.1, fun q hq => ?_⟩) hp⟩
  exact c _ _ _ (e1.new hq) (Rel.newL (e1.fresh hq) hq r1) hx.2
/-! ### x[i], x[i:j] -/
def dIx : D → D → (D → Prop) → Prop := fun x y k => match x, y with
  | .tup xs, .int i => ∃ d, atI xs i = some d ∧ k d
  | .lst xs, .int i => ∃ d, atI xs i = some d ∧ k d
  | .str s, .int i => ∃ c, s.length ≤ 100000 ∧ atI s.cps.toList i = some c ∧ k (.str ⟨#[c]⟩)
  | _, _ => False
theorem IsA.atI {z : Zn} {M : AP} {H : Hp} {vs : List V} {ds : List D} {i : Int} {d : D} (h : IsA z M H vs ds) (e : L2.atI ds i = some d) : ∃ v, L2.atI vs i = some v ∧ Is z M H v d := by
  unfold L2.atI at e ⊢
  rw [h.length]
  cases q : ixN ds.length i with
  | none => rw [q] at e; cases e
  | some j =>
    rw [q] at e
    obtain ⟨v, h1, h2⟩ := h.get (i := j) e
    exact ⟨v, h1, h2⟩
theorem opd_ix {K : PySem.W.Frag} : OpD .c .e (rIx K) dIx := fun z X H0 H σ env v u x y Q k o r1 r2 c hp => by
  cases x with
  | tup xs =>
    cases y with
    | int i =>
      obtain ⟨d, hd, hk⟩ := hp
      obtain ⟨a, vs, rfl, h1, h2, _⟩ := r1.conT
      obtain ⟨w, h3, h4⟩ := h2.atI hd
      exact .inr (.inl ⟨a, vs, i, w, rfl, r2.intC, SqT.of h1, h3, c d w H (Evo.refl _ _) h4 hk⟩)
    | _ => exact (show False from hp).elim
  | lst xs =>
    cases y with
    | int i =>
      obtain ⟨d, hd, hk⟩ := hp
      obtain ⟨a, vs, rfl, h1, h2, _⟩ := r1.conL
      obtain ⟨w, h3, h4⟩ := h2.atI hd
      exact .inl ⟨a, vs, i, w, rfl, r2.intC, SqL.of h1, h3, c d w H (Evo.refl _ _) h4 hk⟩
    | _ => exact (show False from hp).elim
  | str s =>
    cases y with
    | int i =>
      obtain ⟨d, hl, hd, hk⟩ := hp
      exact .inr (.inr ⟨s, i, d, r1.strC, r2.intC, sz hl, hd, c _ _ H (Evo.refl _ _) (Is.str _) hk⟩)
    | _ => exact (show False from hp).elim
  | _ => exact (show False from hp).elim
theorem e_ix (ha : E .c C a p) (hb : E .c C b q) (hs : PlainIx b := by exact fun _ _ => rfl) : E .e C (.Subscript a b pos) (eOp dIx p q) := by
  obtain ⟨ta, a1, a2⟩ := ha
  obtain ⟨tb, b1, b2⟩ := hb
  exact ⟨_, pe_ix (r := rIx C.K) ix_seq a1 b1 hs, RE.op (by decide) opd_ix a2 b2⟩
def cutD (xs : List D) (lo hi : Option Int) : List D := (xs.drop (HT.sIx xs.length 0 lo)).take (HT.sIx xs.length xs.length hi - HT.sIx xs.length 0 lo)
theorem IsA.cut {z : Zn} {M : AP} {H : Hp} {vs : List V} {ds : List D} {lo hi : Option Int} (h : IsA z M H vs ds) : IsA z M H (cutV vs lo hi) (cutD ds lo hi) := by
  unfold cutV cutD
  rw [h.length]
  exact (h.drop _).take _
theorem cut_whole {α : Type} {xs : List α} {lo hi : Option Int} (h : HT.sIx xs.length 0 lo = 0 ∧ HT.sIx xs.length xs.length hi = xs.length) : (xs.drop (HT.sIx xs.length 0 lo)).take (HT.sIx xs.length xs.length hi - HT.sIx xs.length 0 lo) = xs := by
  rw [h.1, h.2]; simp
def dSl : D → Option Int → Option Int → (D → Prop) → Prop := fun x lo hi k => match x with
  | .tup xs => k (.tup (cutD xs lo hi))
  | .lst xs => k (.lst (cutD xs lo hi))
  | _ => False
def rSlQ (K : PySem.W.Frag) : V → Option Int → Option Int → Hp → VK → Prop := fun x lo hi H Q => rSlA K x lo hi H Q ∨ rSlL K x lo hi H Q
theorem sl_seq : SlR C (rSlQ C.K) := fun pins s σ H x v vl vu lo hi sl Q I rx hs pl pu h => h.elim (sl_tupA pins s σ H x v vl vu lo hi sl Q I rx hs pl pu) (sl_list pins s σ H x v vl vu lo hi sl Q I rx hs pl pu)
abbrev PO' := List SV → (Option Int → Prop) → Prop
def RO (t : TO) (p : PO') : Prop := ∀ (z : Zn) (X : AP) (H0 H : Hp) (σ : Sl) (env : List SV) (Q : Option Int → Hp → Prop) (k : Option Int → Prop), Ok z X H0 H σ env →
  (∀ b H', Evo z H H' → k b → Q b H') → p env k → t σ H Q
structure O (C : Cx) (e : Option Expr) (p : PO') : Prop where
  ex : ∃ t, PO C e t ∧ RO t p
def oNo : PO' := fun _ k => k none
def inK (d : D) (k : Int → Prop) : Prop := match d with
  | .int i => k i
  | _ => False
def oPart (p : PX) : PO' := fun env k => p env fun d => inK d fun i => k (some i)
theorem o_none : O C none oNo := ⟨_, po_none, fun z X H0 H σ env Q k o c hp => c none H (Evo.refl _ _) hp⟩
theorem o_some (h : E m C e p) : O C (some e) (oPart p) := by
  obtain ⟨t, h1, h2⟩ := h.toB
  refine ⟨_, po_some h1, fun z X H0 H σ env Q k o c hp => h2 z X H0 H σ env _ _ o (fun d v H1 e1 r1 hx => ?_) hp⟩
  cases d with
  | int i => exact ⟨i, Is.intI r1, c _ H1 e1 hx⟩
  | _ => exact (show False from hx).elim
def eSl (p : PX) (lo hi : PO') : PX := fun env k => p env fun x => lo env fun i => hi env fun j => dSl x i j k
theorem e_slice {lo hi : Option Expr} {pl ph : PO'} {p2 : Pos} (h : E .c C e p) (hl : O C lo pl) (hh : O C hi ph) : E .e C (.Subscript e (.Slice lo hi none p2) pos) (eSl p pl ph) := by
  obtain ⟨t, h1, h2⟩ := h
  obtain ⟨tl, l1, l2⟩ := hl
  obtain ⟨th, g1, g2⟩ := hh
  refine ⟨_, pe_slice (r := rSlQ C.K) sl_seq h1 l1 g1, fun z X H0 H σ env Q k o c hp => h2 z X H0 H σ env _ _ o (fun d v H1 e1 r1 hx => ?_) hp⟩
  refine l2 z X H0 H1 σ env _ _ (o.go e1) (fun i H2 e2 hx => ?_) hx
  refine g2 z X H0 H2 σ env _ _ ((o.go e1).go e2) (fun j H3 e3 hx => ?_) hx
  have r3 := r1.evo o (e2.trans e3) e1
  have ev := e1.trans (e2.trans e3)
  cases d with
  | tup xs =>
    obtain ⟨a, vs, rfl, q1, q2, n⟩ := r3.conT
    refine .inl ⟨a, vs, rfl, SqT.of q1, fun w => ?_, fun w q hq => ?_⟩
    · refine c _ _ H3 ev ?_ hx
      have e : cutD xs i j = xs := by
        have l := q2.length
        rw [l] at w
        exact cut_whole w
      rw [e]
      exact Is.tup q1 n q2
    · exact c _ _ _ (ev.new hq) ((Rel.newT (ev.fresh hq) hq q2.cut).fe o) hx
  | lst xs =>
    obtain ⟨a, vs, rfl, q1, q2, n⟩ := r3.conL
    exact .inr ⟨a, vs, rfl, SqL.of q1, fun q hq => c _ _ _ (ev.new hq) ((Rel.newL (ev.fresh hq) hq q2.cut).fe o) hx⟩
  | _ => exact (show False from hx).elim
end
end Pu
namespace Ew
open PySem PySem.Spec PyProof.Rows L2
section
variable {prog : Program} {w : World} {A : Around} {E : Value → Shared → Prop} {s : Shared}
/-- what max asks of the tuple of its arguments -/
def Askmax (prog : Program) (w : World) (A : Around) (Q : Value → Shared → Prop) (it : Value) (s₂ : Shared) : Prop := ∃ I fp wr n P St bt, it = .ref I ∧ Walks prog w A.in1 I fp wr n P St ∧ St 0 s₂.heap ∧ (∀ b ∈ fp, b < s₂.heap.objs.size) ∧ 0 < n ∧ CmpOf prog w A.in1 .Gt P bt ∧
  ∀ v h' tk, P (argBest bt (n - 1)) v → (∀ b o, b ∉ wr → s₂.heap.get? b = some o → h'.get? b = some o) → Q v { s₂ with heap := h', toks := tk }
theorem ask_max {xs : Array (Int × Tok)} {Q : Value → Shared → Prop} {c : Sem Value} (hh : A.handled = none) (hne : 0 < xs.size)
    (hc : wpAny (model prog w) A.in1 (pyIter (.ref s.heap.objs.size)) (Askmax prog w A Q) E { s with heap := s.heap.push { cls := .type "tuple", data := .seq (intItems xs) } } → wpAny (model prog w) A c Q E s)
    (h : ∀ h' tk M t', (∀ d o, s.heap.get? d = some o → h'.get? d = some o) → M ∈ xs.toList.map (·.1) → (∀ a, a ∈ xs.toList.map (·.1) → a ≤ M) → Q (.int M t') { s with heap := h', toks := tk }) : wpAny (model prog w) A c Q E s := by
  have hT : (s.heap.push { cls := .type "tuple", data := .seq (intItems xs) }).IsTuple s.heap.objs.size (intItems xs) := ⟨_, Heap.get?_push_size _ rfl, rfl, 0, rfl⟩
  have hsz : (s.heap.push { cls := .type "tuple", data := .seq (intItems xs) }).objs.size = s.heap.objs.size + 1 := Heap.size_push ..
  have hln : (intItems xs).size = xs.size := by simp [intItems]
  refine hc (wpAny_pyIter_tuple hT ?_)
  refine ⟨_, [_, s.heap.objs.size], [_], _, _, _, _, rfl, Walks.tuple (A := A.in1) hh _ s.heap.objs.size (by rw [hsz]; exact Nat.ne_of_lt (Nat.lt_succ_self _)) (intItems xs),
    ⟨⟨_, Heap.get?_push_size _ rfl, rfl, rfl⟩, hT.push _⟩, fun d hd => ?_, by rw [hln]; exact hne, CmpOf.ints_gt (numAt xs) (fun _ _ => intItems_at), fun v h' tk hP hk => ?_⟩
  · show d < ((s.heap.push _).push _).objs.size
    rw [Heap.size_push, hsz]
    rcases List.mem_cons.mp hd with e | hd
    · rw [e, hsz]; exact Nat.lt_succ_self _
    · rw [List.mem_singleton.mp hd]; exact Nat.lt_succ_of_lt (Nat.lt_succ_self _)
  · have hold : ∀ d o, s.heap.get? d = some o → h'.get? d = some o := fun d o e => by
      refine hk d o (fun hm => ?_) (Heap.get?_push_of_some _ (Heap.get?_push_of_some _ e))
      have := Heap.lt_size e
      rw [List.mem_singleton.mp hm, hsz] at this
      exact Nat.lt_irrefl _ (Nat.lt_of_succ_lt this)
    obtain ⟨t, rfl⟩ := intItems_at hP
    obtain ⟨h1, h2⟩ := argBest_gt (numAt xs) ((intItems xs).size - 1)
    refine h h' tk _ t hold ?_ fun a ha => ?_
    · rw [numAt_eq]; exact PySem.getD_mem (by rw [List.length_map, Array.length_toList]; omega)
    · obtain ⟨j, hj, rfl⟩ := PySem.mem_getD ha
      rw [List.length_map, Array.length_toList] at hj
      rw [← numAt_eq]; exact h2 j (by omega)
theorem args_max3 (a0 a1 a2 : Value) : argsOk "max" ⟨[a0, a1, a2], []⟩ := by unfold argsOk; kernel_rfl
theorem tree_max3 {a0 a1 a2 : Value} {Q : Value → Shared → Prop} (h : wpAny (model prog w) A.in1 (pyIter (.ref s.heap.objs.size)) (Askmax prog w A Q) E { s with heap := s.heap.push { cls := .type "tuple", data := .seq #[a0, a1, a2] } }) : wpAny (model prog w) A (call (.builtin "max") [a0, a1, a2]) Q E s := by
  have hname : (toString "max" ++ toString ".loop" : String) = "max.loop" := by decide
  refine call_function_tree F.kind_max F.plain_max F.entry_max (args_max3 _ _ _) ?_
  show wpAny _ A.in1 (Builtin.Builtins.bindParams "max" ["key", "default"] 0 ⟨[], []⟩ >>= _) _ _ s
  refine wpAny_bind (wpAny_of_eq (show Builtin.Builtins.bindParams "max" ["key", "default"] 0 ⟨[], []⟩ = pure [none, none] from rfl) ?_)
  show wpAny _ A.in1 (newTuple [a0, a1, a2] >>= _) _ _ s
  refine wpAny_bind (wpAny_newObj_type ?_)
  refine wpAny_bind (wpAny_mono h (fun it s₂ h₂ => ?_) fun _ _ e => e)
  obtain ⟨I, fp, wr, n, P, St, bt, rfl, W, hst, hfp, hn, hcmp, hQ⟩ := h₂
  refine wpAny_bind (wpAny_newObj_type ?_)
  have hSf : s₂.heap.objs.size ∉ fp := fun hm => Nat.lt_irrefl _ (hfp _ hm)
  rw [hname]
  refine wpAny_pure ⟨plainId_quiet F.plain_max_loop _, codeAny_max_loop_first W bt hcmp s₂.heap.objs.size hSf hn (W.frame _ _ _ hst fun b _ o e => Heap.get?_push_of_some _ e) (Heap.get?_push_size _ rfl) fun v h' tk hP hk => ?_⟩
  exact hQ v h' tk hP fun b o hbw e => hk b o hbw (Nat.ne_of_lt (Heap.lt_size e)) (Heap.get?_push_of_some _ e)
theorem args_max4 (a0 a1 a2 a3 : Value) : argsOk "max" ⟨[a0, a1, a2, a3], []⟩ := by unfold argsOk; kernel_rfl
theorem tree_max4 {a0 a1 a2 a3 : Value} {Q : Value → Shared → Prop} (h : wpAny (model prog w) A.in1 (pyIter (.ref s.heap.objs.size)) (Askmax prog w A Q) E { s with heap := s.heap.push { cls := .type "tuple", data := .seq #[a0, a1, a2, a3] } }) : wpAny (model prog w) A (call (.builtin "max") [a0, a1, a2, a3]) Q E s := by
  have hname : (toString "max" ++ toString ".loop" : String) = "max.loop" := by decide
  refine call_function_tree F.kind_max F.plain_max F.entry_max (args_max4 _ _ _ _) ?_
  show wpAny _ A.in1 (Builtin.Builtins.bindParams "max" ["key", "default"] 0 ⟨[], []⟩ >>= _) _ _ s
  refine wpAny_bind (wpAny_of_eq (show Builtin.Builtins.bindParams "max" ["key", "default"] 0 ⟨[], []⟩ = pure [none, none] from rfl) ?_)
  show wpAny _ A.in1 (newTuple [a0, a1, a2, a3] >>= _) _ _ s
  refine wpAny_bind (wpAny_newObj_type ?_)
  refine wpAny_bind (wpAny_mono h (fun it s₂ h₂ => ?_) fun _ _ e => e)
  obtain ⟨I, fp, wr, n, P, St, bt, rfl, W, hst, hfp, hn, hcmp, hQ⟩ := h₂
  refine wpAny_bind (wpAny_newObj_type ?_)
  have hSf : s₂.heap.objs.size ∉ fp := fun hm => Nat.lt_irrefl _ (hfp _ hm)
  rw [hname]
  refine wpAny_pure ⟨plainId_quiet F.plain_max_loop _, codeAny_max_loop_first W bt hcmp s₂.heap.objs.size hSf hn (W.frame _ _ _ hst fun b _ o e => Heap.get?_push_of_some _ e) (Heap.get?_push_size _ rfl) fun v h' tk hP hk => ?_⟩
  exact hQ v h' tk hP fun b o hbw e => hk b o hbw (Nat.ne_of_lt (Heap.lt_size e)) (Heap.get?_push_of_some _ e)
theorem args_max5 (a0 a1 a2 a3 a4 : Value) : argsOk "max" ⟨[a0, a1, a2, a3, a4], []⟩ := by unfold argsOk; kernel_rfl
theorem tree_max5 {a0 a1 a2 a3 a4 : Value} {Q : Value → Shared → Prop} (h : wpAny (model prog w) A.in1 (pyIter (.ref s.heap.objs.size)) (Askmax prog w A Q) E { s with heap := s.heap.push { cls := .type "tuple", data := .seq #[a0, a1, a2, a3, a4] } }) : wpAny (model prog w) A (call (.builtin "max") [a0, a1, a2, a3, a4]) Q E s := by
  have hname : (toString "max" ++ toString ".loop" : String) = "max.loop" := by decide
  refine call_function_tree F.kind_max F.plain_max F.entry_max (args_max5 _ _ _ _ _) ?_
  show wpAny _ A.in1 (Builtin.Builtins.bindParams "max" ["key", "default"] 0 ⟨[], []⟩ >>= _) _ _ s
  refine wpAny_bind (wpAny_of_eq (show Builtin.Builtins.bindParams "max" ["key", "default"] 0 ⟨[], []⟩ = pure [none, none] from rfl) ?_)
  show wpAny _ A.in1 (newTuple [a0, a1, a2, a3, a4] >>= _) _ _ s
  refine wpAny_bind (wpAny_newObj_type ?_)
  refine wpAny_bind (wpAny_mono h (fun it s₂ h₂ => ?_) fun _ _ e => e)
  obtain ⟨I, fp, wr, n, P, St, bt, rfl, W, hst, hfp, hn, hcmp, hQ⟩ := h₂
  refine wpAny_bind (wpAny_newObj_type ?_)
  have hSf : s₂.heap.objs.size ∉ fp := fun hm => Nat.lt_irrefl _ (hfp _ hm)
  rw [hname]
  refine wpAny_pure ⟨plainId_quiet F.plain_max_loop _, codeAny_max_loop_first W bt hcmp s₂.heap.objs.size hSf hn (W.frame _ _ _ hst fun b _ o e => Heap.get?_push_of_some _ e) (Heap.get?_push_size _ rfl) fun v h' tk hP hk => ?_⟩
  exact hQ v h' tk hP fun b o hbw e => hk b o hbw (Nat.ne_of_lt (Heap.lt_size e)) (Heap.get?_push_of_some _ e)
end
section
variable {X : Cx}
theorem call_max3 (hc : X.calm = true) : CallR X (.builtin "max") (fun xs H Q => ∃ a0 a1 a2 : Int, xs = [.int a0, .int a1, .int a2] ∧ ∀ m, (m = a0 ∨ m = a1 ∨ m = a2) → a0 ≤ m → a1 ≤ m → a2 ≤ m → Q (.int m) H) := by
  intro pins s σ H xs us Q I r h
  obtain ⟨a0, a1, a2, rfl, q⟩ := h
  cases r with | cons q0 r0 =>
  obtain ⟨t0, rfl⟩ := q0
  cases r0 with | cons q1 r1 =>
  obtain ⟨t1, rfl⟩ := q1
  cases r1 with | cons q2 r2 =>
  obtain ⟨t2, rfl⟩ := q2
  cases r2
  refine ask_max (xs := #[(a0, t0), (a1, t1), (a2, t2)]) (I.ok.hd hc) (by simp) (fun h => tree_max3 (by simpa [intItems] using h)) fun h' tk M t' hk hm hle => ⟨.int M, H, I.kept hk, ⟨_, rfl⟩, q M ?_ (hle _ (by simp)) (hle _ (by simp)) (hle _ (by simp))⟩
  · simpa using hm
theorem call_max4 (hc : X.calm = true) : CallR X (.builtin "max") (fun xs H Q => ∃ a0 a1 a2 a3 : Int, xs = [.int a0, .int a1, .int a2, .int a3] ∧ ∀ m, (m = a0 ∨ m = a1 ∨ m = a2 ∨ m = a3) → a0 ≤ m → a1 ≤ m → a2 ≤ m → a3 ≤ m → Q (.int m) H) := by
  intro pins s σ H xs us Q I r h
  obtain ⟨a0, a1, a2, a3, rfl, q⟩ := h
  cases r with | cons q0 r0 =>
  obtain ⟨t0, rfl⟩ := q0
  cases r0 with | cons q1 r1 =>
  obtain ⟨t1, rfl⟩ := q1
  cases r1 with | cons q2 r2 =>
  obtain ⟨t2, rfl⟩ := q2
  cases r2 with | cons q3 r3 =>
  obtain ⟨t3, rfl⟩ := q3
  cases r3
  refine ask_max (xs := #[(a0, t0), (a1, t1), (a2, t2), (a3, t3)]) (I.ok.hd hc) (by simp) (fun h => tree_max4 (by simpa [intItems] using h)) fun h' tk M t' hk hm hle => ⟨.int M, H, I.kept hk, ⟨_, rfl⟩, q M ?_ (hle _ (by simp)) (hle _ (by simp)) (hle _ (by simp)) (hle _ (by simp))⟩
  · simpa using hm
theorem call_max5 (hc : X.calm = true) : CallR X (.builtin "max") (fun xs H Q => ∃ a0 a1 a2 a3 a4 : Int, xs = [.int a0, .int a1, .int a2, .int a3, .int a4] ∧ ∀ m, (m = a0 ∨ m = a1 ∨ m = a2 ∨ m = a3 ∨ m = a4) → a0 ≤ m → a1 ≤ m → a2 ≤ m → a3 ≤ m → a4 ≤ m → Q (.int m) H) := by
  intro pins s σ H xs us Q I r h
  obtain ⟨a0, a1, a2, a3, a4, rfl, q⟩ := h
  cases r with | cons q0 r0 =>
  obtain ⟨t0, rfl⟩ := q0
  cases r0 with | cons q1 r1 =>
  obtain ⟨t1, rfl⟩ := q1
  cases r1 with | cons q2 r2 =>
  obtain ⟨t2, rfl⟩ := q2
  cases r2 with | cons q3 r3 =>
  obtain ⟨t3, rfl⟩ := q3
  cases r3 with | cons q4 r4 =>
  obtain ⟨t4, rfl⟩ := q4
  cases r4
  refine ask_max (xs := #[(a0, t0), (a1, t1), (a2, t2), (a3, t3), (a4, t4)]) (I.ok.hd hc) (by simp) (fun h => tree_max5 (by simpa [intItems] using h)) fun h' tk M t' hk hm hle => ⟨.int M, H, I.kept hk, ⟨_, rfl⟩, q M ?_ (hle _ (by simp)) (hle _ (by simp)) (hle _ (by simp)) (hle _ (by simp)) (hle _ (by simp))⟩
  · simpa using hm
end
section
variable {prog : Program} {w : World} {A : Around} {E : Value → Shared → Prop} {s : Shared}
/-- what min asks of the tuple of its arguments -/
def Askmin (prog : Program) (w : World) (A : Around) (Q : Value → Shared → Prop) (it : Value) (s₂ : Shared) : Prop := ∃ I fp wr n P St bt, it = .ref I ∧ Walks prog w A.in1 I fp wr n P St ∧ St 0 s₂.heap ∧ (∀ b ∈ fp, b < s₂.heap.objs.size) ∧ 0 < n ∧ CmpOf prog w A.in1 .Lt P bt ∧
  ∀ v h' tk, P (argBest bt (n - 1)) v → (∀ b o, b ∉ wr → s₂.heap.get? b = some o → h'.get? b = some o) → Q v { s₂ with heap := h', toks := tk }
theorem ask_min {xs : Array (Int × Tok)} {Q : Value → Shared → Prop} {c : Sem Value} (hh : A.handled = none) (hne : 0 < xs.size)
    (hc : wpAny (model prog w) A.in1 (pyIter (.ref s.heap.objs.size)) (Askmin prog w A Q) E { s with heap := s.heap.push { cls := .type "tuple", data := .seq (intItems xs) } } → wpAny (model prog w) A c Q E s)
    (h : ∀ h' tk M t', (∀ d o, s.heap.get? d = some o → h'.get? d = some o) → M ∈ xs.toList.map (·.1) → (∀ a, a ∈ xs.toList.map (·.1) → M ≤ a) → Q (.int M t') { s with heap := h', toks := tk }) : wpAny (model prog w) A c Q E s := by
  have hT : (s.heap.push { cls := .type "tuple", data := .seq (intItems xs) }).IsTuple s.heap.objs.size (intItems xs) := ⟨_, Heap.get?_push_size _ rfl, rfl, 0, rfl⟩
  have hsz : (s.heap.push { cls := .type "tuple", data := .seq (intItems xs) }).objs.size = s.heap.objs.size + 1 := Heap.size_push ..
  have hln : (intItems xs).size = xs.size := by simp [intItems]
  refine hc (wpAny_pyIter_tuple hT ?_)
  refine ⟨_, [_, s.heap.objs.size], [_], _, _, _, _, rfl, Walks.tuple (A := A.in1) hh _ s.heap.objs.size (by rw [hsz]; exact Nat.ne_of_lt (Nat.lt_succ_self _)) (intItems xs),
    ⟨⟨_, Heap.get?_push_size _ rfl, rfl, rfl⟩, hT.push _⟩, fun d hd => ?_, by rw [hln]; exact hne, CmpOf.ints_lt (numAt xs) (fun _ _ => intItems_at), fun v h' tk hP hk => ?_⟩
  · show d < ((s.heap.push _).push _).objs.size
    rw [Heap.size_push, hsz]
    rcases List.mem_cons.mp hd with e | hd
    · rw [e, hsz]; exact Nat.lt_succ_self _
    · rw [List.mem_singleton.mp hd]; exact Nat.lt_succ_of_lt (Nat.lt_succ_self _)
  · have hold : ∀ d o, s.heap.get? d = some o → h'.get? d = some o := fun d o e => by
      refine hk d o (fun hm => ?_) (Heap.get?_push_of_some _ (Heap.get?_push_of_some _ e))
      have := Heap.lt_size e
      rw [List.mem_singleton.mp hm, hsz] at this
      exact Nat.lt_irrefl _ (Nat.lt_of_succ_lt this)
    obtain ⟨t, rfl⟩ := intItems_at hP
    obtain ⟨h1, h2⟩ := argBest_lt (numAt xs) ((intItems xs).size - 1)
    refine h h' tk _ t hold ?_ fun a ha => ?_
    · rw [numAt_eq]; exact PySem.getD_mem (by rw [List.length_map, Array.length_toList]; omega)
    · obtain ⟨j, hj, rfl⟩ := PySem.mem_getD ha
      rw [List.length_map, Array.length_toList] at hj
      rw [← numAt_eq]; exact h2 j (by omega)
theorem args_min3 (a0 a1 a2 : Value) : argsOk "min" ⟨[a0, a1, a2], []⟩ := by unfold argsOk; kernel_rfl
theorem tree_min3 {a0 a1 a2 : Value} {Q : Value → Shared → Prop} (h : wpAny (model prog w) A.in1 (pyIter (.ref s.heap.objs.size)) (Askmin prog w A Q) E { s with heap := s.heap.push { cls := .type "tuple", data := .seq #[a0, a1, a2] } }) : wpAny (model prog w) A (call (.builtin "min") [a0, a1, a2]) Q E s := by
  have hname : (toString "min" ++ toString ".loop" : String) = "min.loop" := by decide
  refine call_function_tree F.kind_min F.plain_min F.entry_min (args_min3 _ _ _) ?_
  show wpAny _ A.in1 (Builtin.Builtins.bindParams "min" ["key", "default"] 0 ⟨[], []⟩ >>= _) _ _ s
  refine wpAny_bind (wpAny_of_eq (show Builtin.Builtins.bindParams "min" ["key", "default"] 0 ⟨[], []⟩ = pure [none, none] from rfl) ?_)
  show wpAny _ A.in1 (newTuple [a0, a1, a2] >>= _) _ _ s
  refine wpAny_bind (wpAny_newObj_type ?_)
  refine wpAny_bind (wpAny_mono h (fun it s₂ h₂ => ?_) fun _ _ e => e)
  obtain ⟨I, fp, wr, n, P, St, bt, rfl, W, hst, hfp, hn, hcmp, hQ⟩ := h₂
  refine wpAny_bind (wpAny_newObj_type ?_)
  have hSf : s₂.heap.objs.size ∉ fp := fun hm => Nat.lt_irrefl _ (hfp _ hm)
  rw [hname]
  refine wpAny_pure ⟨plainId_quiet F.plain_min_loop _, codeAny_min_loop_first W bt hcmp s₂.heap.objs.size hSf hn (W.frame _ _ _ hst fun b _ o e => Heap.get?_push_of_some _ e) (Heap.get?_push_size _ rfl) fun v h' tk hP hk => ?_⟩
  exact hQ v h' tk hP fun b o hbw e => hk b o hbw (Nat.ne_of_lt (Heap.lt_size e)) (Heap.get?_push_of_some _ e)
theorem args_min4 (a0 a1 a2 a3 : Value) : argsOk "min" ⟨[a0, a1, a2, a3], []⟩ := by unfold argsOk; kernel_rfl
theorem tree_min4 {a0 a1 a2 a3 : Value} {Q : Value → Shared → Prop} (h : wpAny (model prog w) A.in1 (pyIter (.ref s.heap.objs.size)) (Askmin prog w A Q) E { s with heap := s.heap.push { cls := .type "tuple", data := .seq #[a0, a1, a2, a3] } }) : wpAny (model prog w) A (call (.builtin "min") [a0, a1, a2, a3]) Q E s := by
  have hname : (toString "min" ++ toString ".loop" : String) = "min.loop" := by decide
  refine call_function_tree F.kind_min F.plain_min F.entry_min (args_min4 _ _ _ _) ?_
  show wpAny _ A.in1 (Builtin.Builtins.bindParams "min" ["key", "default"] 0 ⟨[], []⟩ >>= _) _ _ s
  refine wpAny_bind (wpAny_of_eq (show Builtin.Builtins.bindParams "min" ["key", "default"] 0 ⟨[], []⟩ = pure [none, none] from rfl) ?_)
  show wpAny _ A.in1 (newTuple [a0, a1, a2, a3] >>= _) _ _ s
  refine wpAny_bind (wpAny_newObj_type ?_)
  refine wpAny_bind (wpAny_mono h (fun it s₂ h₂ => ?_) fun _ _ e => e)
  obtain ⟨I, fp, wr, n, P, St, bt, rfl, W, hst, hfp, hn, hcmp, hQ⟩ := h₂
  refine wpAny_bind (wpAny_newObj_type ?_)
  have hSf : s₂.heap.objs.size ∉ fp := fun hm => Nat.lt_irrefl _ (hfp _ hm)
  rw [hname]
  refine wpAny_pure ⟨plainId_quiet F.plain_min_loop _, codeAny_min_loop_first W bt hcmp s₂.heap.objs.size hSf hn (W.frame _ _ _ hst fun b _ o e => Heap.get?_push_of_some _ e) (Heap.get?_push_size _ rfl) fun v h' tk hP hk => ?_⟩
  exact hQ v h' tk hP fun b o hbw e => hk b o hbw (Nat.ne_of_lt (Heap.lt_size e)) (Heap.get?_push_of_some _ e)
theorem args_min5 (a0 a1 a2 a3 a4 : Value) : argsOk "min" ⟨[a0, a1, a2, a3, a4], []⟩ := by unfold argsOk; kernel_rfl
theorem tree_min5 {a0 a1 a2 a3 a4 : Value} {Q : Value → Shared → Prop} (h : wpAny (model prog w) A.in1 (pyIter (.ref s.heap.objs.size)) (Askmin prog w A Q) E { s with heap := s.heap.push { cls := .type "tuple", data := .seq #[a0, a1, a2, a3, a4] } }) : wpAny (model prog w) A (call (.builtin "min") [a0, a1, a2, a3, a4]) Q E s := by
  have hname : (toString "min" ++ toString ".loop" : String) = "min.loop" := by decide
  refine call_function_tree F.kind_min F.plain_min F.entry_min (args_min5 _ _ _ _ _) ?_
  show wpAny _ A.in1 (Builtin.Builtins.bindParams "min" ["key", "default"] 0 ⟨[], []⟩ >>= _) _ _ s
  refine wpAny_bind (wpAny_of_eq (show Builtin.Builtins.bindParams "min" ["key", "default"] 0 ⟨[], []⟩ = pure [none, none] from rfl) ?_)
  show wpAny _ A.in1 (newTuple [a0, a1, a2, a3, a4] >>= _) _ _ s
  refine wpAny_bind (wpAny_newObj_type ?_)
  refine wpAny_bind (wpAny_mono h (fun it s₂ h₂ => ?_) fun _ _ e => e)
  obtain ⟨I, fp, wr, n, P, St, bt, rfl, W, hst, hfp, hn, hcmp, hQ⟩ := h₂
  refine wpAny_bind (wpAny_newObj_type ?_)
  have hSf : s₂.heap.objs.size ∉ fp := fun hm => Nat.lt_irrefl _ (hfp _ hm)
  rw [hname]
  refine wpAny_pure ⟨plainId_quiet F.plain_min_loop _, codeAny_min_loop_first W bt hcmp s₂.heap.objs.size hSf hn (W.frame _ _ _ hst fun b _ o e => Heap.get?_push_of_some _ e) (Heap.get?_push_size _ rfl) fun v h' tk hP hk => ?_⟩
  exact hQ v h' tk hP fun b o hbw e => hk b o hbw (Nat.ne_of_lt (Heap.lt_size e)) (Heap.get?_push_of_some _ e)
end
section
variable {X : Cx}
theorem call_min3 (hc : X.calm = true) : CallR X (.builtin "min") (fun xs H Q => ∃ a0 a1 a2 : Int, xs = [.int a0, .int a1, .int a2] ∧ ∀ m, (m = a0 ∨ m = a1 ∨ m = a2) → m ≤ a0 → m ≤ a1 → m ≤ a2 → Q (.int m) H) := by
  intro pins s σ H xs us Q I r h
  obtain ⟨a0, a1, a2, rfl, q⟩ := h
  cases r with | cons q0 r0 =>
  obtain ⟨t0, rfl⟩ := q0
  cases r0 with | cons q1 r1 =>
  obtain ⟨t1, rfl⟩ := q1
  cases r1 with | cons q2 r2 =>
  obtain ⟨t2, rfl⟩ := q2
  cases r2
  refine ask_min (xs := #[(a0, t0), (a1, t1), (a2, t2)]) (I.ok.hd hc) (by simp) (fun h => tree_min3 (by simpa [intItems] using h)) fun h' tk M t' hk hm hle => ⟨.int M, H, I.kept hk, ⟨_, rfl⟩, q M ?_ (hle _ (by simp)) (hle _ (by simp)) (hle _ (by simp))⟩
  · simpa using hm
theorem call_min4 (hc : X.calm = true) : CallR X (.builtin "min") (fun xs H Q => ∃ a0 a1 a2 a3 : Int, xs = [.int a0, .int a1, .int a2, .int a3] ∧ ∀ m, (m = a0 ∨ m = a1 ∨ m = a2 ∨ m = a3) → m ≤ a0 → m ≤ a1 → m ≤ a2 → m ≤ a3 → Q (.int m) H) := by
  intro pins s σ H xs us Q I r h
  obtain ⟨a0, a1, a2, a3, rfl, q⟩ := h
  cases r with | cons q0 r0 =>
  obtain ⟨t0, rfl⟩ := q0
  cases r0 with | cons q1 r1 =>
  obtain ⟨t1, rfl⟩ := q1
  cases r1 with | cons q2 r2 =>
  obtain ⟨t2, rfl⟩ := q2
  cases r2 with | cons q3 r3 =>
  obtain ⟨t3, rfl⟩ := q3
  cases r3
  refine ask_min (xs := #[(a0, t0), (a1, t1), (a2, t2), (a3, t3)]) (I.ok.hd hc) (by simp) (fun h => tree_min4 (by simpa [intItems] using h)) fun h' tk M t' hk hm hle => ⟨.int M, H, I.kept hk, ⟨_, rfl⟩, q M ?_ (hle _ (by simp)) (hle _ (by simp)) (hle _ (by simp)) (hle _ (by simp))⟩
  · simpa using hm
theorem call_min5 (hc : X.calm = true) : CallR X (.builtin "min") (fun xs H Q => ∃ a0 a1 a2 a3 a4 : Int, xs = [.int a0, .int a1, .int a2, .int a3, .int a4] ∧ ∀ m, (m = a0 ∨ m = a1 ∨ m = a2 ∨ m = a3 ∨ m = a4) → m ≤ a0 → m ≤ a1 → m ≤ a2 → m ≤ a3 → m ≤ a4 → Q (.int m) H) := by
  intro pins s σ H xs us Q I r h
  obtain ⟨a0, a1, a2, a3, a4, rfl, q⟩ := h
  cases r with | cons q0 r0 =>
  obtain ⟨t0, rfl⟩ := q0
  cases r0 with | cons q1 r1 =>
  obtain ⟨t1, rfl⟩ := q1
  cases r1 with | cons q2 r2 =>
  obtain ⟨t2, rfl⟩ := q2
  cases r2 with | cons q3 r3 =>
  obtain ⟨t3, rfl⟩ := q3
  cases r3 with | cons q4 r4 =>
  obtain ⟨t4, rfl⟩ := q4
  cases r4
  refine ask_min (xs := #[(a0, t0), (a1, t1), (a2, t2), (a3, t3), (a4, t4)]) (I.ok.hd hc) (by simp) (fun h => tree_min5 (by simpa [intItems] using h)) fun h' tk M t' hk hm hle => ⟨.int M, H, I.kept hk, ⟨_, rfl⟩, q M ?_ (hle _ (by simp)) (hle _ (by simp)) (hle _ (by simp)) (hle _ (by simp)) (hle _ (by simp))⟩
  · simpa using hm
end
end Ew
namespace Pu
open PySem PySem.Spec PyProof.Rows L2
variable [Tbs]
/-! ### calls of built-ins -/
def CallD (l : Bool) (mo : Mode) (r : List V → Hp → VK → Prop) (g : List D → (D → Prop) → Prop) : Prop := ∀ (z : Zn) (X : AP) (H0 H : Hp) (σ : Sl) (env : List SV) (vs : List V) (ds : List D) (Q : VK) (k : D → Prop), Ok z X H0 H σ env →
  IsA z (if l = true then Ms z X σ env else Zx z X) H vs ds → (∀ d w H', Evo z H H' → Rel mo z X H H' σ env w d → k d → Q w H') → g ds k → r vs H Q
def eCall (g : List D → (D → Prop) → Prop) (a : PAs) : PX := fun env k => a env fun ds => g ds k
section
variable {C : Cx} {e a b : Expr} {es : List Expr} {p q : PX} {ga : PAs} {m mo : Mode} {l : Bool} {pos pp : Pos} {x : Str} {id ty : String} {r : List V → Hp → VK → Prop} {g : List D → (D → Prop) → Prop}
theorem RE.cB {t : TA} (hd : CallD l mo r g) (h : RA l t ga) : RE mo (tCB r t) (eCall g ga) := fun z X H0 H σ env Q k o c hp =>
  h z X H0 H σ env _ _ o (fun ds vs H1 e1 r1 hx => hd z X H0 H1 σ env vs ds Q k (o.go e1) r1 (fun d w H2 e2 r2 kd => c d w H2 (e1.trans e2) (r2.early e1) kd) hx) hp
theorem e_callB (hc : CallR C (.builtin id) r) (hd : CallD l mo r g) (hg : Gl C x) (hm : C.mg x = none) (hv : bootBuiltins x = some (.builtin id)) (ha : A l C (e :: es) ga) (hn : x ≠ "__name__" := by decide) (hdb : (x == ("__debug__" : Str)) = false := by decide)
    (he : starEach (e :: es) C.env = (false, eval e C.env) :: starEach es C.env := by rfl) (hpl : (backTo pos (starEach es C.env)).any (·.1) = false := by rfl) : E mo C (.Call (.Name x pp) (e :: es) [] pos) (eCall g ga) := by
  obtain ⟨t, h1, h2⟩ := ha
  exact ⟨_, pe_callB hc hg hm hv h1 hn hdb he hpl, RE.cB hd h2⟩
theorem e_callTy (hc : CallR C (.type ty) r) (hd : CallD l mo r g) (hg : Gl C x) (hm : C.mg x = none) (hv : bootBuiltins x = some (.type ty)) (ha : A l C (e :: es) ga) (hn : x ≠ "__name__" := by decide) (hdb : (x == ("__debug__" : Str)) = false := by decide)
    (he : starEach (e :: es) C.env = (false, eval e C.env) :: starEach es C.env := by rfl) (hpl : (backTo pos (starEach es C.env)).any (·.1) = false := by rfl) : E mo C (.Call (.Name x pp) (e :: es) [] pos) (eCall g ga) := by
  obtain ⟨t, h1, h2⟩ := ha
  exact ⟨_, pe_callTy hc hg hm hv h1 hn hdb he hpl, RE.cB hd h2⟩
end
def gAbs : List D → (D → Prop) → Prop := fun ds k => match ds with
  | [.int i] => k (.int (if i < 0 then -i else i))
  | _ => False
theorem IsA.one {z : Zn} {M : AP} {H : Hp} {vs : List V} {d : D} (h : IsA z M H vs [d]) : ∃ v, vs = [v] ∧ Is z M H v d := by
  cases h with
  | cons q t => cases t; exact ⟨_, rfl, q⟩
theorem IsA.two {z : Zn} {M : AP} {H : Hp} {vs : List V} {d d' : D} (h : IsA z M H vs [d, d']) : ∃ v v', vs = [v, v'] ∧ Is z M H v d ∧ Is z M H v' d' := by
  cases h with
  | cons q t => obtain ⟨v', rfl, h⟩ := IsA.one t; exact ⟨_, _, rfl, q, h⟩
theorem cd_abs {l : Bool} : CallD l .e (fun xs H Q => ∃ i, xs = [.int i] ∧ Q (.int (if i < 0 then -i else i)) H) gAbs := fun z X H0 H σ env vs ds Q k o h c hp => by
  unfold gAbs at hp
  split at hp
  · rename_i i
    obtain ⟨v, rfl, hv⟩ := h.one
    cases hv
    exact ⟨i, rfl, c _ _ H (Evo.refl _ _) (Is.int _) hp⟩
  · exact hp.elim
/-- the greatest, the least of some numbers -/
def maxI : List Int → Int
  | [] => 0
  | [a] => a
  | a :: b :: r => max a (maxI (b :: r))
def minI : List Int → Int
  | [] => 0
  | [a] => a
  | a :: b :: r => min a (minI (b :: r))
theorem maxI_le : ∀ {ns : List Int} {n : Int}, n ∈ ns → n ≤ maxI ns
  | [a], n, h => by simp at h; subst h; exact Int.le_refl _
  | a :: b :: r, n, h => by
    show n ≤ max a (maxI (b :: r))
    rcases List.mem_cons.mp h with rfl | h
    · exact Int.le_max_left ..
    · exact Int.le_trans (maxI_le h) (Int.le_max_right ..)
theorem maxI_mem : ∀ {ns : List Int}, ns ≠ [] → maxI ns ∈ ns
  | [], h => absurd rfl h
  | [a], _ => List.mem_singleton.mpr rfl
  | a :: b :: r, _ => by
    show max a (maxI (b :: r)) ∈ _
    have q := maxI_mem (ns := b :: r) (by simp)
    rcases Int.le_total a (maxI (b :: r)) with h | h
    · rw [Int.max_eq_right h]; exact List.mem_cons_of_mem _ q
    · rw [Int.max_eq_left h]; exact List.mem_cons_self
theorem minI_le : ∀ {ns : List Int} {n : Int}, n ∈ ns → minI ns ≤ n
  | [a], n, h => by simp at h; subst h; exact Int.le_refl _
  | a :: b :: r, n, h => by
    show min a (minI (b :: r)) ≤ n
    rcases List.mem_cons.mp h with rfl | h
    · exact Int.min_le_left ..
    · exact Int.le_trans (Int.min_le_right ..) (minI_le h)
theorem minI_mem : ∀ {ns : List Int}, ns ≠ [] → minI ns ∈ ns
  | [], h => absurd rfl h
  | [a], _ => List.mem_singleton.mpr rfl
  | a :: b :: r, _ => by
    show min a (minI (b :: r)) ∈ _
    have q := minI_mem (ns := b :: r) (by simp)
    rcases Int.le_total a (minI (b :: r)) with h | h
    · rw [Int.min_eq_left h]; exact List.mem_cons_self
    · rw [Int.min_eq_right h]; exact List.mem_cons_of_mem _ q
theorem maxI_eq {ns : List Int} {m : Int} (h : m ∈ ns) (u : ∀ y ∈ ns, y ≤ m) : m = maxI ns := Int.le_antisymm (maxI_le h) (u _ (maxI_mem (List.ne_nil_of_mem h)))
theorem minI_eq {ns : List Int} {m : Int} (h : m ∈ ns) (u : ∀ y ∈ ns, m ≤ y) : m = minI ns := Int.le_antisymm (u _ (minI_mem (List.ne_nil_of_mem h))) (minI_le h)
def gMaxN : List D → (D → Prop) → Prop := fun ds k => match ds with
  | [.int a, .int b] => k (.int (max a b))
  | [.int a, .int b, .int c] => k (.int (max a (max b c)))
  | [.int a, .int b, .int c, .int d] => k (.int (max a (max b (max c d))))
  | [.int a, .int b, .int c, .int d, .int e] => k (.int (max a (max b (max c (max d e)))))
  | _ => False
def gMinN : List D → (D → Prop) → Prop := fun ds k => match ds with
  | [.int a, .int b] => k (.int (min a b))
  | [.int a, .int b, .int c] => k (.int (min a (min b c)))
  | [.int a, .int b, .int c, .int d] => k (.int (min a (min b (min c d))))
  | [.int a, .int b, .int c, .int d, .int e] => k (.int (min a (min b (min c (min d e)))))
  | _ => False
def rMaxN : List V → Hp → VK → Prop := fun xs H Q => (∃ i j, xs = [.int i, .int j] ∧ Q (.int (if j > i then j else i)) H) ∨
  (∃ a0 a1 a2 : Int, xs = [.int a0, .int a1, .int a2] ∧ ∀ m, (m = a0 ∨ m = a1 ∨ m = a2) → a0 ≤ m → a1 ≤ m → a2 ≤ m → Q (.int m) H) ∨
  (∃ a0 a1 a2 a3 : Int, xs = [.int a0, .int a1, .int a2, .int a3] ∧ ∀ m, (m = a0 ∨ m = a1 ∨ m = a2 ∨ m = a3) → a0 ≤ m → a1 ≤ m → a2 ≤ m → a3 ≤ m → Q (.int m) H) ∨
  (∃ a0 a1 a2 a3 a4 : Int, xs = [.int a0, .int a1, .int a2, .int a3, .int a4] ∧ ∀ m, (m = a0 ∨ m = a1 ∨ m = a2 ∨ m = a3 ∨ m = a4) → a0 ≤ m → a1 ≤ m → a2 ≤ m → a3 ≤ m → a4 ≤ m → Q (.int m) H)
def rMinN : List V → Hp → VK → Prop := fun xs H Q => (∃ i j, xs = [.int i, .int j] ∧ Q (.int (if j < i then j else i)) H) ∨
  (∃ a0 a1 a2 : Int, xs = [.int a0, .int a1, .int a2] ∧ ∀ m, (m = a0 ∨ m = a1 ∨ m = a2) → m ≤ a0 → m ≤ a1 → m ≤ a2 → Q (.int m) H) ∨
  (∃ a0 a1 a2 a3 : Int, xs = [.int a0, .int a1, .int a2, .int a3] ∧ ∀ m, (m = a0 ∨ m = a1 ∨ m = a2 ∨ m = a3) → m ≤ a0 → m ≤ a1 → m ≤ a2 → m ≤ a3 → Q (.int m) H) ∨
  (∃ a0 a1 a2 a3 a4 : Int, xs = [.int a0, .int a1, .int a2, .int a3, .int a4] ∧ ∀ m, (m = a0 ∨ m = a1 ∨ m = a2 ∨ m = a3 ∨ m = a4) → m ≤ a0 → m ≤ a1 → m ≤ a2 → m ≤ a3 → m ≤ a4 → Q (.int m) H)
theorem callr_or {C : Cx} {f : Value} {r r' : List V → Hp → VK → Prop} (h : CallR C f r) (h' : CallR C f r') : CallR C f (fun xs H Q => r xs H Q ∨ r' xs H Q) := fun pins s σ H xs us Q I rx q => q.elim (h pins s σ H xs us Q I rx) (h' pins s σ H xs us Q I rx)
theorem call_maxN {C : Cx} (hc : C.calm = true) : CallR C (.builtin "max") rMaxN := callr_or (call_max2 hc) (callr_or (Ew.call_max3 hc) (callr_or (Ew.call_max4 hc) (Ew.call_max5 hc)))
theorem call_minN {C : Cx} (hc : C.calm = true) : CallR C (.builtin "min") rMinN := callr_or (call_min2 hc) (callr_or (Ew.call_min3 hc) (callr_or (Ew.call_min4 hc) (Ew.call_min5 hc)))
theorem cd_maxN {l : Bool} : CallD l .e rMaxN gMaxN := fun z X H0 H σ env vs ds Q k o h c hp => by
  unfold gMaxN at hp
  split at hp
  · cases IsA.ints (ns := [_, _]) h
    refine .inl ⟨_, _, rfl, c _ _ H (Evo.refl _ _) ?_ hp⟩
    have : ∀ a b : Int, (if b > a then b else a) = max a b := fun a b => by split <;> omega
    rw [this]
    exact Is.int _
  · cases IsA.ints (ns := [_, _, _]) h
    refine .inr (.inl ⟨_, _, _, rfl, fun m h1 h2 h3 h4 => c (.int m) _ H (Evo.refl _ _) (Is.int m) ?_⟩)
    rename_i a b d
    have : max a (max b d) = m := by omega
    rw [← this]; exact hp
  · cases IsA.ints (ns := [_, _, _, _]) h
    refine .inr (.inr (.inl ⟨_, _, _, _, rfl, fun m h1 h2 h3 h4 h5 => c (.int m) _ H (Evo.refl _ _) (Is.int m) ?_⟩))
    rename_i a b d e
    have : max a (max b (max d e)) = m := by omega
    rw [← this]; exact hp
  · cases IsA.ints (ns := [_, _, _, _, _]) h
    refine .inr (.inr (.inr ⟨_, _, _, _, _, rfl, fun m h1 h2 h3 h4 h5 h6 => c (.int m) _ H (Evo.refl _ _) (Is.int m) ?_⟩))
    rename_i a b d e f
    have : max a (max b (max d (max e f))) = m := by omega
    rw [← this]; exact hp
  · exact hp.elim
theorem cd_minN {l : Bool} : CallD l .e rMinN gMinN := fun z X H0 H σ env vs ds Q k o h c hp => by
  unfold gMinN at hp
  split at hp
  · cases IsA.ints (ns := [_, _]) h
    refine .inl ⟨_, _, rfl, c _ _ H (Evo.refl _ _) ?_ hp⟩
    have : ∀ a b : Int, (if b < a then b else a) = min a b := fun a b => by split <;> omega
    rw [this]
    exact Is.int _
  · cases IsA.ints (ns := [_, _, _]) h
    refine .inr (.inl ⟨_, _, _, rfl, fun m h1 h2 h3 h4 => c (.int m) _ H (Evo.refl _ _) (Is.int m) ?_⟩)
    rename_i a b d
    have : min a (min b d) = m := by omega
    rw [← this]; exact hp
  · cases IsA.ints (ns := [_, _, _, _]) h
    refine .inr (.inr (.inl ⟨_, _, _, _, rfl, fun m h1 h2 h3 h4 h5 => c (.int m) _ H (Evo.refl _ _) (Is.int m) ?_⟩))
    rename_i a b d e
    have : min a (min b (min d e)) = m := by omega
    rw [← this]; exact hp
  · cases IsA.ints (ns := [_, _, _, _, _]) h
    refine .inr (.inr (.inr ⟨_, _, _, _, _, rfl, fun m h1 h2 h3 h4 h5 h6 => c (.int m) _ H (Evo.refl _ _) (Is.int m) ?_⟩))
    rename_i a b d e f
    have : min a (min b (min d (min e f))) = m := by omega
    rw [← this]; exact hp
  · exact hp.elim
/-- of a list of numbers -/
def gMaxL : List D → (D → Prop) → Prop := fun ds k => ∃ xs ns, ds = [.lst xs] ∧ intsD xs = some ns ∧ ns ≠ [] ∧ k (.int (maxI ns))
def gMinL : List D → (D → Prop) → Prop := fun ds k => ∃ xs ns, ds = [.lst xs] ∧ intsD xs = some ns ∧ ns ≠ [] ∧ k (.int (minI ns))
def gSum : List D → (D → Prop) → Prop := fun ds k => ∃ xs ns, ds = [.lst xs] ∧ intsD xs = some ns ∧ k (.int ns.sum)
theorem one_ints {z : Zn} {M : AP} {H : Hp} {vs : List V} {xs : List D} {ns : List Int} (h : IsA z M H vs [.lst xs]) (hi : intsD xs = some ns) : ∃ a, vs = [.ref a] ∧ H a = some (.lst (ns.map V.int)) := by
  obtain ⟨v, rfl, hv⟩ := h.one
  cases intsD_eq hi
  cases hv with
  | lst e n r => exact ⟨_, rfl, by rw [← r.ints]; exact e⟩
theorem cd_maxL {l : Bool} {K : PySem.W.Frag} : CallD l .e (rMax K) gMaxL := fun z X H0 H σ env vs ds Q k o h c hp => by
  obtain ⟨xs, ns, rfl, hi, hne, hk⟩ := hp
  obtain ⟨a, rfl, ha⟩ := one_ints h hi
  refine ⟨a, ns, rfl, SqL.of ha, List.length_pos_iff.mpr hne, fun m h1 h2 => ?_⟩
  rw [maxI_eq h1 h2]
  exact c _ _ H (Evo.refl _ _) (Is.int _) hk
theorem cd_minL {l : Bool} {K : PySem.W.Frag} : CallD l .e (rMin K) gMinL := fun z X H0 H σ env vs ds Q k o h c hp => by
  obtain ⟨xs, ns, rfl, hi, hne, hk⟩ := hp
  obtain ⟨a, rfl, ha⟩ := one_ints h hi
  refine ⟨a, ns, rfl, SqL.of ha, List.length_pos_iff.mpr hne, fun m h1 h2 => ?_⟩
  rw [minI_eq h1 h2]
  exact c _ _ H (Evo.refl _ _) (Is.int _) hk
theorem cd_sum {l : Bool} {K : PySem.W.Frag} : CallD l .e (rSum K) gSum := fun z X H0 H σ env vs ds Q k o h c hp => by
  obtain ⟨xs, ns, rfl, hi, hk⟩ := hp
  obtain ⟨a, rfl, ha⟩ := one_ints h hi
  exact ⟨a, ns, rfl, SqL.of ha, c _ _ H (Evo.refl _ _) (Is.int _) hk⟩
/-- len -/
def gLen : List D → (D → Prop) → Prop := fun ds k => match ds with
  | [.tup xs] => k (.int xs.length)
  | [.lst xs] => k (.int xs.length)
  | [.str s] => s.length ≤ 100000 ∧ k (.int s.length)
  | _ => False
def rLenA (K : PySem.W.Frag) : List V → Hp → VK → Prop := fun xs H Q => (∃ p ys, xs = [.ref p] ∧ (SqL K H p ys ∨ SqT K H p ys) ∧ Q (.int ys.length) H) ∨ (∃ z, xs = [.str z] ∧ z.length ≤ sizeLine ∧ Q (.int z.length) H)
theorem call_lenA {C : Cx} : CallR C (.builtin "len") (rLenA C.K) := callr_or call_len_seq call_len_str
theorem cd_len {l : Bool} {K : PySem.W.Frag} : CallD l .e (rLenA K) gLen := fun z X H0 H σ env vs ds Q k o h c hp => by
  unfold gLen at hp
  split at hp
  · obtain ⟨v, rfl, hv⟩ := h.one
    cases hv with
    | tup e n r => exact .inl ⟨_, _, rfl, .inr (SqT.of e), by rw [r.length]; exact c _ _ H (Evo.refl _ _) (Is.int _) hp⟩
  · obtain ⟨v, rfl, hv⟩ := h.one
    cases hv with
    | lst e n r => exact .inl ⟨_, _, rfl, .inl (SqL.of e), by rw [r.length]; exact c _ _ H (Evo.refl _ _) (Is.int _) hp⟩
  · obtain ⟨v, rfl, hv⟩ := h.one
    cases hv
    exact .inr ⟨_, rfl, sz hp.1, c _ _ H (Evo.refl _ _) (Is.int _) hp.2⟩
  · exact hp.elim
/-- int of a truth or a number -/
def gInt : List D → (D → Prop) → Prop := fun ds k => match ds with
  | [.int i] => k (.int i)
  | [.bl b] => k (.int (if b then 1 else 0))
  | _ => False
theorem cd_int {l : Bool} : CallD l .e (fun xs H Q => (∃ i, xs = [.int i] ∧ Q (.int i) H) ∨ ∃ k, xs = [.bl k] ∧ Q (.int (if k then 1 else 0)) H) gInt := fun z X H0 H σ env vs ds Q k o h c hp => by
  unfold gInt at hp
  split at hp
  · obtain ⟨v, rfl, hv⟩ := h.one
    cases hv
    exact .inl ⟨_, rfl, c _ _ H (Evo.refl _ _) (Is.int _) hp⟩
  · obtain ⟨v, rfl, hv⟩ := h.one
    cases hv
    exact .inr ⟨_, rfl, c _ _ H (Evo.refl _ _) (Is.int _) hp⟩
  · exact hp.elim
/-- isinstance -/
def tyD : D → Option String
  | .non => some "NoneType"
  | .bl _ => some "bool"
  | .int _ => some "int"
  | .str _ => some "str"
  | .tup _ => some "tuple"
  | .lst _ => some "list"
  | .dic _ => some "dict"
  | _ => none
def isB : String → String → Option Bool
  | "int", "int" => some true
  | "bool", "int" => some true
  | "bool", "bool" => some true
  | "str", "str" => some true
  | "tuple", "tuple" => some true
  | "list", "list" => some true
  | "dict", "dict" => some true
  | "NoneType", "int" => some false
  | "NoneType", "bool" => some false
  | "NoneType", "str" => some false
  | "NoneType", "tuple" => some false
  | "NoneType", "list" => some false
  | "NoneType", "dict" => some false
  | "bool", "str" => some false
  | "bool", "tuple" => some false
  | "bool", "list" => some false
  | "bool", "dict" => some false
  | "int", "bool" => some false
  | "int", "str" => some false
  | "int", "tuple" => some false
  | "int", "list" => some false
  | "int", "dict" => some false
  | "str", "int" => some false
  | "str", "bool" => some false
  | "str", "tuple" => some false
  | "str", "list" => some false
  | "str", "dict" => some false
  | "tuple", "int" => some false
  | "tuple", "bool" => some false
  | "tuple", "str" => some false
  | "tuple", "list" => some false
  | "tuple", "dict" => some false
  | "list", "int" => some false
  | "list", "bool" => some false
  | "list", "str" => some false
  | "list", "tuple" => some false
  | "list", "dict" => some false
  | "dict", "int" => some false
  | "dict", "bool" => some false
  | "dict", "str" => some false
  | "dict", "tuple" => some false
  | "dict", "list" => some false
  | _, _ => none
theorem isB_kit {a b : String} {r : Bool} (h : isB a b = some r) : kitB a b = some r := by
  unfold isB at h
  split at h <;> first | (cases h; decide +kernel) | cases h
def gIsi : List D → (D → Prop) → Prop := fun ds k => match ds with
  | [x, .ty n] => ∃ t b, tyD x = some t ∧ isB t n = some b ∧ k (.bl b)
  | _ => False
theorem Is.ty' {z : Zn} {M : AP} {H : Hp} {v : V} {d : D} {K : PySem.W.Frag} {t : String} (h : Is z M H v d) (e : tyD d = some t) : TyOf K H v (.type t) := by
  cases h with
  | non => cases e; exact .non
  | bl b => cases e; exact .bl b
  | int b => cases e; exact .int b
  | str b => cases e; exact .str b
  | tup h _ _ => cases e; exact .tup h
  | lst h _ _ => cases e; exact .lst h
  | dic h _ _ => cases e; exact .dK h
  | _ => cases e
theorem cd_isi {l : Bool} {K : PySem.W.Frag} : CallD l .e (rIsi K) gIsi := fun z X H0 H σ env vs ds Q k o h c hp => by
  unfold gIsi at hp
  split at hp
  · obtain ⟨v, u, rfl, hv, hu⟩ := h.two
    cases hu
    obtain ⟨t, b, h1, h2, hk⟩ := hp
    exact ⟨v, .ty _, .type t, .type _, b, rfl, .ty _, .base (hv.ty' h1), kit_ty (isB_kit h2), c _ _ H (Evo.refl _ _) (Is.bl _) hk⟩
  · exact hp.elim
section
variable {C : Cx} {e : Expr} {p : PX} {m : Mode} {pos pp : Pos} {x : Str}
/-- tuple(x), list(x) -/
def dTuple : D → (D → Prop) → Prop := fun d k => match d with
  | .lst xs => k (.tup xs)
  | .tup xs => k (.tup xs)
  | _ => False
def dList : D → (D → Prop) → Prop := fun d k => match d with
  | .lst xs => k (.lst xs)
  | .tup xs => k (.lst xs)
  | _ => False
theorem e_tuple (h : E .c C e p) (hg : Gl C x) (hm : C.mg x = none) (hv : bootBuiltins x = some (.type "tuple")) (hn : x ≠ "__name__" := by decide) (hdb : (x == ("__debug__" : Str)) = false := by decide)
    (he : starEach [e] C.env = (false, eval e C.env) :: starEach [] C.env := by rfl) (hpl : (backTo pos (starEach [] C.env)).any (·.1) = false := by rfl) : E .e C (.Call (.Name x pp) [e] [] pos) (eUn dTuple p) := by
  obtain ⟨t, h1, h2⟩ := h
  refine ⟨_, pe_callTy call_tuple_of hg hm hv (pa_cons h1 pa_nil he) hn hdb he hpl, fun z X H0 H σ env Q k o c hp => h2 z X H0 H σ env _ _ o (fun d v H1 e1 r1 hx => ?_) hp⟩
  cases d with
  | tup xs =>
    obtain ⟨a, vs, rfl, q1, q2, n⟩ := r1.conT
    exact ⟨a, vs, rfl, .inr ⟨SqT.of q1, c _ _ H1 e1 (Is.tup q1 n q2) hx⟩⟩
  | lst xs =>
    obtain ⟨a, vs, rfl, q1, q2, n⟩ := r1.conL
    exact ⟨a, vs, rfl, .inl ⟨SqL.of q1, fun q hq => c _ _ _ (e1.new hq) ((Rel.newT (e1.fresh hq) hq q2).fe o) hx⟩⟩
  | _ => exact (show False from hx).elim
theorem e_list (h : E .c C e p) (hg : Gl C x) (hm : C.mg x = none) (hv : bootBuiltins x = some (.type "list")) (hn : x ≠ "__name__" := by decide) (hdb : (x == ("__debug__" : Str)) = false := by decide)
    (he : starEach [e] C.env = (false, eval e C.env) :: starEach [] C.env := by rfl) (hpl : (backTo pos (starEach [] C.env)).any (·.1) = false := by rfl) : E .f C (.Call (.Name x pp) [e] [] pos) (eUn dList p) := by
  obtain ⟨t, h1, h2⟩ := h
  refine ⟨_, pe_callTy call_list_of hg hm hv (pa_cons h1 pa_nil he) hn hdb he hpl, fun z X H0 H σ env Q k o c hp => h2 z X H0 H σ env _ _ o (fun d v H1 e1 r1 hx => ?_) hp⟩
  cases d with
  | tup xs =>
    obtain ⟨a, vs, rfl, q1, q2, n⟩ := r1.conT
    exact ⟨a, vs, rfl, .inr (SqT.of q1), fun q hq => c _ _ _ (e1.new hq) (Rel.newL (e1.fresh hq) hq q2) hx⟩
  | lst xs =>
    obtain ⟨a, vs, rfl, q1, q2, n⟩ := r1.conL
    exact ⟨a, vs, rfl, .inl (SqL.of q1), fun q hq => c _ _ _ (e1.new hq) (Rel.newL (e1.fresh hq) hq q2) hx⟩
  | _ => exact (show False from hx).elim
/-- [x] * n -/
def dRep : D → D → (D → Prop) → Prop := fun x y k => match x, y with
  | .lst xs, .int i => i < 100000 ∧ xs.length * i.toNat ≤ 100000 ∧ -100000 < i ∧ k (.lst (List.replicate i.toNat xs).flatten)
  | _, _ => False
theorem IsA.rep {z : Zn} {M : AP} {H : Hp} {vs : List V} {ds : List D} (h : IsA z M H vs ds) : ∀ n : Nat, IsA z M H (List.replicate n vs).flatten (List.replicate n ds).flatten
  | 0 => .nil
  | n + 1 => by
    rw [List.replicate_succ, List.replicate_succ, List.flatten_cons, List.flatten_cons]
    exact h.append (IsA.rep h n)
theorem opd_rep : OpD .c .f rRep dRep := fun z X H0 H σ env v u x y Q k o r1 r2 c hp => by
  cases x with
  | lst xs =>
    cases y with
    | int i =>
      obtain ⟨h1, h2, h3, hk⟩ := hp
      obtain ⟨a, vs, rfl, q1, q2, n⟩ := r1.conL
      exact ⟨a, i, vs, rfl, r2.intC, q1, by omega, by omega, sz (by rw [q2.length]; exact h2), fun q hq => c _ _ _ ((Evo.refl _ _).new hq) (Rel.newL hq hq (q2.rep _)) hk⟩
    | _ => exact (show False from hp).elim
  | _ => exact (show False from hp).elim
end
/-! ### calls of the program's own defs -/
/-- the promise of a def by its reading wp without places; fr: it gives a new list -/
def Sf (fr : Bool) (n : Nat) (wp : List D → (D → Prop) → Prop) : Sp := fun vs H Q _ => ∃ (z : Zn) (X : AP) (ds : List D) (k : D → Prop), vs.length = n ∧ ((∀ a, z.Z a → H a ≠ none) ∧ Tabs H) ∧ (∀ a, X a → H a ≠ none ∧ ¬ z.Z a) ∧ IsA z (Zx z X) H vs ds ∧ wp ds k ∧
  ∀ d v H', Evo z H H' → Is z (Zx z X) H' v d → (fr = true → ∃ a, v = .ref a ∧ H a = none ∧ Con z (Zx z (X.or a)) H' a d) → k d → Q v H'
section
variable {C : Cx} {e : Expr} {es : List Expr} {p : PX} {ga : PAs} {m mo : Mode} {fr : Bool} {k n : Nat} {pos pp : Pos} {x : Str} {f : Addr} {fd : FuncData} {ps : List Str} {wp : List D → (D → Prop) → Prop}
/-- what slots own, and X -/
def Ox (X : AP) (σ : Sl) (env : List SV) : AP := fun a => X a ∨ ∃ (i : Nat) (d : D), env[i]? = some (.own d) ∧ σ[i]? = some (some (V.ref a))
theorem Ok.ox {z : Zn} {X : AP} {H0 H : Hp} {σ : Sl} {env : List SV} (o : Ok z X H0 H σ env) {a : Addr} (h : Ox X σ env a) : H a ≠ none ∧ ¬ z.Z a := by
  rcases h with h | ⟨i, d, h1, h2⟩
  · exact o.xal a h
  · obtain ⟨b, q1, q2, q3, _⟩ := o.own i d h1
    rw [h2] at q1
    cases q1
    obtain ⟨u, hu⟩ := q2.some
    exact ⟨(by rw [hu]; intro w; cases w), q3⟩
theorem zx_ox {z : Zn} {X : AP} {σ : Sl} {env : List SV} {a : Addr} : Zx z (Ox X σ env) a ↔ Ms z X σ env a := by
  constructor
  · rintro (h | h | h)
    · exact .inl h
    · exact .inr (.inl h)
    · exact .inr (.inr h)
  · rintro (h | h | h)
    · exact .inl h
    · exact .inr (.inl h)
    · exact .inr (.inr h)
theorem re_call {t : TA} (h : RA true t ga) (E' : XK) (hm : mo = .e ∨ (mo = .f ∧ fr = true)) : RE mo (tCall (Sf fr n wp) [] E' t) (eCall (fun ds k => ds.length = n ∧ wp ds k) ga) := fun z X H0 H σ env Q k o c hp => by
  refine h z X H0 H σ env _ _ o (fun ds vs H1 e1 r1 hx => ?_) hp
  have o1 := o.go e1
  rw [if_pos rfl] at r1
  refine ⟨z, Ox X σ env, ds, k, by rw [List.append_nil, r1.length]; exact hx.1, ⟨o1.zal, o1.tab⟩, fun a => o1.ox, by rw [List.append_nil]; exact r1.weak fun a q => zx_ox.mp q, hx.2, fun d v H2 e2 r2 fq kd => ?_⟩
  refine c d v H2 (e1.trans e2) ?_ kd
  rcases hm with rfl | ⟨rfl, hf⟩
  · exact Is.weak (fun a q => zx_ox.mpr q) r2
  · obtain ⟨a, ev, ha, hc⟩ := fq hf
    refine ⟨a, ev, e1.fresh ha, hc.gen (fun _ q => q) (fun b u q n => ⟨q, fun y => n ?_⟩) fun _ h => h⟩
    rcases y with y | (y | y) | y
    · exact .inl y
    · exact .inr (.inl (.inl y))
    · exact .inr (.inr y)
    · exact .inr (.inl (.inr y))
theorem e_call (F : FnOk C.prog C.w C.K C.mg C.base CX0 k f fd ps (Sf fr n wp)) (hr : Room k C.A) (hg : Gl C x) (hm : C.mg x = some (.ref f)) (hk : PySem.W.keepIn C.K (.ref f) = true) (hb : Binds C.K fd ps [])
    (ha : A true C (e :: es) ga) (hmo : mo = .e ∨ (mo = .f ∧ fr = true)) (hdb : (x == ("__debug__" : Str)) = false := by decide) (he : starEach (e :: es) C.env = (false, eval e C.env) :: starEach es C.env := by rfl) (hpl : (backTo pos (starEach es C.env)).any (·.1) = false := by rfl) :
    E mo C (.Call (.Name x pp) (e :: es) [] pos) (eCall (fun ds k => ds.length = n ∧ wp ds k) ga) := by
  obtain ⟨t, h1, h2⟩ := ha
  exact ⟨_, pe_call F hr hg hm hk hb .nil pass0 h1 hdb he hpl, re_call h2 E0 hmo⟩
end
end Pu
namespace Pu
open PySem PySem.Spec PyProof.Rows L2
variable [Tbs]
/-! ### statements -/
structure PK' where
  nx : List SV → Prop
  rt : D → Prop
  bk : List SV → Prop := fun _ => False
  ct : List SV → Prop := fun _ => False
  /-- a return of a def that hands a borrowed thing back -/
  re : List SV → D → Prop := fun _ _ => False
abbrev PSt := List SV → PK' → Prop
structure Sim (fr : Bool) (z : Zn) (X : AP) (H0 : Hp) (M : AP) (H : Hp) (G : Ends) (k : PK') : Prop where
  nx : ∀ env' σ' H', Ok z X H0 H' σ' env' → Fr z X M H (Ms z X σ' env') H' → k.nx env' → G.nx σ' H'
  rt : ∀ d v H', Evo z H0 H' → Is z (Zx z X) H' v d → (fr = true → ∃ a, v = .ref a ∧ H0 a = none ∧ Con z (Zx z (X.or a)) H' a d) → k.rt d → G.rt v H'
  bk : ∀ env' σ' H', Ok z X H0 H' σ' env' → Fr z X M H (Ms z X σ' env') H' → k.bk env' → G.bk σ' H'
  ct : ∀ env' σ' H', Ok z X H0 H' σ' env' → Fr z X M H (Ms z X σ' env') H' → k.ct env' → G.ct σ' H'
  re : ∀ env' σ' H' d v, Ok z X H0 H' σ' env' → Is z (Ms z X σ' env') H' v d → k.re env' d → G.rt v H'
theorem Sim.go {fr : Bool} {z : Zn} {X : AP} {H0 : Hp} {M M1 : AP} {H H1 : Hp} {G : Ends} {k : PK'} (s : Sim fr z X H0 M H G k) (f : Fr z X M H M1 H1) : Sim fr z X H0 M1 H1 G k :=
  ⟨fun e σ H' o g h => s.nx e σ H' o (f.trans g) h, s.rt, fun e σ H' o g h => s.bk e σ H' o (f.trans g) h, fun e σ H' o g h => s.ct e σ H' o (f.trans g) h, s.re⟩
def RS (fr : Bool) (t : TS) (p : PSt) : Prop := ∀ (z : Zn) (X : AP) (H0 H : Hp) (σ : Sl) (env : List SV) (G : Ends) (k : PK'), Ok z X H0 H σ env → Sim fr z X H0 (Ms z X σ env) H G k → p env k → t G σ H
structure S (fr : Bool) (C : Cx) (st : Stmt) (p : PSt) : Prop where
  ex : ∃ t, PS C st t ∧ RS fr t p
structure B (fr : Bool) (C : Cx) (st : List Stmt) (p : PSt) : Prop where
  ex : ∃ t, PSs C st t ∧ RS fr t p
section
variable {C : Cx} {fr : Bool} {st : Stmt} {rest : List Stmt} {p q : PSt} {e : Expr} {pe : PX} {m : Mode} {pos : Pos}
def sNext : PSt := fun env k => k.nx env
def sSeq (p q : PSt) : PSt := fun env k => p env { k with nx := fun env' => q env' k }
theorem b_nil : B fr C [] sNext := ⟨_, pss_nil, fun z X H0 H σ env G k o s h => s.nx env σ H o Fr.refl h⟩
theorem b_cons (h : S fr C st p) (g : B fr C rest q) : B fr C (st :: rest) (sSeq p q) := by
  obtain ⟨t, h1, h2⟩ := h
  obtain ⟨u, g1, g2⟩ := g
  refine ⟨_, pss_cons h1 g1, fun z X H0 H σ env G k o s hp => h2 z X H0 H σ env _ { k with nx := fun env' => q env' k } o ⟨fun env' σ' H' o' f hx => ?_, s.rt, s.bk, s.ct, s.re⟩ hp⟩
  exact g2 z X H0 H' σ' env' G k o' (s.go f) hx
theorem b_one (h : S fr C st p) : B fr C [st] p := let ⟨t, h1, h2⟩ := h; ⟨t, pss_one h1, h2⟩
def sDrop (p : PX) : PSt := fun env k => p env fun _ => k.nx env
def sRet (p : PX) : PSt := fun env k => p env k.rt
theorem s_ret (h : E m C e pe) : S false C (.Return (some e) pos) (sRet pe) := by
  obtain ⟨t, h1, h2⟩ := h.toB
  exact ⟨_, ps_ret h1, fun z X H0 H σ env G k o s hp => h2 z X H0 H σ env _ _ o (fun d v H1 e1 r1 hx => s.rt d v H1 (o.evo.trans e1) r1 (fun q => Bool.noConfusion q) hx) hp⟩
/-- return of a list that a slot owns -/
def sRetO (i : Nat) : PSt := fun env k => match env[i]? with
  | some (.own d) => k.rt d
  | _ => False
theorem s_retO (i : Nat) {x : Str} {pp : Pos} (hN : C.N[i]? = some x := by rfl) (hv : Vis C.env.scope x := by first | exact Or.inl rfl | exact Or.inr (Or.inl rfl) | exact Or.inr (Or.inr rfl)) (hd : (x == ("__debug__" : Str)) = false := by decide)
    (hcd : (x == ("__classdict__" : Str)) = false := by decide) : S fr C (.Return (some (.Name x pp)) pos) (sRetO i) := by
  refine ⟨_, ps_ret (pe_var hN hv hd hcd), fun z X H0 H σ env G k o s hp => ?_⟩
  unfold sRetO at hp
  split at hp
  · rename_i d he
    obtain ⟨a, h1, h2, h3, h4, h5⟩ := o.own i d he
    refine ⟨_, h1, s.rt d _ H o.evo ((h2.gen (fun _ q => q) (fun b u q n => ⟨q, fun y => n y.ms⟩) fun _ h => h).is fun q => q.elim h3 h4) (fun _ => ⟨a, rfl, h5, h2.gen (fun _ q => q) (fun b u q n => ⟨q, fun y => n ?_⟩) fun _ h => h⟩) hp⟩
    rcases y with y | y | y
    · exact .inl y
    · exact .inr (.inl y)
    · exact .inr (.inr ⟨i, d, he, by rw [y]; exact h1⟩)
  · exact hp.elim
def sRetN : PSt := fun _ k => k.rt .non
def sIf (c : PTs') (p q : PSt) : PSt := fun env k => c env fun b => if b = true then p env k else q env k
theorem s_if {c : Expr} {a b : List Stmt} {tc : PTs'} (h : T C c tc) (ha : B fr C a p) (hb : B fr C b q) : S fr C (.If c a b pos) (sIf tc p q) := by
  obtain ⟨t, h1, h2⟩ := h
  obtain ⟨ta, a1, a2⟩ := ha
  obtain ⟨tb, b1, b2⟩ := hb
  refine ⟨_, ps_if h1 a1 b1, fun z X H0 H σ env G k o s hp => h2 z X H0 H σ env _ _ o (fun x H1 e1 hx => ?_) hp⟩
  cases x with
  | true => exact a2 z X H0 H1 σ env G k (o.go e1) (s.go (o.fr e1)) hx
  | false => exact b2 z X H0 H1 σ env G k (o.go e1) (s.go (o.fr e1)) hx
/-! ### stores -/
def sSet (i : Nat) (p : PX) : PSt := fun env k => p env fun d => k.nx (env.set i (.val d))
theorem s_set {i : Nat} {x : Str} {pp : Pos} (h : E .e C e pe) (hN : C.N.Nodup) (hi : C.N[i]? = some x) (hx : Loc C.env.scope x) (hs : swapsWith e (some (.Name x pp)) pos.line C.env = pure false := by rfl) (hf : C.fn x = true ∨ C.env.scope.names.lookup x = some .local := by first | exact .inl rfl | exact .inr rfl | assumption) :
    S fr C (.Assign [.Name x pp] e pos) (sSet i pe) := by
  obtain ⟨t, h1, h2⟩ := h
  refine ⟨_, ps_set hN hi hx h1 hs hf, fun z X H0 H σ env G k o s hp => h2 z X H0 H σ env _ _ o (fun d v H1 e1 r1 hx => ?_) hp⟩
  obtain ⟨o2, f2⟩ := (o.go e1).set (i := i) (show Is z _ H1 v d from r1)
  exact s.nx _ _ H1 o2 ((o.fr e1).trans f2) hx
def sOwn (i : Nat) (p : PX) : PSt := fun env k => p env fun d => i < env.length ∧ k.nx (env.set i (.own d))
theorem rs_own {i : Nat} {t : TE} (h : RE .f t pe) : RS fr (tAsg t (gName i)) (sOwn i pe) := fun z X H0 H σ env G k o s hp => h z X H0 H σ env _ _ o (fun d v H1 e1 r1 hx => by
  obtain ⟨a, rfl, ha, hc⟩ := r1
  obtain ⟨o2, f2⟩ := o.take hx.1 e1 ha hc
  exact s.nx _ _ H1 o2 f2 hx.2) hp
theorem s_own {i : Nat} {x : Str} {pp : Pos} (h : E .f C e pe) (hN : C.N.Nodup) (hi : C.N[i]? = some x) (hx : Loc C.env.scope x) (hs : swapsWith e (some (.Name x pp)) pos.line C.env = pure false := by rfl) (hf : C.fn x = true ∨ C.env.scope.names.lookup x = some .local := by first | exact .inl rfl | exact .inr rfl | assumption) :
    S fr C (.Assign [.Name x pp] e pos) (sOwn i pe) := by
  obtain ⟨t, h1, h2⟩ := h
  exact ⟨_, ps_set hN hi hx h1 hs hf, rs_own h2⟩
/-- targets -/
abbrev PGt := D → List SV → (List SV → Prop) → Prop
abbrev PGs' := List D → List SV → (List SV → Prop) → Prop
/-- nothing but the slots js is stored to -/
def Keep (js : List Nat) (σ : Sl) (env : List SV) (σ' : Sl) (env' : List SV) : Prop := σ'.length = σ.length ∧ ∀ i, i ∉ js → env'[i]? = env[i]? ∧ σ'[i]? = σ[i]?
theorem Keep.refl {σ : Sl} {env : List SV} : Keep [] σ env σ env := ⟨rfl, fun _ _ => ⟨rfl, rfl⟩⟩
theorem Keep.trans {a b : List Nat} {σ σ1 σ2 : Sl} {env env1 env2 : List SV} (h : Keep a σ env σ1 env1) (g : Keep b σ1 env1 σ2 env2) : Keep (a ++ b) σ env σ2 env2 :=
  ⟨g.1.trans h.1, fun i hi => by
    rw [List.mem_append, not_or] at hi
    exact ⟨(g.2 i hi.2).1.trans (h.2 i hi.1).1, (g.2 i hi.2).2.trans (h.2 i hi.1).2⟩⟩
def RG (js : List Nat) (g : TG) (p : PGt) : Prop := ∀ (z : Zn) (X : AP) (H0 H : Hp) (σ : Sl) (env : List SV) (v : V) (d : D) (Q : Sl → Hp → Prop) (k : List SV → Prop), Ok z X H0 H σ env → Is z (Ms z X σ env) H v d →
  (∀ env' σ', Ok z X H0 H σ' env' → Fr z X (Ms z X σ env) H (Ms z X σ' env') H → Keep js σ env σ' env' → k env' → Q σ' H) → p d env k → g v σ H Q
def RGs (js : List Nat) (g : TGs) (p : PGs') : Prop := ∀ (z : Zn) (X : AP) (H0 H : Hp) (σ : Sl) (env : List SV) (v : List V) (d : List D) (Q : Sl → Hp → Prop) (k : List SV → Prop), Ok z X H0 H σ env → IsA z (Ms z X σ env) H v d →
  (∀ env' σ', Ok z X H0 H σ' env' → Fr z X (Ms z X σ env) H (Ms z X σ' env') H → Keep js σ env σ' env' → k env' → Q σ' H) → p d env k → g v σ H Q
structure G (C : Cx) (tg : Expr) (js : List Nat) (g : TG) (p : PGt) : Prop where
  pg : PG C tg g
  rg : RG js g p
structure Gs (C : Cx) (tg : List Expr) (js : List Nat) (g : TGs) (p : PGs') : Prop where
  pg : PGs C tg g
  rg : RGs js g p
def gtName (i : Nat) : PGt := fun d env k => k (env.set i (.val d))
theorem g_name {i : Nat} {x : Str} (hN : C.N.Nodup) (hi : C.N[i]? = some x) (hx : Loc C.env.scope x) (hf : C.fn x = true ∨ C.env.scope.names.lookup x = some .local := by first | exact .inl rfl | exact .inr rfl | assumption) : G C (.Name x pos) [i] (gName i) (gtName i) :=
  ⟨pg_name hN hi hx hf, fun z X H0 H σ env v d Q k o hv c hp => let ⟨o2, f2⟩ := o.set (i := i) hv; c _ _ o2 f2 ⟨by simp, fun j hj => by
    have hj' : i ≠ j := fun e => hj (by simp [e])
    exact ⟨List.getElem?_set_ne hj', List.getElem?_set_ne hj'⟩⟩ hp⟩
def gtNil : PGs' := fun ds env k => match ds with
  | [] => k env
  | _ => False
def gtCons (p : PGt) (q : PGs') : PGs' := fun ds env k => match ds with
  | d :: r => p d env fun env' => q r env' k
  | _ => False
theorem gs_nil : Gs C [] [] gNil gtNil := ⟨pgs_nil, fun z X H0 H σ env v d Q k o hv c hp => by
  cases hv with
  | nil => exact ⟨rfl, c env σ o Fr.refl Keep.refl hp⟩
  | cons _ _ => exact (show False from hp).elim⟩
theorem gs_cons {es : List Expr} {js ks : List Nat} {g : TG} {gs : TGs} {p : PGt} {q : PGs'} (h1 : G C e js g p) (h2 : Gs C es ks gs q) (hs : (assignEach (e :: es) C.env).map (·.2) = assign e C.env :: (assignEach es C.env).map (·.2) := by rfl) : Gs C (e :: es) (js ++ ks) (gCons g gs) (gtCons p q) :=
  ⟨pgs_cons h1.pg h2.pg hs, fun z X H0 H σ env v d Q k o hv c hp => by
    cases hv with
    | nil => exact (show False from hp).elim
    | cons q t =>
      refine ⟨_, _, rfl, h1.rg z X H0 H σ env _ _ _ _ o q (fun env' σ' o' f' kp hx => ?_) hp⟩
      exact h2.rg z X H0 H σ' env' _ _ _ _ o' (f'.isA t) (fun env2 σ2 o2 f2 kp2 hy => c env2 σ2 o2 (f'.trans f2) (kp.trans kp2) hy) hx⟩
def gtTup (n : Nat) (q : PGs') : PGt := fun d env k => match d with
  | .tup ds => ds.length = n ∧ q ds env k
  | _ => False
theorem g_tup {es : List Expr} {js : List Nat} {kk : Nat} {gs : TGs} {q : PGs'} {n : Nat} (hc : C.calm = true) (h : Gs C es js gs q)
    (hn : (assignEach es C.env).length = n := by rfl) (hst : (assignEach es C.env).findIdx? (·.1) = none := by rfl) : G C (.Tuple es kk pos) js (gTup C.K n gs) (gtTup n q) :=
  ⟨pg_tup hc h.pg hn hst, fun z X H0 H σ env v d Q k o hv c hp => by
    cases hv with
    | tup e nn r => exact ⟨_, _, rfl, SqT.of e, by rw [r.length]; exact hp.1, h.rg z X H0 H σ env _ _ _ _ o r c hp.2⟩
    | _ => exact (show False from hp).elim⟩
def sAsg (p : PX) (g : PGt) : PSt := fun env k => p env fun d => g d env k.nx
theorem s_asg {tg : Expr} {js : List Nat} {g : TG} {pg : PGt} (h : E .e C e pe) (hg : G C tg js g pg) (hs : swapsWithSole [tg] e pos.line C.env = pure false := by rfl) (hw : swappedStores [tg] e C.env = pure none := by rfl)
    (h1 : (assignEach [tg] C.env).map (·.2) = [assign tg C.env] := by rfl) : S fr C (.Assign [tg] e pos) (sAsg pe pg) := by
  obtain ⟨t, a1, a2⟩ := h
  refine ⟨_, ps_asg a1 hg.pg hs hw h1, fun z X H0 H σ env G k o s hp => a2 z X H0 H σ env _ _ o (fun d v H1 e1 r1 hx => ?_) hp⟩
  exact hg.rg z X H0 H1 σ env v d _ _ (o.go e1) r1 (fun env' σ' o' f' _ hy => s.nx env' σ' H1 o' ((o.fr e1).trans f') hy) hx
/-- a, b = x, y -/
def prK (ds : List D) (k : D → D → Prop) : Prop := match ds with
  | [c, d] => k c d
  | _ => False
def sPar (i j : Nat) (g : PAs) : PSt := fun env k => g env fun ds => prK ds fun c d => k.nx ((env.set i (.val c)).set j (.val d))
/-! ### what a slot owns is changed -/
/-- x.append(e) -/
def sAppend (i : Nat) (p : PX) : PSt := fun env k => match env[i]? with
  | some (.own (.lst xs)) => p env fun d => xs.length ≤ 100000 ∧ k.nx (env.set i (.own (.lst (xs ++ [d]))))
  | some (.own (.bor xs)) => p env fun d => xs.length ≤ 100000 ∧ k.nx (env.set i (.own (.bor (xs ++ [d]))))
  | _ => False
theorem szl {n : Nat} (h : n ≤ 100000) : n < sizeLine := Nat.lt_of_le_of_lt h (by decide)
theorem s_append (i : Nat) {x : Str} {pp apos cpos : Pos} (h : E .e C e pe) (hN : C.N[i]? = some x := by rfl) (hv : Vis C.env.scope x := by first | exact Or.inl rfl | exact Or.inr (Or.inl rfl) | exact Or.inr (Or.inr rfl)) (hd : (x == ("__debug__" : Str)) = false := by decide)
    (hcd : (x == ("__classdict__" : Str)) = false := by decide)
    (hb : ∀ to te, PE C (.Name x pp) to → PE C e te → PE C (.Call (.Attribute (.Name x pp) "append" apos) [e] [] cpos) (tBM C.K "list" rAppend to (tCons te tNil)))
    (hs : swapsWith (.Call (.Attribute (.Name x pp) "append" apos) [e] [] cpos) none pos.line C.env = pure false := by rfl) :
    S fr C (.Expr (.Call (.Attribute (.Name x pp) "append" apos) [e] [] cpos) pos) (sAppend i pe) := by
  obtain ⟨t, h1, h2⟩ := h
  refine ⟨_, ps_expr (hb _ _ (pe_var hN hv hd hcd) h1) hs, fun z X H0 H σ env G k o s hp => ?_⟩
  unfold sAppend at hp
  split at hp
  · rename_i xs he
    obtain ⟨a, q1, q2, q3, q4⟩ := o.own i _ he
    obtain ⟨vs, q5, q6⟩ := q2
    refine ⟨_, q1, .inl ⟨rfl, vs, SqL.of q5⟩, h2 z X H0 H σ env _ _ o (fun d v H1 e1 r1 hx => ?_) hp⟩
    have o1 := o.go e1
    have q5' := e1.old a _ q5 q3
    refine ⟨a, vs, v, rfl, rfl, q5', by rw [q6.length]; exact szl hx.1, ?_⟩
    have ia : Ms z X σ env a := .inr (.inr ⟨i, _, he, q1⟩)
    have old : ∀ b u, H1 b = some u → ¬ Ms z X σ env b → upd H1 a (.lst (vs ++ [v])) b = some u ∧ ¬ Ms z X σ env b := fun b u hb n => ⟨by rw [upd_ne (fun e => n (by rw [e]; exact ia))]; exact hb, n⟩
    obtain ⟨o2, f2⟩ := o1.mut (o := .lst (vs ++ [v])) he q1 (d' := .lst (xs ++ [d])) ⟨vs ++ [v], upd_same, ((IsA.evo (fun _ q => .inl q) e1 q6).append (.cons r1 .nil)).gen old fun b hb => ok_mut q3 hb⟩
    exact s.nx _ _ _ o2 ((o.fr e1).trans f2) hx.2
  · rename_i xs he
    obtain ⟨a, q1, q2, q3, q4⟩ := o.own i _ he
    obtain ⟨qb, vs, q5, q6⟩ := q2
    refine ⟨_, q1, .inl ⟨rfl, vs, SqL.of q5⟩, h2 z X H0 H σ env _ _ o (fun d v H1 e1 r1 hx => ?_) hp⟩
    have o1 := o.go e1
    have q5' := e1.old a _ q5 q3
    refine ⟨a, vs, v, rfl, rfl, q5', by rw [q6.length]; exact szl hx.1, ?_⟩
    have ia : Ms z X σ env a := .inr (.inr ⟨i, _, he, q1⟩)
    have old : ∀ b u, H1 b = some u → ¬ Ms z X σ env b → upd H1 a (.lst (vs ++ [v])) b = some u ∧ ¬ Ms z X σ env b := fun b u hb n => ⟨by rw [upd_ne (fun e => n (by rw [e]; exact ia))]; exact hb, n⟩
    obtain ⟨o2, f2⟩ := o1.mut (o := .lst (vs ++ [v])) he q1 (d' := .bor (xs ++ [d])) ⟨qb, vs ++ [v], upd_same, ((IsA.evo (fun _ q => .inl q) e1 q6).append (.cons r1 .nil)).gen old fun b hb => ok_mut q3 hb⟩
    exact s.nx _ _ _ o2 ((o.fr e1).trans f2) hx.2
  · exact hp.elim
end
/-! ### loops -/
def forP (g : PGt) (body : PSt) : List D → PSt
  | [], env, k => k.nx env
  | d :: ds, env, k => g d env fun env1 => body env1 { nx := fun env2 => forP g body ds env2 k, rt := k.rt, bk := k.nx, ct := fun env2 => forP g body ds env2 k }
/-- how J yields the items ds, wherever what stood outside M stands -/
def Yields (z : Zn) (X : AP) (M : AP) (H : Hp) (J : It) (ds : List D) : Prop := ∀ M' H', Fr z X M H M' H' → J.stop ds.length H' ∧
  ∀ i d, ds[i]? = some d → J.go i H' ∧ ∀ x H2, J.yld i H' x H2 → Evo z H' H2 ∧ ((∀ a, z.Z a → M' a) → (∀ b, H' b = none → ¬ M' b) → Is z M' H2 x d)
abbrev PIt := List SV → (List D → Prop) → Prop
def RI (wi : TI) (p : PIt) : Prop := ∀ (z : Zn) (X : AP) (H0 H : Hp) (σ : Sl) (env : List SV) (R : It → Hp → Prop) (k : List D → Prop), Ok z X H0 H σ env →
  (∀ ds J H', Evo z H H' → Yields z X (Ms z X σ env) H' J ds → k ds → R J H') → p env k → wi σ H R
structure I (C : Cx) (tg it : Expr) (p : PIt) : Prop where
  ex : ∃ wi, PI C tg it wi ∧ RI wi p
def sFor (it : PIt) (g : PGt) (body : PSt) : PSt := fun env k => it env fun ds => forP g body ds env k
theorem rs_for {fr : Bool} {wi : TI} {pi : PIt} {js : List Nat} {g : TG} {pg : PGt} {tb : TS} {pb : PSt} (hi : RI wi pi) (hg : RG js g pg) (hb : RS fr tb pb) : RS fr (tFor wi g tb) (sFor pi pg pb) := fun z X H0 H σ env G k o s hp => by
  refine hi z X H0 H σ env _ _ o (fun ds J H1 e1 yl hx => ?_) hp
  have f1 := o.fr e1
  have o1 := o.go e1
  refine ⟨fun i mm σ' H' => mm = ds.length - i ∧ i ≤ ds.length ∧ ∃ env', Ok z X H0 H' σ' env' ∧ Fr z X (Ms z X σ env) H1 (Ms z X σ' env') H' ∧ forP pg pb (ds.drop i) env' k, ⟨ds.length, by simp, Nat.zero_le _, env, o1, Fr.refl, by simpa using hx⟩, ?_⟩
  rintro i mm σ' H' ⟨rfl, hil, env', o', f', hf⟩
  obtain ⟨y1, y2⟩ := yl _ _ f'
  by_cases hlt : i < ds.length
  · obtain ⟨go, y3⟩ := y2 i ds[i] (List.getElem?_eq_getElem hlt)
    rw [List.drop_eq_getElem_cons hlt] at hf
    refine .inr ⟨go, fun σ2 H2 => ∃ env2, Ok z X H0 H2 σ2 env2 ∧ Fr z X (Ms z X σ env) H1 (Ms z X σ2 env2) H2 ∧ forP pg pb (ds.drop (i + 1)) env2 k, fun σ2 H2 h2 => ⟨ds.length - (i + 1), by omega, rfl, hlt, h2⟩, fun x H2 hy => ?_⟩
    obtain ⟨e2, is⟩ := y3 x H2 hy
    have o2 := o'.go e2
    have f2 := f'.trans (o'.fr e2)
    refine hg z X H0 H2 σ' env' x _ _ _ o2 (is (fun a q => .inl q) (fun b q => o'.notMs q)) (fun env3 σ3 o3 f3 _ hx3 => ?_) hf
    refine hb z X H0 H2 σ3 env3 _ { nx := fun env2 => forP pg pb (ds.drop (i + 1)) env2 k, rt := k.rt, bk := k.nx, ct := fun env2 => forP pg pb (ds.drop (i + 1)) env2 k } o3 ⟨fun env4 σ4 H4 o4 f4 hx4 => ⟨env4, o4, f2.trans (f3.trans f4), hx4⟩, s.rt, fun env4 σ4 H4 o4 f4 hx4 => ?_, fun env4 σ4 H4 o4 f4 hx4 => ⟨env4, o4, f2.trans (f3.trans f4), hx4⟩, fun _ _ _ _ _ _ _ h => h.elim⟩ hx3
    exact s.nx env4 σ4 H4 o4 (f1.trans (f2.trans (f3.trans f4))) hx4
  · have ei : i = ds.length := by omega
    subst ei
    rw [List.drop_length] at hf
    exact .inl ⟨y1, s.nx env' σ' H' o' (f1.trans f') hf⟩
section
variable {C : Cx} {fr : Bool} {tg e : Expr} {body : List Stmt} {pe : PX} {m : Mode} {pos pp : Pos}
theorem s_for {iter : Expr} {pi : PIt} {js : List Nat} {g : TG} {pg : PGt} {pb : PSt} (hi : I C tg iter pi) (hg : G C tg js g pg) (hb : B fr C body pb) (hp : PassesOwn (model C.prog C.w) C.A C.env C.xe) (hc : C.calm = true) (hs : ∀ x, foldedSetIterable iter C.env x = pure x := by intro _; rfl) :
    S fr C (.For tg iter body [] pos) (sFor pi pg pb) := by
  obtain ⟨wi, i1, i2⟩ := hi
  obtain ⟨tb, b1, b2⟩ := hb
  exact ⟨_, ps_for hp hc i1 hg.pg b1 hs, rs_for i2 hg.rg b2⟩
/-- over a tuple or a list -/
def sqK (d : D) (k : List D → Prop) : Prop := match d with
  | .tup xs => k xs
  | .lst xs => k xs
  | _ => False
def iSeq (p : PX) : PIt := fun env k => p env fun d => sqK d k
theorem yl_tup {z : Zn} {X : AP} {M : AP} {H : Hp} {K : PySem.W.Frag} {a : Addr} {vs : List V} {ds : List D} (h : H a = some (.tup vs)) (n : ¬ M a) (r : IsA z M H vs ds) : Yields z X M H (Itt K a) ds := fun M' H' f => by
  have h' := (f.old a _ h n).1
  have r' := f.isA r
  refine ⟨⟨vs, SqT.of h', by rw [r'.length]; exact Nat.le_refl _⟩, fun i d hd => ?_⟩
  obtain ⟨v, h1, h2⟩ := r'.get hd
  refine ⟨⟨vs, v, SqT.of h', h1⟩, fun x H2 y => ?_⟩
  obtain ⟨rfl, y⟩ := y
  refine ⟨Evo.refl _ _, fun _ _ => ?_⟩
  have e := y vs (SqT.of h')
  rw [h1] at e
  cases e
  exact h2
theorem yl_lst {z : Zn} {X : AP} {M : AP} {H : Hp} {K : PySem.W.Frag} {a : Addr} {vs : List V} {ds : List D} (h : H a = some (.lst vs)) (n : ¬ M a) (r : IsA z M H vs ds) : Yields z X M H (Itl K a) ds := fun M' H' f => by
  have h' := (f.old a _ h n).1
  have r' := f.isA r
  refine ⟨⟨vs, SqL.of h', by rw [r'.length]; exact Nat.le_refl _⟩, fun i d hd => ?_⟩
  obtain ⟨v, h1, h2⟩ := r'.get hd
  refine ⟨⟨vs, v, SqL.of h', h1⟩, fun x H2 y => ?_⟩
  obtain ⟨rfl, y⟩ := y
  refine ⟨Evo.refl _ _, fun _ _ => ?_⟩
  have e := y vs (SqL.of h')
  rw [h1] at e
  cases e
  exact h2
/-- over a range -/
def rangeD (lo : Int) (n : Nat) : List D := (List.range n).map fun i => .int (lo + (i : Nat))
theorem yl_rng {z : Zn} {X : AP} {M : AP} {H : Hp} {lo : Int} {n : Nat} : Yields z X M H (Itr lo n) (rangeD lo n) := fun M' H' f => by
  refine ⟨(by show n ≤ (rangeD lo n).length; simp [rangeD]), fun i d hd => ?_⟩
  have hi : i < n := by
    have := (List.getElem?_eq_some_iff.mp hd).1
    simpa [rangeD] using this
  refine ⟨hi, fun x H2 y => ?_⟩
  obtain ⟨rfl, rfl⟩ := y
  refine ⟨Evo.refl _ _, fun _ _ => ?_⟩
  have e : d = .int (lo + (i : Nat)) := by simpa [rangeD, hi, List.getElem?_map, List.getElem?_range] using hd.symm
  rw [e]
  exact Is.int _
def rgK1 (ds : List D) (k : List D → Prop) : Prop := match ds with
  | [.int j] => -100000 < j ∧ j < 100000 ∧ k (rangeD 0 j.toNat)
  | _ => False
def rgK2 (ds : List D) (k : List D → Prop) : Prop := match ds with
  | [.int i, .int j] => (-100000 < i ∧ i < 100000 ∧ -100000 < j ∧ j < 100000) ∧ k (rangeD i (j - i).toNat)
  | _ => False
def iRange1 (p : PAs) : PIt := fun env k => p env fun ds => rgK1 ds k
def iRange2 (p : PAs) : PIt := fun env k => p env fun ds => rgK2 ds k
theorem i_range1 {a : Expr} {p : PAs} {l : Bool} (ha : A l C [a] p) (hg : Gl C "range") (hm : C.mg "range" = none) (hs : starEach [a] C.env = [(false, eval a C.env)] := by rfl) : I C tg (.Call (.Name "range" pp) [a] [] pos) (iRange1 p) := by
  obtain ⟨t, h1, h2⟩ := ha
  refine ⟨_, pi_range1 hg hm h1 hs, fun z X H0 H σ env R k o c hp => h2 z X H0 H σ env _ _ o (fun ds vs H1 e1 r1 hx => ?_) hp⟩
  unfold rgK1 at hx
  split at hx
  · rename_i j
    cases IsA.ints (ns := [_]) r1
    exact ⟨j, rfl, by omega, by omega, c _ _ H1 e1 yl_rng hx.2.2⟩
  · exact hx.elim
theorem i_range2 {a b : Expr} {p : PAs} {l : Bool} (ha : A l C [a, b] p) (hg : Gl C "range") (hm : C.mg "range" = none) (hs : starEach [a, b] C.env = [(false, eval a C.env), (false, eval b C.env)] := by rfl) (hs2 : starEach [b] C.env = [(false, eval b C.env)] := by rfl) : I C tg (.Call (.Name "range" pp) [a, b] [] pos) (iRange2 p) := by
  obtain ⟨t, h1, h2⟩ := ha
  refine ⟨_, pi_range2 hg hm h1 hs hs2, fun z X H0 H σ env R k o c hp => h2 z X H0 H σ env _ _ o (fun ds vs H1 e1 r1 hx => ?_) hp⟩
  unfold rgK2 at hx
  split at hx
  · rename_i i j
    cases IsA.ints (ns := [_, _]) r1
    exact ⟨i, j, rfl, by omega, c _ _ H1 e1 yl_rng hx.2⟩
  · exact hx.elim
end
end Pu
namespace Pu
open PySem PySem.Spec PyProof.Rows L2
variable [Tbs]
/-! ### one reading for all places -/
def tP (m : Mode) (p : PX) : TE := fun σ H Q => ∃ z X H0 env k, Ok z X H0 H σ env ∧ (∀ d v H', Evo z H H' → Rel m z X H H' σ env v d → k d → Q v H') ∧ p env k
def tPT (p : PTs') : TT := fun σ H Q => ∃ z X H0 env k, Ok z X H0 H σ env ∧ (∀ b H', Evo z H H' → k b → Q b H') ∧ p env k
def tPI (p : PIt) : TI := fun σ H R => ∃ z X H0 env k, Ok z X H0 H σ env ∧ (∀ ds J H', Evo z H H' → Yields z X (Ms z X σ env) H' J ds → k ds → R J H') ∧ p env k
section
variable {C : Cx} {m : Mode} {e tg : Expr} {p : PX} {q : PTs'} {r : PIt}
theorem E.pe (h : E m C e p) : PE C e (tP m p) := by
  obtain ⟨t, h1, h2⟩ := h
  exact ⟨fun pins s σ H Q I ⟨z, X, H0, env, k, o, c, hp⟩ => h1.run pins s σ H Q I (h2 z X H0 H σ env Q k o c hp)⟩
theorem T.pt (h : T C e q) : PT C e (tPT q) := by
  obtain ⟨t, h1, h2⟩ := h
  exact ⟨fun pins s σ H Q I ⟨z, X, H0, env, k, o, c, hp⟩ => h1.run pins s σ H Q I (h2 z X H0 H σ env Q k o c hp)⟩
theorem I.pi (h : I C tg e r) : PI C tg e (tPI r) := by
  obtain ⟨t, h1, h2⟩ := h
  exact ⟨fun pins s σ H Q I ⟨z, X, H0, env, k, o, c, hp⟩ => h1.run pins s σ H Q I (h2 z X H0 H σ env Q k o c hp)⟩
theorem re_tP : RE m (tP m p) p := fun z X H0 H σ env Q k o c hp => ⟨z, X, H0, env, k, o, c, hp⟩
theorem rt_tP : RT (tPT q) q := fun z X H0 H σ env Q k o c hp => ⟨z, X, H0, env, k, o, c, hp⟩
theorem ri_tP : RI (tPI r) r := fun z X H0 H σ env Q k o c hp => ⟨z, X, H0, env, k, o, c, hp⟩
end
/-- the tests of a clause -/
structure Ts (C : Cx) (es : List Expr) (p : PTs') : Prop where
  ex : PTs C es (tPT p)
theorem ts_nil {C : Cx} : Ts C [] (fun _ k => k true) := by
  refine ⟨⟨fun pins s σ H Q I ⟨z, X, H0, env, k, o, c, hp⟩ => ?_⟩⟩
  exact pts_nil.run pins s σ H Q I (c true H (Evo.refl _ _) hp)
theorem ts_one {C : Cx} {e : Expr} {p : PTs'} (h : T C e p) : Ts C [e] p := ⟨pts_one h.pt⟩
/-! ### comprehensions -/
def wipeE (env : List SV) : List Nat → List SV
  | [] => env
  | v :: vs => (wipeE env vs).set v .no
def noOwn (env : List SV) : List Nat → Prop
  | [] => True
  | v :: vs => (match env[v]? with | some (.own _) => False | _ => True) ∧ noOwn env vs
theorem noOwn_ne {env : List SV} : ∀ {vs : List Nat}, noOwn env vs → ∀ {i : Nat} {d : D}, env[i]? = some (.own d) → i ∉ vs
  | [], _, _, _, _ => by simp
  | v :: vs, h, i, d, e => by
    intro hi
    rcases List.mem_cons.mp hi with q | q
    · subst q
      have h1 := h.1
      rw [e] at h1
      exact h1
    · exact noOwn_ne h.2 e q
section
variable {z : Zn} {X : AP} {H0 H H1 H' : Hp} {σ σ' : Sl} {env env' : List SV}
theorem wipeE_len : ∀ vs : List Nat, (wipeE env vs).length = env.length
  | [] => rfl
  | v :: vs => by unfold wipeE; rw [List.length_set, wipeE_len vs]
theorem wipeE_out : ∀ {vs : List Nat} {i : Nat}, i ∉ vs → (wipeE env vs)[i]? = env[i]?
  | [], _, _ => rfl
  | v :: vs, i, h => by
    rw [List.mem_cons, not_or] at h
    unfold wipeE
    rw [List.getElem?_set_ne (Ne.symm h.1), wipeE_out h.2]
theorem wipeE_in : ∀ {vs : List Nat} {i : Nat}, i ∈ vs → (wipeE env vs)[i]? = none ∨ (wipeE env vs)[i]? = some .no
  | v :: vs, i, h => by
    unfold wipeE
    by_cases hv : v = i
    · subst hv
      rw [List.getElem?_set]
      simp only [if_true]
      split
      · exact .inr rfl
      · exact .inl rfl
    · rw [List.getElem?_set_ne hv]
      exact wipeE_in ((List.mem_cons.mp h).resolve_left (fun e => hv e.symm))
theorem wipe_out' : ∀ {vs : List Nat} {i : Nat}, i ∉ vs → (wipe σ vs)[i]? = σ[i]?
  | [], _, _ => rfl
  | v :: vs, i, h => by
    rw [List.mem_cons, not_or] at h
    unfold wipe
    rw [List.getElem?_set_ne (Ne.symm h.1), wipe_out' h.2]
theorem wipe_in' : ∀ {vs : List Nat} {i : Nat}, i ∈ vs → (wipe σ vs)[i]? = if i < σ.length then some none else none
  | v :: vs, i, h => by
    unfold wipe
    by_cases hv : v = i
    · subst hv
      rw [List.getElem?_set]
      simp only [if_true, wipe_length]
    · rw [List.getElem?_set_ne hv]
      exact wipe_in' ((List.mem_cons.mp h).resolve_left (fun e => hv e.symm))
theorem wipe_eq {vs js : List Nat} (h : Keep js (wipe σ vs) env σ' env') (hj : ∀ i ∈ js, i ∈ vs) : wipe σ' vs = wipe σ vs := by
  apply List.ext_getElem?
  intro i
  have hl : σ'.length = σ.length := by rw [h.1, wipe_length]
  by_cases hi : i ∈ vs
  · rw [wipe_in' hi, wipe_in' hi, hl]
  · rw [wipe_out' hi, (h.2 i (fun q => hi (hj i q))).2]
/-- one more place that is locked -/
theorem Ok.lock (o : Ok z X H0 H σ env) {a : Addr} (ha : H a = none) (e : Evo z H H') (h' : H' a ≠ none) : Ok z (X.or a) H0 H' σ env := by
  have na : ∀ {b u}, H b = some u → b ≠ a := fun {b u} q => ne_of_none q ha
  have ms : ∀ b, Ms z (X.or a) σ env b → Ms z X σ env b ∨ b = a := by
    rintro b (h | (h | h) | h)
    · exact .inl (.inl h)
    · exact .inl (.inr (.inl h))
    · exact .inr h
    · exact .inl (.inr (.inr h))
  have old : ∀ b u, H b = some u → ¬ Ms z X σ env b → H' b = some u ∧ ¬ Ms z (X.or a) σ env b := fun b u q n => ⟨e.old b u q fun y => n (.inl y), fun y => (ms b y).elim n (na q)⟩
  refine ⟨o.len, o.evo.trans e, fun b h => e.al b (o.zal b h), fun b h => ?_, fun i d h => ?_, fun i d h => ?_, o.inj, e.tab o.tab⟩
  · rcases h with h | h
    · exact ⟨e.al b (o.xal b h).1, (o.xal b h).2⟩
    · rw [h]; exact ⟨h', fun q => o.zal a q ha⟩
  · obtain ⟨v, h1, h2⟩ := o.val i d h
    exact ⟨v, h1, h2.gen old e.dk⟩
  · obtain ⟨b, h1, h2, h3, h4, h5⟩ := o.own i d h
    obtain ⟨u, hu⟩ := h2.some
    exact ⟨b, h1, h2.gen (fun u q => e.old b u q h3) old e.dk, h3, fun q => q.elim h4 (na hu), h5⟩
theorem Ok.wipe (o : Ok z X H0 H σ env) {vs : List Nat} : Ok z X H0 H (L2.wipe σ vs) (wipeE env vs) ∧ ∀ a, Ms z X (L2.wipe σ vs) (wipeE env vs) a → Ms z X σ env a := by
  have ow : ∀ {i : Nat} {d : SV}, (wipeE env vs)[i]? = some d → d ≠ .no → i ∉ vs ∧ env[i]? = some d := fun {i d} h n => by
    by_cases hi : i ∈ vs
    · rcases wipeE_in (env := env) hi with q | q
      · rw [q] at h; cases h
      · rw [q] at h; cases h; exact absurd rfl n
    · rw [wipeE_out hi] at h; exact ⟨hi, h⟩
  have sub : ∀ a, Ms z X (L2.wipe σ vs) (wipeE env vs) a → Ms z X σ env a := by
    rintro a (h | h | ⟨i, d, h1, h2⟩)
    · exact .inl h
    · exact .inr (.inl h)
    · obtain ⟨hi, h1⟩ := ow h1 (by intro q; cases q)
      rw [wipe_out' hi] at h2
      exact .inr (.inr ⟨i, d, h1, h2⟩)
  refine ⟨⟨by rw [wipe_length, wipeE_len]; exact o.len, o.evo, o.zal, o.xal, fun i d h => ?_, fun i d h => ?_, fun i j a d f h1 h2 h3 h4 => ?_, o.tab⟩, sub⟩
  · obtain ⟨hi, h⟩ := ow h (by intro q; cases q)
    obtain ⟨v, h1, h2⟩ := o.val i d h
    exact ⟨v, by rw [wipe_out' hi]; exact h1, h2.weak sub⟩
  · obtain ⟨hi, h⟩ := ow h (by intro q; cases q)
    obtain ⟨a, h1, h2, h3⟩ := o.own i d h
    exact ⟨a, by rw [wipe_out' hi]; exact h1, h2.gen (fun _ q => q) (fun b u q n => ⟨q, fun y => n (sub b y)⟩) fun _ h => h, h3⟩
  · obtain ⟨hi, h1⟩ := ow h1 (by intro q; cases q)
    obtain ⟨hj, h2⟩ := ow h2 (by intro q; cases q)
    rw [wipe_out' hi] at h3
    rw [wipe_out' hj] at h4
    exact o.inj i j a d f h1 h2 h3 h4
/-- what slots own is owned in the comprehension too -/
theorem ms_in {vs js : List Nat} {σ2 : Sl} {env2 : List SV} (hn : noOwn env vs) (hj : ∀ i ∈ js, i ∈ vs) (h : Keep js (L2.wipe σ vs) (wipeE env vs) σ2 env2) : ∀ a, Ms z X σ env a → Ms z X σ2 env2 a := by
  rintro a (q | q | ⟨i, d, h1, h2⟩)
  · exact .inl q
  · exact .inr (.inl q)
  · have hi := noOwn_ne hn h1
    obtain ⟨g1, g2⟩ := h.2 i fun q => hi (hj i q)
    refine .inr (.inr ⟨i, d, ?_, ?_⟩)
    · rw [g1, wipeE_out hi]; exact h1
    · rw [g2, wipe_out' hi]; exact h2
end
def lcP (pg : PGt) (pt : PTs') (pe : PX) (env : List SV) : List D → List D → (List D → Prop) → Prop
  | [], acc, k => k acc
  | d :: ds, acc, k => pg d env fun env1 => pt env1 fun b => if b = true then pe env1 fun r => acc.length ≤ 100000 ∧ lcP pg pt pe env ds (acc ++ [r]) k else lcP pg pt pe env ds acc k
def eLc (vs : List Nat) (pi : PIt) (pg : PGt) (pt : PTs') (pe : PX) : PX := fun env k => pi env fun ds => noOwn env vs ∧ lcP pg pt pe (wipeE env vs) ds [] fun r => k (.lst r)
theorem re_lc {wi : TI} {pi : PIt} {js vs : List Nat} {g : TG} {pg : PGt} {tt : TT} {pt : PTs'} {te : TE} {pe : PX} (hi : RI wi pi) (hg : RG js g pg) (hj : ∀ i ∈ js, i ∈ vs) (ht : RT tt pt) (he : RE .e te pe) : RE .f (tLc wi g tt te vs) (eLc vs pi pg pt pe) := fun z X H0 H σ env Q k o c hp => by
  refine hi z X H0 H σ env _ _ o (fun ds J H1 e1 yl hx => ?_) hp
  obtain ⟨hn, hx⟩ := hx
  have o1 := o.go e1
  intro Da hD
  have hzD : ¬ z.Z Da := fun q => o1.zal Da q hD
  refine ⟨fun i mm H' => mm = ds.length - i ∧ i ≤ ds.length ∧ ∃ accV accD, Evo z H1 H' ∧ H' Da = some (.lst accV) ∧ IsA z (Ms z (X.or Da) σ env) H' accV accD ∧ lcP pg pt pe (wipeE env vs) (ds.drop i) accD fun r => k (.lst r),
    ⟨ds.length, by simp, Nat.zero_le _, [], [], (Evo.refl _ _).new hD, upd_same, .nil, by simpa using hx⟩, ?_⟩
  rintro i mm H' ⟨rfl, hil, accV, accD, e', hacc, hA, hk⟩
  have oL : Ok z (X.or Da) H0 H' σ env := o1.lock hD e' (by rw [hacc]; intro q; cases q)
  have ms2 : ∀ b, Ms z (X.or Da) σ env b → Ms z X σ env b ∨ b = Da := by
    rintro b (h | (h | h) | h)
    · exact .inl (.inl h)
    · exact .inl (.inr (.inl h))
    · exact .inr h
    · exact .inl (.inr (.inr h))
  have fr : Fr z X (Ms z X σ env) H1 (Ms z (X.or Da) σ env) H' := ⟨fun b u q n => ⟨e'.old b u q fun y => n (.inl y), fun y => (ms2 b y).elim n (ne_of_none q hD)⟩, e'.dk, e'.al⟩
  obtain ⟨y1, y2⟩ := yl _ _ fr
  by_cases hlt : i < ds.length
  · obtain ⟨go, y3⟩ := y2 i ds[i] (List.getElem?_eq_getElem hlt)
    rw [List.drop_eq_getElem_cons hlt] at hk
    refine .inr ⟨go, fun H2 => ∃ accV accD, Evo z H1 H2 ∧ H2 Da = some (.lst accV) ∧ IsA z (Ms z (X.or Da) σ env) H2 accV accD ∧ lcP pg pt pe (wipeE env vs) (ds.drop (i + 1)) accD fun r => k (.lst r), fun H2 h2 => ⟨ds.length - (i + 1), by omega, rfl, hlt, h2⟩, fun x H2 hy => ?_⟩
    obtain ⟨e2, is⟩ := y3 x H2 hy
    have oL2 := oL.go e2
    obtain ⟨oW, sub⟩ := oL2.wipe (vs := vs)
    refine hg z (X.or Da) H0 H2 _ _ x _ _ _ oW ((is (fun a q => .inl q) (fun b q => oL.notMs q)).weak sub) (fun env3 σ3 o3 f3 kp hx3 => ⟨wipe_eq kp hj, ?_⟩) hk
    refine ht z (X.or Da) H0 H2 σ3 env3 _ _ o3 (fun b H3 e3 hx4 => ?_) hx3
    have e13 := e'.trans (e2.trans e3)
    have acc3 : H3 Da = some (.lst accV) := e3.old _ _ (e2.old _ _ hacc hzD) hzD
    have A3 : IsA z (Ms z (X.or Da) σ env) H3 accV accD := hA.evo (fun _ q => .inl q) (e2.trans e3)
    cases b with
    | false =>
      rw [if_neg Bool.false_ne_true]
      exact ⟨accV, accD, e13, acc3, A3, hx4⟩
    | true =>
      rw [if_pos rfl]
      refine he z (X.or Da) H0 H3 σ3 env3 _ _ (o3.go e3) (fun r y H4 e4 r4 hx5 => ?_) hx4
      refine ⟨accV, e4.old _ _ acc3 hzD, by rw [hA.length]; exact szl hx5.1, accV ++ [y], accD ++ [r], (e13.trans e4).mut hD hzD (.lst (e4.old _ _ acc3 hzD)), upd_same, ?_, hx5.2⟩
      have ir : Is z (Ms z (X.or Da) σ env) H4 y r := Is.weak (ms_in hn hj kp) r4
      refine ((A3.evo (fun _ q => .inl q) e4).append (.cons ir .nil)).gen (fun b u q n => ⟨?_, n⟩) fun b hb => ok_mut hzD hb
      rw [upd_ne (fun w => n (by rw [w]; exact .inr (.inl (.inr rfl))))]
      exact q
  · have ei : i = ds.length := by omega
    subst ei
    rw [List.drop_length] at hk
    exact .inl ⟨y1, c (.lst accD) (.ref Da) H' (e1.trans e') ⟨Da, rfl, e1.fresh hD, accV, hacc, hA⟩ hk⟩
/-- two clauses -/
def lcP2 (vs1 : List Nat) (pg : PGt) (pt : PTs') (pi1 : PIt) (pg1 : PGt) (pt1 : PTs') (pe : PX) (env : List SV) : List D → List D → (List D → Prop) → Prop
  | [], acc, k => k acc
  | d :: ds, acc, k => pg d env fun env1 => pt env1 fun b => if b = true then pi1 env1 fun ds1 => noOwn env1 vs1 ∧ lcP pg1 pt1 pe (wipeE env1 vs1) ds1 acc fun acc1 => lcP2 vs1 pg pt pi1 pg1 pt1 pe env ds acc1 k else lcP2 vs1 pg pt pi1 pg1 pt1 pe env ds acc k
def eLc2 (vs vs1 : List Nat) (pi : PIt) (pg : PGt) (pt : PTs') (pi1 : PIt) (pg1 : PGt) (pt1 : PTs') (pe : PX) : PX := fun env k => pi env fun ds => noOwn env vs ∧ lcP2 vs1 pg pt pi1 pg1 pt1 pe (wipeE env vs) ds [] fun r => k (.lst r)
theorem ms_or {z : Zn} {X : AP} {σ : Sl} {env : List SV} {a b : Addr} (h : Ms z (X.or a) σ env b) : Ms z X σ env b ∨ b = a := by
  rcases h with h | (h | h) | h
  · exact .inl (.inl h)
  · exact .inl (.inr (.inl h))
  · exact .inr h
  · exact .inl (.inr (.inr h))
theorem re_lc2 {wi wi1 : TI} {pi pi1 : PIt} {js js1 vs vs1 : List Nat} {g g1 : TG} {pg pg1 : PGt} {tt tt1 : TT} {pt pt1 : PTs'} {te : TE} {pe : PX} (hi : RI wi pi) (hg : RG js g pg) (hj : ∀ i ∈ js, i ∈ vs) (ht : RT tt pt) (hi1 : RI wi1 pi1) (hg1 : RG js1 g1 pg1) (hj1 : ∀ i ∈ js1, i ∈ vs1) (ht1 : RT tt1 pt1) (he : RE .e te pe) :
    RE .f (tLc2 wi g tt wi1 g1 tt1 te vs vs1) (eLc2 vs vs1 pi pg pt pi1 pg1 pt1 pe) := fun z X H0 H σ env Q k o c hp => by
  refine hi z X H0 H σ env _ _ o (fun ds J H1 e1 yl hx => ?_) hp
  obtain ⟨hn, hx⟩ := hx
  have o1 := o.go e1
  intro Da hD
  have hzD : ¬ z.Z Da := fun q => o1.zal Da q hD
  have nt : ∀ {u : HO}, some u ≠ none := fun q => by cases q
  refine ⟨fun i mm H' => mm = ds.length - i ∧ i ≤ ds.length ∧ ∃ accV accD, Evo z H1 H' ∧ H' Da = some (.lst accV) ∧ IsA z (Ms z (X.or Da) σ env) H' accV accD ∧ lcP2 vs1 pg pt pi1 pg1 pt1 pe (wipeE env vs) (ds.drop i) accD fun r => k (.lst r),
    ⟨ds.length, by simp, Nat.zero_le _, [], [], (Evo.refl _ _).new hD, upd_same, .nil, by simpa using hx⟩, ?_⟩
  rintro i mm H' ⟨rfl, hil, accV, accD, e', hacc, hA, hk⟩
  have oL : Ok z (X.or Da) H0 H' σ env := o1.lock hD e' (by rw [hacc]; exact nt)
  have fr : Fr z X (Ms z X σ env) H1 (Ms z (X.or Da) σ env) H' := ⟨fun b u q n => ⟨e'.old b u q fun y => n (.inl y), fun y => (ms_or y).elim n (ne_of_none q hD)⟩, e'.dk, e'.al⟩
  obtain ⟨y1, y2⟩ := yl _ _ fr
  by_cases hlt : i < ds.length
  · obtain ⟨go, y3⟩ := y2 i ds[i] (List.getElem?_eq_getElem hlt)
    rw [List.drop_eq_getElem_cons hlt] at hk
    refine .inr ⟨go, fun H2 => ∃ accV accD, Evo z H1 H2 ∧ H2 Da = some (.lst accV) ∧ IsA z (Ms z (X.or Da) σ env) H2 accV accD ∧ lcP2 vs1 pg pt pi1 pg1 pt1 pe (wipeE env vs) (ds.drop (i + 1)) accD fun r => k (.lst r), fun H2 h2 => ⟨ds.length - (i + 1), by omega, rfl, hlt, h2⟩, fun x H2 hy => ?_⟩
    obtain ⟨e2, is⟩ := y3 x H2 hy
    have oL2 := oL.go e2
    obtain ⟨oW, sub⟩ := oL2.wipe (vs := vs)
    refine hg z (X.or Da) H0 H2 _ _ x _ _ _ oW ((is (fun a q => .inl q) (fun b q => oL.notMs q)).weak sub) (fun env3 σ3 o3 f3 kp hx3 => ⟨wipe_eq kp hj, ?_⟩) hk
    refine ht z (X.or Da) H0 H2 σ3 env3 _ _ o3 (fun b H3 e3 hx4 => ?_) hx3
    have e13 := e'.trans (e2.trans e3)
    have acc3 : H3 Da = some (.lst accV) := e3.old _ _ (e2.old _ _ hacc hzD) hzD
    have A3 : IsA z (Ms z (X.or Da) σ env) H3 accV accD := hA.evo (fun _ q => .inl q) (e2.trans e3)
    have o3' := o3.go e3
    have up : ∀ a, Ms z (X.or Da) σ env a → Ms z (X.or Da) σ3 env3 a := ms_in hn hj kp
    cases b with
    | false =>
      rw [if_neg Bool.false_ne_true]
      exact ⟨accV, accD, e13, acc3, A3, hx4⟩
    | true =>
      rw [if_pos rfl]
      refine hi1 z (X.or Da) H0 H3 σ3 env3 _ _ o3' (fun ds1 J1 H4 e4 yl1 hx5 => ?_) hx4
      obtain ⟨hn1, hx5⟩ := hx5
      have o4 := o3'.go e4
      refine ⟨fun j mm H' => mm = ds1.length - j ∧ j ≤ ds1.length ∧ ∃ accV accD, Evo z H1 H' ∧ Fr z (X.or Da) (Ms z (X.or Da) σ3 env3) H4 (Ms z (X.or Da) σ3 env3) H' ∧ Ok z (X.or Da) H0 H' σ3 env3 ∧ H' Da = some (.lst accV) ∧ IsA z (Ms z (X.or Da) σ env) H' accV accD ∧
          lcP pg1 pt1 pe (wipeE env3 vs1) (ds1.drop j) accD fun acc1 => lcP2 vs1 pg pt pi1 pg1 pt1 pe (wipeE env vs) (ds.drop (i + 1)) acc1 fun r => k (.lst r),
        ⟨ds1.length, by simp, Nat.zero_le _, accV, accD, e13.trans e4, Fr.refl, o4, e4.old _ _ acc3 hzD, A3.evo (fun _ q => .inl q) e4, by simpa using hx5⟩, ?_⟩
      rintro j mm H5 ⟨rfl, hjl, accV, accD, e5, f5, o5, hacc, hA, hk⟩
      obtain ⟨y1, y2⟩ := yl1 _ _ f5
      by_cases hlt1 : j < ds1.length
      · obtain ⟨go, y3⟩ := y2 j ds1[j] (List.getElem?_eq_getElem hlt1)
        rw [List.drop_eq_getElem_cons hlt1] at hk
        refine .inr ⟨go, fun H' => ∃ accV accD, Evo z H1 H' ∧ Fr z (X.or Da) (Ms z (X.or Da) σ3 env3) H4 (Ms z (X.or Da) σ3 env3) H' ∧ Ok z (X.or Da) H0 H' σ3 env3 ∧ H' Da = some (.lst accV) ∧ IsA z (Ms z (X.or Da) σ env) H' accV accD ∧
          lcP pg1 pt1 pe (wipeE env3 vs1) (ds1.drop (j + 1)) accD fun acc1 => lcP2 vs1 pg pt pi1 pg1 pt1 pe (wipeE env vs) (ds.drop (i + 1)) acc1 fun r => k (.lst r), fun H2 h2 => ⟨ds1.length - (j + 1), by omega, rfl, hlt1, h2⟩, fun x H6 hy => ?_⟩
        obtain ⟨e6, is⟩ := y3 x H6 hy
        have o6 := o5.go e6
        obtain ⟨oW, sub⟩ := o6.wipe (vs := vs1)
        refine hg1 z (X.or Da) H0 H6 _ _ x _ _ _ oW ((is (fun a q => .inl q) (fun b q => o5.notMs q)).weak sub) (fun env7 σ7 o7 f7 kp7 hx7 => ⟨wipe_eq kp7 hj1, ?_⟩) hk
        refine ht1 z (X.or Da) H0 H6 σ7 env7 _ _ o7 (fun b H7 e7 hx8 => ?_) hx7
        have e67 := e6.trans e7
        have acc7 : H7 Da = some (.lst accV) := e67.old _ _ hacc hzD
        have A7 : IsA z (Ms z (X.or Da) σ env) H7 accV accD := hA.evo (fun _ q => .inl q) e67
        cases b with
        | false =>
          rw [if_neg Bool.false_ne_true]
          exact ⟨accV, accD, e5.trans e67, f5.trans (o5.fr e67), o5.go e67, acc7, A7, hx8⟩
        | true =>
          rw [if_pos rfl]
          refine he z (X.or Da) H0 H7 σ7 env7 _ _ (o7.go e7) (fun r y H8 e8 r8 hx9 => ?_) hx8
          have e58 := e67.trans e8
          have o8 := o5.go e58
          have inD : ∀ {σ : Sl} {env : List SV}, Ms z (X.or Da) σ env Da := .inr (.inl (.inr rfl))
          have old : ∀ (M : AP), M Da → ∀ b u, H8 b = some u → ¬ M b → upd H8 Da (.lst (accV ++ [y])) b = some u ∧ ¬ M b := fun M hM b u q n => ⟨by rw [upd_ne (fun w => n (by rw [w]; exact hM))]; exact q, n⟩
          have dk : ∀ b, z.ok H8 b → z.ok (upd H8 Da (.lst (accV ++ [y]))) b := fun b hb => ok_mut hzD hb
          have al : ∀ b, H8 b ≠ none → upd H8 Da (.lst (accV ++ [y])) b ≠ none := fun b hb => by
            by_cases w : b = Da
            · rw [w, upd_same]; exact nt
            · rw [upd_ne w]; exact hb
          have h0D : H0 Da = none := o1.evo.fresh hD
          refine ⟨accV, e8.old _ _ acc7 hzD, by rw [hA.length]; exact szl hx9.1, accV ++ [y], accD ++ [r], (e5.trans e58).mut hD hzD (.lst (e8.old _ _ acc7 hzD)), (f5.trans (o5.fr e58)).trans ⟨old _ inD, dk, al⟩, ?_, upd_same, ?_, hx9.2⟩
          · refine ⟨o8.len, o8.evo.mut h0D hzD (.lst (e8.old _ _ acc7 hzD)), fun b q => al b (o8.zal b q), fun b q => ⟨al b (o8.xal b q).1, (o8.xal b q).2⟩, fun i d q => ?_, fun i d q => ?_, o8.inj, o8.tab.mut hzD (.lst (e8.old _ _ acc7 hzD))⟩
            · obtain ⟨v, h1, h2⟩ := o8.val i d q
              exact ⟨v, h1, h2.gen (old _ inD) dk⟩
            · obtain ⟨a, h1, h2, h3, h4, h5⟩ := o8.own i d q
              exact ⟨a, h1, h2.gen (fun u w => by rw [upd_ne (fun x => h4 (.inr x))]; exact w) (old _ inD) dk, h3, h4, h5⟩
          · have ir : Is z (Ms z (X.or Da) σ env) H8 y r := Is.weak (fun a q => ms_in hn1 hj1 kp7 a (up a q)) r8
            exact ((A7.evo (fun _ q => .inl q) e8).append (.cons ir .nil)).gen (old _ inD) dk
      · have ei : j = ds1.length := by omega
        subst ei
        rw [List.drop_length] at hk
        exact .inl ⟨y1, accV, accD, e5, hacc, hA, hk⟩
  · have ei : i = ds.length := by omega
    subst ei
    rw [List.drop_length] at hk
    exact .inl ⟨y1, c (.lst accD) (.ref Da) H' (e1.trans e') ⟨Da, rfl, e1.fresh hD, accV, hacc, hA⟩ hk⟩
section
variable {C : Cx} {fr : Bool} {elt tg iter tg1 iter1 : Expr} {ifs ifs1 : List Expr} {scope : Scope} {own : List (Str × Nat)} {pos : Pos} {pi pi1 : PIt} {js js1 vs1 : List Nat} {g g1 : TG} {pg pg1 : PGt} {pt pt1 : PTs'} {pe : PX}
theorem e_lc (hi : I C tg iter pi) (hg : ∀ (s : Shared) (H : Hp) (Ca : Addr) (cl : List (Str × Addr)) (fp : List Addr), G (C.blk s H scope (compEnvC scope cl Ca C.env) fp) tg js g pg) (ht : ∀ (s : Shared) (H : Hp) (Ca : Addr) (cl : List (Str × Addr)) (fp : List Addr), Ts (C.blk s H scope (compEnvC scope cl Ca C.env) fp) ifs pt)
    (he : ∀ (s : Shared) (H : Hp) (Ca : Addr) (cl : List (Str × Addr)) (fp : List Addr), E .e (C.blk s H scope (compEnvC scope cl Ca C.env) fp) elt pe) (hc : C.calm = true) (hN : C.N.Nodup) (ok : BlkOk C.N C.env.scope scope own) (hj : ∀ i ∈ js, i ∈ own.map (·.2)) (rg : RG js g pg) (hs : ∀ x, foldedSetIterable iter C.env x = pure x := by intro _; rfl) :
    E .f C (.ListComp elt [⟨tg, iter, ifs, 0⟩] scope pos) (eLc (own.map (·.2)) pi pg pt pe) :=
  ⟨_, pe_lc hc hN hi.pi ok (fun s H Ca cl fp => (hg s H Ca cl fp).pg) (fun s H Ca cl fp => (ht s H Ca cl fp).ex) (fun s H Ca cl fp => (he s H Ca cl fp).pe) hs, re_lc ri_tP rg hj rt_tP re_tP⟩
theorem s_ownLc {i : Nat} {y : Str} {py spos : Pos} (hi : I C tg iter pi) (hg : ∀ (s : Shared) (H : Hp) (Ca : Addr) (cl : List (Str × Addr)) (fp : List Addr), G (C.blk s H scope (compEnvC scope cl Ca C.env) fp) tg js g pg) (ht : ∀ (s : Shared) (H : Hp) (Ca : Addr) (cl : List (Str × Addr)) (fp : List Addr), Ts (C.blk s H scope (compEnvC scope cl Ca C.env) fp) ifs pt)
    (he : ∀ (s : Shared) (H : Hp) (Ca : Addr) (cl : List (Str × Addr)) (fp : List Addr), E .e (C.blk s H scope (compEnvC scope cl Ca C.env) fp) elt pe) (hc : C.calm = true) (hN : C.N.Nodup) (hy : C.N[i]? = some y) (hyl : C.env.scope.names.lookup y = some .local)
    (hsw : swapsWith (.ListComp elt [⟨tg, iter, ifs, 0⟩] scope pos) (some (.Name y py)) spos.line C.env = pure true) (ok : BlkOk C.N C.env.scope scope own) (hj : ∀ i ∈ js, i ∈ own.map (·.2)) (rg : RG js g pg) (hs : ∀ x, foldedSetIterable iter C.env x = pure x := by intro _; rfl) :
    S fr C (.Assign [.Name y py] (.ListComp elt [⟨tg, iter, ifs, 0⟩] scope pos) spos) (sOwn i (eLc (own.map (·.2)) pi pg pt pe)) :=
  ⟨_, ps_setLc hc hN hy hyl hsw hi.pi ok (fun s H Ca cl fp => (hg s H Ca cl fp).pg) (fun s H Ca cl fp => (ht s H Ca cl fp).ex) (fun s H Ca cl fp => (he s H Ca cl fp).pe) hs, rs_own (re_lc ri_tP rg hj rt_tP re_tP)⟩
theorem RE.fe' {t : TE} {p : PX} (h : RE .f t p) : RE .e t p := fun z X H0 H σ env Q k o c hp => h z X H0 H σ env Q k o (fun d v H' ev r kd => c d v H' ev (r.fe o) kd) hp
theorem rs_set {i : Nat} {t : TE} {p : PX} (h : RE .e t p) : RS fr (tAsg t (gName i)) (sSet i p) := fun z X H0 H σ env G k o s hp => h z X H0 H σ env _ _ o (fun d v H1 e1 r1 hx => by
  obtain ⟨o2, f2⟩ := (o.go e1).set (i := i) (show Is z _ H1 v d from r1)
  exact s.nx _ _ H1 o2 ((o.fr e1).trans f2) hx) hp
theorem s_setLc {i : Nat} {y : Str} {py spos : Pos} (hi : I C tg iter pi) (hg : ∀ (s : Shared) (H : Hp) (Ca : Addr) (cl : List (Str × Addr)) (fp : List Addr), G (C.blk s H scope (compEnvC scope cl Ca C.env) fp) tg js g pg) (ht : ∀ (s : Shared) (H : Hp) (Ca : Addr) (cl : List (Str × Addr)) (fp : List Addr), Ts (C.blk s H scope (compEnvC scope cl Ca C.env) fp) ifs pt)
    (he : ∀ (s : Shared) (H : Hp) (Ca : Addr) (cl : List (Str × Addr)) (fp : List Addr), E .e (C.blk s H scope (compEnvC scope cl Ca C.env) fp) elt pe) (hc : C.calm = true) (hN : C.N.Nodup) (hy : C.N[i]? = some y) (hyl : C.env.scope.names.lookup y = some .local)
    (hsw : swapsWith (.ListComp elt [⟨tg, iter, ifs, 0⟩] scope pos) (some (.Name y py)) spos.line C.env = pure true) (ok : BlkOk C.N C.env.scope scope own) (hj : ∀ i ∈ js, i ∈ own.map (·.2)) (rg : RG js g pg) (hs : ∀ x, foldedSetIterable iter C.env x = pure x := by intro _; rfl) :
    S fr C (.Assign [.Name y py] (.ListComp elt [⟨tg, iter, ifs, 0⟩] scope pos) spos) (sSet i (eLc (own.map (·.2)) pi pg pt pe)) :=
  ⟨_, ps_setLc hc hN hy hyl hsw hi.pi ok (fun s H Ca cl fp => (hg s H Ca cl fp).pg) (fun s H Ca cl fp => (ht s H Ca cl fp).ex) (fun s H Ca cl fp => (he s H Ca cl fp).pe) hs, rs_set (RE.fe' (re_lc ri_tP rg hj rt_tP re_tP))⟩
theorem e_lc2 (hi : I C tg iter pi) (hg : ∀ (s : Shared) (H : Hp) (Ca : Addr) (cl : List (Str × Addr)) (fp : List Addr), G (C.blk s H scope (compEnvC scope cl Ca C.env) fp) tg js g pg) (ht : ∀ (s : Shared) (H : Hp) (Ca : Addr) (cl : List (Str × Addr)) (fp : List Addr), Ts (C.blk s H scope (compEnvC scope cl Ca C.env) fp) ifs pt)
    (hi1 : ∀ (s : Shared) (H : Hp) (Ca : Addr) (cl : List (Str × Addr)) (fp : List Addr), I (C.blk s H scope (compEnvC scope cl Ca C.env) fp) tg1 iter1 pi1)
    (hg1 : ∀ (s : Shared) (H : Hp) (Ca : Addr) (cl : List (Str × Addr)) (fp : List Addr), G (C.blk s H scope (compEnvC scope cl Ca C.env) fp) tg1 js1 g1 pg1) (ht1 : ∀ (s : Shared) (H : Hp) (Ca : Addr) (cl : List (Str × Addr)) (fp : List Addr), Ts (C.blk s H scope (compEnvC scope cl Ca C.env) fp) ifs1 pt1)
    (he : ∀ (s : Shared) (H : Hp) (Ca : Addr) (cl : List (Str × Addr)) (fp : List Addr), E .e (C.blk s H scope (compEnvC scope cl Ca C.env) fp) elt pe) (hc : C.calm = true) (hN : C.N.Nodup) (ok : BlkOk C.N C.env.scope scope own) (hj : ∀ i ∈ js, i ∈ own.map (·.2)) (hj1 : ∀ i ∈ js1, i ∈ vs1) (hv : ∀ i ∈ vs1, i ∈ own.map (·.2)) (rg : RG js g pg) (rg1 : RG js1 g1 pg1)
    (hs : ∀ x, foldedSetIterable iter C.env x = pure x := by intro _; rfl) (hs1 : ∀ env x, foldedSetIterable iter1 env x = pure x := by intro _ _; rfl) :
    E .f C (.ListComp elt [⟨tg, iter, ifs, 0⟩, ⟨tg1, iter1, ifs1, 0⟩] scope pos) (eLc2 (own.map (·.2)) vs1 pi pg pt pi1 pg1 pt1 pe) :=
  ⟨_, pe_lc2 hc hN hi.pi ok hv (fun s H Ca cl fp => (hg s H Ca cl fp).pg) (fun s H Ca cl fp => (ht s H Ca cl fp).ex) (fun s H Ca cl fp => (hi1 s H Ca cl fp).pi) (fun s H Ca cl fp => (hg1 s H Ca cl fp).pg) (fun s H Ca cl fp => (ht1 s H Ca cl fp).ex) (fun s H Ca cl fp => (he s H Ca cl fp).pe) hs hs1,
    re_lc2 ri_tP rg hj rt_tP ri_tP rg1 hj1 rt_tP re_tP⟩
end
end Pu
namespace Pu
open PySem PySem.Spec PyProof.Rows L2
variable [Tbs]
/-! ### targets, once more without a place -/
theorem rg_name {i : Nat} : RG [i] (gName i) (gtName i) := fun z X H0 H σ env v d Q k o hv c hp => let ⟨o2, f2⟩ := o.set (i := i) hv; c _ _ o2 f2 ⟨by simp, fun j hj => by
    have hj' : i ≠ j := fun e => hj (by simp [e])
    exact ⟨List.getElem?_set_ne hj', List.getElem?_set_ne hj'⟩⟩ hp
theorem rgs_nil : RGs [] gNil gtNil := fun z X H0 H σ env v d Q k o hv c hp => by
  cases hv with
  | nil => exact ⟨rfl, c env σ o Fr.refl Keep.refl hp⟩
  | cons _ _ => exact (show False from hp).elim
theorem rgs_cons {js ks : List Nat} {g : TG} {gs : TGs} {p : PGt} {q : PGs'} (h1 : RG js g p) (h2 : RGs ks gs q) : RGs (js ++ ks) (gCons g gs) (gtCons p q) := fun z X H0 H σ env v d Q k o hv c hp => by
  cases hv with
  | nil => exact (show False from hp).elim
  | cons q t =>
    refine ⟨_, _, rfl, h1 z X H0 H σ env _ _ _ _ o q (fun env' σ' o' f' kp hx => ?_) hp⟩
    exact h2 z X H0 H σ' env' _ _ _ _ o' (f'.isA t) (fun env2 σ2 o2 f2 kp2 hy => c env2 σ2 o2 (f'.trans f2) (kp.trans kp2) hy) hx
theorem rg_tup {K : PySem.W.Frag} {js : List Nat} {gs : TGs} {q : PGs'} {n : Nat} (h : RGs js gs q) : RG js (gTup K n gs) (gtTup n q) := fun z X H0 H σ env v d Q k o hv c hp => by
  cases hv with
  | tup e nn r => exact ⟨_, _, rfl, SqT.of e, by rw [r.length]; exact hp.1, h z X H0 H σ env _ _ _ _ o r c hp.2⟩
  | _ => exact (show False from hp).elim
/-! ### a def by its body -/
def wpOf (fr : Bool) (n : Nat) (p : PSt) : List D → (D → Prop) → Prop := fun ds k => p (ds.map SV.val ++ List.replicate (n - ds.length) SV.no) { nx := fun _ => fr = false ∧ k .non, rt := k }
theorem start_ok {z : Zn} {X : AP} {H : Hp} {N : List Str} {vs : List V} {ds : List D} (hz : (∀ a, z.Z a → H a ≠ none) ∧ Tabs H) (hx : ∀ a, X a → H a ≠ none ∧ ¬ z.Z a) (hA : IsA z (Zx z X) H vs ds) :
    Ok z X H H (L2.start N vs) (ds.map SV.val ++ List.replicate (N.length - ds.length) SV.no) := by
  have hl := hA.length
  have no : ∀ (i : Nat) (d : D), (ds.map SV.val ++ List.replicate (N.length - ds.length) SV.no)[i]? = some (.own d) → False := fun i d h => by
    by_cases hi : i < ds.length
    · rw [List.getElem?_append_left (by simpa using hi), List.getElem?_map] at h
      cases q : ds[i]? with
      | none => rw [q] at h; cases h
      | some x => rw [q] at h; cases h
    · rw [List.getElem?_append_right (by simpa using hi), List.getElem?_replicate] at h
      split at h <;> cases h
  have ms : ∀ a, Ms z X (L2.start N vs) (ds.map SV.val ++ List.replicate (N.length - ds.length) SV.no) a → Zx z X a := by
    rintro a (h | h | ⟨i, d, h1, _⟩)
    · exact .inl h
    · exact .inr h
    · exact (no i d h1).elim
  refine ⟨by unfold L2.start; simp [hl], Evo.refl _ _, hz.1, hx, fun i d h => ?_, fun i d h => (no i d h).elim, fun i j a d e h _ _ _ => (no i d h).elim, hz.2⟩
  by_cases hi : i < ds.length
  · rw [List.getElem?_append_left (by simpa using hi), List.getElem?_map] at h
    cases q : ds[i]? with
    | none => rw [q] at h; cases h
    | some x =>
      rw [q] at h
      cases h
      obtain ⟨v, h1, h2⟩ := hA.get q
      refine ⟨v, ?_, h2.weak ms⟩
      unfold L2.start
      rw [List.getElem?_append_left (by simpa [hl] using hi), List.getElem?_map, h1]
      rfl
  · rw [List.getElem?_append_right (by simpa using hi), List.getElem?_replicate] at h
    split at h <;> cases h
section
variable {P : Program} {w : World} {K : PySem.W.Frag} {mg : Str → Option Value} {base : Heap}
theorem fn_ok {x qual : Str} {st : Stmt} {f : Addr} {fd : FuncData} {N ps : List Str} {k : Nat} {fr : Bool} {p : PSt} (F : Fun K x qual st f fd) (S : FnScope N ps (defScope st))
    (hb : ∀ (cdv : Value) (A : Around) (outer : List Env) (s : Shared) (H : Hp) (E : XK), Room k (A.deeper (envOfC qual (defScope st) s.heap.objs.size f cdv)) → B fr (cxOf CX0 P w K mg base N qual (defScope st) f cdv A outer s H E).nox (defBody st) p) :
    FnOk P w K mg base CX0 (k + 1) f fd ps (Sf fr ps.length (wpOf fr N.length p)) := by
  refine F.ok S (fun vs H Q E h => ?_) (fun cdv A outer s H vs Q E hr h => ?_)
  · obtain ⟨z, X, ds, kk, hl, _⟩ := h
    exact hl
  · obtain ⟨z, X, ds, kk, hl, hz, hx, hA, hw, c⟩ := h
    obtain ⟨t, b1, b2⟩ := hb cdv A outer s H E hr
    refine ⟨t, b1, b2 z X H H (L2.start N vs) _ _ { nx := fun _ => fr = false ∧ kk .non, rt := kk } (start_ok hz hx hA) ⟨fun env' σ' H' o' f' hk => ?_, fun d v H' e r fq hk => ?_, fun _ _ _ _ _ hk => hk.elim, fun _ _ _ _ _ hk => hk.elim, fun _ _ _ _ _ _ _ h => h.elim⟩ hw⟩
    · exact c .non .non H' o'.evo .non (fun q => by rw [hk.1] at q; cases q) hk.2
    · exact c d v H' e r fq hk
end
section
variable {C : Cx} {e a b : Expr} {es : List Expr} {p q : PX} {m : Mode} {fr : Bool} {pos pp : Pos} {x : Str}
/-! ### tuple(range(..)), list(range(..)) -/
def dRg (f : List D → D) : D → D → (D → Prop) → Prop := fun x y k => match x, y with
  | .int i, .int j => (0 ≤ i ∧ i < 100000 ∧ 0 ≤ j ∧ j < 100000) ∧ k (f (rangeD i (j - i).toNat))
  | _, _ => False
def eRg1 (f : List D → D) (p : PX) : PX := fun env k => p env fun x => dRg f (.int 0) x k
theorem isa_rg {z : Zn} {M : AP} {H : Hp} {i j : Int} : IsA z M H (rgV i j) (rangeD i (j - i).toNat) := by
  unfold rgV rangeD
  generalize (j - i).toNat = n
  have : ∀ (l : List Nat), IsA z M H (l.map fun t => V.int (i + (t : Nat))) (l.map fun t => D.int (i + (t : Nat))) := fun l => by
    induction l with
    | nil => exact .nil
    | cons t l ih => exact .cons (.int _) ih
  exact this _
theorem e_lstRg1 (h : E m C a p) (hc : C.calm = true) (hg : Gl C "list") (hm : C.mg "list" = none) (hg' : Gl C "range") (hm' : C.mg "range" = none) {p2 pos2 : Pos} (na : starEach [a] C.env = (false, eval a C.env) :: starEach [] C.env := by rfl)
    (nb : starEach [.Call (.Name "range" p2) [a] [] pos2] C.env = (false, eval (.Call (.Name "range" p2) [a] [] pos2) C.env) :: starEach [] C.env := by rfl) : E .f C (.Call (.Name "list" pp) [.Call (.Name "range" p2) [a] [] pos2] [] pos) (eRg1 .lst p) := by
  obtain ⟨t, h1, h2⟩ := h.toB
  refine ⟨_, pe_listRg hc hg hm (prg_1 hg' hm' h1 na) nb, fun z X H0 H σ env Q k o c hp => h2 z X H0 H σ env _ _ o (fun d v H1 e1 r1 hx => ?_) hp⟩
  cases d with
  | int i =>
    cases Is.intI r1
    obtain ⟨hb, hk⟩ := hx
    exact ⟨i, rfl, ⟨by omega, by omega, by omega, by omega, by omega⟩, fun q hq => c _ _ _ (e1.new hq) (Rel.newL (e1.fresh hq) hq isa_rg) hk⟩
  | _ => exact (show False from hx).elim
def dRevL : D → (D → Prop) → Prop := fun d k => match d with
  | .lst xs => k (.lst xs.reverse)
  | _ => False
/-! ### more changes of what a slot owns -/
/-- y = x.pop(e) -/
def sPopAt (j i : Nat) (p : PX) : PSt := fun env k => match env[i]? with
  | some (.own (.lst xs)) => p env fun d => inK d fun n => (-100000 < n ∧ n < 100000) ∧ ∃ jj y, seqIndex? n xs.length = some jj ∧ xs[jj]? = some y ∧ k.nx ((env.set i (.own (.lst (xs.eraseIdx jj)))).set j (.val y))
  | _ => False
theorem mutL {z : Zn} {X : AP} {H0 H : Hp} {σ : Sl} {env : List SV} {i : Nat} {a : Addr} {d : D} {vs' : List V} {ds' : List D} (o : Ok z X H0 H σ env) (hi : env[i]? = some (.own d)) (hs : σ[i]? = some (some (V.ref a))) (hz : ¬ z.Z a) (h : IsA z (Ms z X σ env) H vs' ds') :
    Ok z X H0 (upd H a (.lst vs')) σ (env.set i (.own (.lst ds'))) ∧ Fr z X (Ms z X σ env) H (Ms z X σ (env.set i (.own (.lst ds')))) (upd H a (.lst vs')) := by
  have ia : Ms z X σ env a := .inr (.inr ⟨i, _, hi, hs⟩)
  exact o.mut hi hs ⟨vs', upd_same, h.gen (fun b u hb n => ⟨by rw [upd_ne (fun e => n (by rw [e]; exact ia))]; exact hb, n⟩) fun b hb => ok_mut hz hb⟩
theorem s_popAt (j i : Nat) {x y : Str} {py apos cpos : Pos} (h : E m C e p) (hj : C.N[j]? = some y) (hy : Loc C.env.scope y) (hND : C.N.Nodup)
    (hb : ∀ to te, PE C (.Name x pp) to → PE C e te → PE C (.Call (.Attribute (.Name x pp) "pop" apos) [e] [] cpos) (tBM C.K "list" rPopAt to (tCons te tNil)))
    (hN : C.N[i]? = some x := by rfl) (hv : Vis C.env.scope x := by first | exact Or.inl rfl | exact Or.inr (Or.inl rfl) | exact Or.inr (Or.inr rfl)) (hd : (x == ("__debug__" : Str)) = false := by decide)
    (hcd : (x == ("__classdict__" : Str)) = false := by decide)
    (hs : swapsWith (.Call (.Attribute (.Name x pp) "pop" apos) [e] [] cpos) (some (.Name y py)) pos.line C.env = pure false := by rfl) (hf : C.fn y = true ∨ C.env.scope.names.lookup y = some .local := by first | exact .inl rfl | exact .inr rfl | assumption) :
    S fr C (.Assign [.Name y py] (.Call (.Attribute (.Name x pp) "pop" apos) [e] [] cpos) pos) (sPopAt j i p) := by
  obtain ⟨t, h1, h2⟩ := h.toB
  refine ⟨_, ps_set hND hj hy (hb _ _ (pe_var hN hv hd hcd) h1) hs hf, fun z X H0 H σ env G k o s hp => ?_⟩
  unfold sPopAt at hp
  split at hp
  · rename_i xs he
    obtain ⟨a, q1, ⟨vs, q5, q6⟩, q3, q4⟩ := o.own i _ he
    refine ⟨_, q1, .inl ⟨rfl, vs, SqL.of q5⟩, h2 z X H0 H σ env _ _ o (fun d v H1 e1 r1 hx => ?_) hp⟩
    cases d with
    | int n =>
      cases Is.intI r1
      obtain ⟨hn, jj, yy, g1, g2, hk⟩ := hx
      have o1 := o.go e1
      have q5' := e1.old a _ q5 q3
      have q6' := IsA.evo (fun _ q => .inl q) e1 q6
      obtain ⟨w, w1, w2⟩ := q6'.get g2
      refine ⟨a, vs, n, jj, w, rfl, rfl, q5', by omega, by omega, by rw [q6.length]; exact g1, w1, ?_⟩
      obtain ⟨o2, f2⟩ := mutL o1 he q1 q3 (q6'.eraseIdx jj)
      obtain ⟨o3, f3⟩ := o2.set (i := j) (f2.is w2)
      exact s.nx _ _ _ o3 ((o.fr e1).trans (f2.trans f3)) hk
    | _ => exact (show False from hx).elim
  · exact hp.elim
/-- x[i] = e -/
def sPut (i : Nat) (pi pe : PX) : PSt := fun env k => pe env fun y => match env[i]? with
  | some (.own (.lst xs)) => pi env fun d => match d with
    | .int n => ∃ jj, ixN xs.length n = some jj ∧ k.nx (env.set i (.own (.lst (xs.set jj y))))
    | _ => False
  | _ => False
theorem s_put (i : Nat) {x : Str} {ix : Expr} {spos : Pos} (he : E .e C e p) (hi : E m C ix q) (hN : C.N[i]? = some x := by rfl) (hv : Vis C.env.scope x := by first | exact Or.inl rfl | exact Or.inr (Or.inl rfl) | exact Or.inr (Or.inr rfl)) (hd : (x == ("__debug__" : Str)) = false := by decide)
    (hcd : (x == ("__classdict__" : Str)) = false := by decide)
    (ha : ∀ v, assign (.Subscript (.Name x pp) ix spos) C.env v = (do
      let ov ← holding [v] (eval (.Name x pp) C.env)
      let iv ← holding [v, ov] (eval ix C.env)
      standAt spos
      holding [v, ov, iv] (setItem ov iv v)
      release [v, ov, iv] []) := by intro _; rfl)
    (hs : swapsWithSole [.Subscript (.Name x pp) ix spos] e pos.line C.env = pure false := by rfl) (hw : swappedStores [.Subscript (.Name x pp) ix spos] e C.env = pure none := by rfl)
    (h1 : (assignEach [.Subscript (.Name x pp) ix spos] C.env).map (·.2) = [assign (.Subscript (.Name x pp) ix spos) C.env] := by rfl) : S fr C (.Assign [.Subscript (.Name x pp) ix spos] e pos) (sPut i q p) := by
  obtain ⟨t, a1, a2⟩ := he
  obtain ⟨t2, b1, b2⟩ := hi.toB
  refine ⟨_, ps_asg a1 (pg_sub (pe_var hN hv hd hcd) b1 set_list ha) hs hw h1, fun z X H0 H σ env G k o s hp => a2 z X H0 H σ env _ _ o (fun y v H1 e1 r1 hx => ?_) hp⟩
  split at hx
  · rename_i xs he
    have o1 := o.go e1
    obtain ⟨a, q1, ⟨vs, q5, q6⟩, q3, q4⟩ := o1.own i _ he
    refine ⟨_, q1, b2 z X H0 H1 σ env _ _ o1 (fun d u H2 e2 r2 hx => ?_) hx⟩
    cases d with
    | int n =>
      cases Is.intI r2
      obtain ⟨jj, g1, hk⟩ := hx
      have o2 := o1.go e2
      have q5' := e2.old a _ q5 q3
      have q6' := IsA.evo (fun _ q => .inl q) e2 q6
      refine ⟨a, vs, n, jj, rfl, rfl, q5', by rw [q6.length]; exact g1, ?_⟩
      obtain ⟨o3, f3⟩ := mutL o2 he q1 q3 (IsA.set (Is.evo (fun _ q => .inl q) e2 r1) jj q6')
      exact s.nx _ _ _ o3 ((o.fr (e1.trans e2)).trans f3) hk
    | _ => exact (show False from hx).elim
  · exact hx.elim
/-! ### while -/
def whileN (c : PTs') (body : PSt) (k : PK') : Nat → List SV → Prop
  | 0, _ => False
  | n + 1, env => c env fun b => if b = true then body env { nx := whileN c body k n, rt := k.rt, bk := k.nx, ct := whileN c body k n } else k.nx env
def sWhile (c : PTs') (body : PSt) : PSt := fun env k => ∃ n, whileN c body k n env
theorem s_while {c : Expr} {body : List Stmt} {pc : PTs'} {pb : PSt} (h : T C c pc) (g : B fr C body pb) (hp : PassesOwn (model C.prog C.w) C.A C.env C.xe) : S fr C (.While c body [] pos) (sWhile pc pb) := by
  obtain ⟨t, h1, h2⟩ := h
  obtain ⟨u, g1, g2⟩ := g
  refine ⟨_, ps_while hp h1 g1, fun z X H0 H σ env G k o s hw => ?_⟩
  obtain ⟨n, hw⟩ := hw
  refine ⟨fun mm σ' H' => ∃ env', Ok z X H0 H' σ' env' ∧ Fr z X (Ms z X σ env) H (Ms z X σ' env') H' ∧ whileN pc pb k mm env', ⟨n, env, o, Fr.refl, hw⟩, ?_⟩
  rintro mm σ' H' ⟨env', o', f', hw'⟩
  cases mm with
  | zero => exact hw'.elim
  | succ mm =>
    refine h2 z X H0 H' σ' env' _ _ o' (fun b H1 e1 hx => ?_) hw'
    have o1 := o'.go e1
    have f1 := f'.trans (o'.fr e1)
    cases b with
    | true =>
      rw [if_pos rfl] at hx ⊢
      refine ⟨fun σ2 H2 => ∃ env2, Ok z X H0 H2 σ2 env2 ∧ Fr z X (Ms z X σ env) H (Ms z X σ2 env2) H2 ∧ whileN pc pb k mm env2, fun σ2 H2 q => ⟨mm, Nat.lt_succ_self _, q⟩, ?_⟩
      exact g2 z X H0 H1 σ' env' _ { nx := whileN pc pb k mm, rt := k.rt, bk := k.nx, ct := whileN pc pb k mm } o1 ⟨fun env2 σ2 H2 o2 f2 hx2 => ⟨env2, o2, f1.trans f2, hx2⟩, s.rt, fun env2 σ2 H2 o2 f2 hx2 => s.nx env2 σ2 H2 o2 (f1.trans f2) hx2, fun env2 σ2 H2 o2 f2 hx2 => ⟨env2, o2, f1.trans f2, hx2⟩, fun _ _ _ _ _ _ _ h => h.elim⟩ hx
    | false =>
      rw [if_neg Bool.false_ne_true] at hx ⊢
      exact s.nx env' σ' H1 o1 f1 hx
end
end Pu
namespace Pu
open PySem PySem.Spec PyProof.Rows L2
variable [Tbs]
section
variable {C : Cx} {tg e : Expr} {pe : PX} {m : Mode} {fr : Bool} {pos pp : Pos}
/-- a list or a tuple walked -/
def iSeqT (K : PySem.W.Frag) (tl : TE) : TI := fun σ H R => tl σ H fun x H1 => (∃ a, x = .ref a ∧ (∃ xs, SqL K H1 a xs) ∧ R (Itl K a) H1) ∨ (∃ a, x = .ref a ∧ (∃ xs, SqT K H1 a xs) ∧ R (Itt K a) H1)
theorem pi_seq {l : Expr} {tl : TE} (hl : PE C l tl) : PI C tg l (iSeqT C.K tl) := by
  refine ⟨fun pins s σ H R I h => ?_⟩
  refine thn (hl.run pins s σ H _ I h) fun v s1 ⟨x, H1, I1, r1, q1⟩ => ?_
  have hb : ∀ b ∈ [s1.heap.objs.size], FpOk C pins H1 b := fun b hb => by
    have e : b = s1.heap.objs.size := by simpa using hb
    subst e
    exact I1.fpOk (Nat.le_refl _) (I1.hok.fresh (Nat.le_refl _))
  rcases q1 with ⟨a, e, ⟨xs, hq⟩, q⟩ | ⟨a, e, ⟨xs, hq⟩, q⟩
  · subst e
    cases r1
    obtain ⟨its, rv, p, hz⟩ := I1.list hq
    refine wpAny_pyIter_list p.isList ?_
    exact ⟨s1.heap.objs.size, [s1.heap.objs.size], _, _, H1, rfl, I1.kept (t' := s1.toks) fun b o e => Heap.get?_push_of_some _ e, turn_list a _, ⟨_, Heap.get?_push_size _ rfl, rfl, rfl⟩, hb, q⟩
  · subst e
    cases r1
    obtain ⟨its, rv, p, hz⟩ := I1.tuple hq
    refine wpAny_pyIter_tuple (show s1.heap.IsTuple a its.toArray from p) ?_
    exact ⟨s1.heap.objs.size, [s1.heap.objs.size], _, _, H1, rfl, I1.kept (t' := s1.toks) fun b o e => Heap.get?_push_of_some _ e, turn_tuple a _, ⟨_, Heap.get?_push_size _ rfl, rfl, rfl⟩, hb, q⟩
theorem i_seq (h : E .e C e pe) : I C tg e (iSeq pe) := by
  obtain ⟨t, h1, h2⟩ := h
  refine ⟨_, pi_seq h1, fun z X H0 H σ env R k o c hp => h2 z X H0 H σ env _ _ o (fun d v H1 e1 r1 hx => ?_) hp⟩
  cases (show Is z _ H1 v d from r1) with
  | lst e n r => exact .inl ⟨_, rfl, ⟨_, SqL.of e⟩, c _ _ H1 e1 (yl_lst e n r) hx⟩
  | tup e n r => exact .inr ⟨_, rfl, ⟨_, SqT.of e⟩, c _ _ H1 e1 (yl_tup e n r) hx⟩
  | _ => exact (show False from hx).elim
/-- what a slot owns is changed no more -/
def frz (i : Nat) (env : List SV) : List SV := match env[i]? with
  | some (.own d) => env.set i (.val d)
  | _ => env
theorem Ok.frz {z : Zn} {X : AP} {H0 H : Hp} {σ : Sl} {env : List SV} (o : Ok z X H0 H σ env) (i : Nat) : Ok z X H0 H σ (frz i env) ∧ Fr z X (Ms z X σ env) H (Ms z X σ (Pu.frz i env)) H := by
  unfold Pu.frz
  split
  · rename_i d hd
    have hl : i < env.length := (List.getElem?_eq_some_iff.mp hd).1
    obtain ⟨a, ha, hc, hz, hx, h0⟩ := o.own i d hd
    have sub : ∀ b, Ms z X σ (env.set i (.val d)) b → Ms z X σ env b ∧ b ≠ a := by
      rintro b (h | h | ⟨j, e, h1, h2⟩)
      · exact ⟨.inl h, fun q => hz (by rw [← q]; exact h)⟩
      · exact ⟨.inr (.inl h), fun q => hx (by rw [← q]; exact h)⟩
      · obtain ⟨hj, h1⟩ := set_own h1
        refine ⟨.inr (.inr ⟨j, e, h1, h2⟩), fun q => hj ?_⟩
        rw [q] at h2
        exact o.inj j i a e d h1 hd h2 ha
    have old : ∀ b u, H b = some u → ¬ Ms z X σ env b → H b = some u ∧ ¬ Ms z X σ (env.set i (.val d)) b := fun b u q n => ⟨q, fun y => n (sub b y).1⟩
    refine ⟨⟨by simp [o.len], o.evo, o.zal, o.xal, fun j e h => ?_, fun j e h => ?_, fun j l b e f h1 h2 h3 h4 => ?_, o.tab⟩, ⟨old, fun _ h => h, fun _ h => h⟩⟩
    · by_cases hj : i = j
      · subst hj
        rw [List.getElem?_set_self hl] at h
        cases h
        exact ⟨_, ha, (hc.gen (fun _ q => q) old fun _ h => h).is fun q => (sub a q).2 rfl⟩
      · rw [List.getElem?_set_ne hj] at h
        obtain ⟨v, h1, h2⟩ := o.val j e h
        exact ⟨v, h1, h2.gen old fun _ h => h⟩
    · obtain ⟨hj, h⟩ := set_own h
      obtain ⟨b, h1, h2, h3⟩ := o.own j e h
      exact ⟨b, h1, h2.gen (fun _ q => q) old fun _ h => h, h3⟩
    · exact o.inj j l b e f (set_own h1).2 (set_own h2).2 h3 h4
  · exact ⟨o, Fr.refl⟩
def sFrz (i : Nat) (p : PSt) : PSt := fun env k => p (frz i env) k
theorem b_frz (i : Nat) {sts : List Stmt} {p : PSt} (h : B fr C sts p) : B fr C sts (sFrz i p) := by
  obtain ⟨t, h1, h2⟩ := h
  refine ⟨t, h1, fun z X H0 H σ env G k o s hp => ?_⟩
  obtain ⟨o2, f2⟩ := o.frz i
  exact h2 z X H0 H σ _ G k o2 (s.go f2) hp
/-- t[::-1] of a list -/
theorem e_revL {kk : Nat} {p1 p2 p3 : Pos} (h : E .c C e pe) : E .f C (.Subscript e (.Slice none none (some (.UnaryOp .USub (.Constant (.int 1) kk p1) p2)) p3) pos) (eUn dRevL pe) := by
  obtain ⟨t, h1, h2⟩ := h
  refine ⟨_, pe_revL h1, fun z X H0 H σ env Q k o c hp => h2 z X H0 H σ env _ _ o (fun d v H1 e1 r1 hx => ?_) hp⟩
  cases d with
  | lst xs =>
    obtain ⟨a, vs, rfl, q1, q2, n⟩ := r1.conL
    exact ⟨a, vs, rfl, SqL.of q1, fun q hq => c _ _ _ (e1.new hq) (Rel.newL (e1.fresh hq) hq q2.reverse) hx⟩
  | _ => exact (show False from hx).elim
end
/-! ### a law by its deck and the rest of its body -/
section
variable {P : Program} {w : World} {K : PySem.W.Frag} {mg : Str → Option Value} {base : Heap}
abbrev tbAll : List Addr := Tbs.tb ++ Tbs.tl.map (·.1)
theorem Tabs.of0 {H : Hp} (h : ∀ P ∈ tbAll, H P = some (.tbl #[])) : Tabs H :=
  ⟨fun P hP => ⟨#[], h P (List.mem_append_left _ hP), by first | trivial | exact .nil | (simp [TriplesOk])⟩, fun p hp => ⟨#[], h p.1 (List.mem_append_right _ (List.mem_map.mpr ⟨p, hp, rfl⟩)), by first | trivial | exact .nil | (simp [TriplesOk]), fun pos cv q => by
    have q : codeAmong pos [] = some cv := q
    simp [codeAmong] at q⟩⟩
omit [Tbs] in
def sp_lawT (K : PySem.W.Frag) (tb : List Addr) : Sp := fun vs H Q _ => ∃ (a : Addr) (ns : List Int), vs = [.ref a] ∧ SqL K H a (ns.map V.int) ∧ ns.length ≤ 63 ∧ (∀ P ∈ tb, H P = some (.tbl #[])) ∧ ∀ H', Q (.bl true) H'
/-- the rest of the body, behind the deck's making -/
theorem rest_ok {t : TS} {p : PSt} {nt : Nat} (hnt : nt ≠ 0) (h : RS false t p) {N : List Str} {a dk c : Addr} {H : Hp} (hl : 2 ≤ N.length) (hd : DkF nt H dk c) (hT : Tabs H) {Q : VK} (k : ∀ H', Q (.bl true) H')
    (hp : p (SV.no :: SV.val (.deck nt) :: List.replicate (N.length - 2) SV.no) { nx := fun _ => False, rt := fun d => d = .bl true }) (h6 : ∀ H dk c n, CtF nt H dk c n := by intros; trivial) :
    t { nx := fun _ H' => Q .non H', rt := Q } ((L2.start N [V.ref a]).set 1 (some (.ref dk))) H := by
  have hst : (L2.start N [V.ref a]).set 1 (some (.ref dk)) = some (V.ref a) :: some (.ref dk) :: List.replicate (N.length - 2) none := by
    unfold L2.start
    obtain ⟨m, hm⟩ : ∃ m, N.length = m + 2 := ⟨N.length - 2, by omega⟩
    rw [hm]
    simp [List.replicate_succ]
  rw [hst]
  let z : Zn := ⟨dk, c, nt, Option.none, 0⟩
  have zal : ∀ b, z.Z b → H b ≠ none := fun b q => by
    rcases q with ⟨_, q | q⟩ | q
    · rw [q]; exact hd.al.1
    · rw [q]; exact hd.al.2
    · exact hT.at q
  have hrep : ∀ (i : Nat) (d : SV), (SV.no :: SV.val (.deck nt) :: List.replicate (N.length - 2) SV.no)[i]? = some d → d = .no ∨ (i = 1 ∧ d = .val (.deck nt)) := fun i d h => by
    match i, h with
    | 0, h => simp at h; exact .inl h.symm
    | 1, h => simp at h; exact .inr ⟨rfl, h.symm⟩
    | j + 2, h =>
      simp only [List.getElem?_cons_succ, List.getElem?_replicate] at h
      split at h
      · cases h; exact .inl rfl
      · cases h
  have o : Ok z (fun _ => False) H H (some (V.ref a) :: some (.ref dk) :: List.replicate (N.length - 2) none) (SV.no :: SV.val (.deck nt) :: List.replicate (N.length - 2) SV.no) := by
    refine ⟨by simp, Evo.refl _ _, zal, fun _ q => q.elim, fun i d h => ?_, fun i d h => ?_, fun i j b d e h _ _ _ => ?_, hT⟩
    · rcases hrep i _ h with q | ⟨rfl, q⟩
      · cases q
      · cases q
        exact ⟨.ref dk, rfl, Is.deck ⟨rfl, hnt, hd, h6 _ _ _ _⟩⟩
    · rcases hrep i _ h with q | ⟨rfl, q⟩ <;> cases q
    · rcases hrep i _ h with q | ⟨rfl, q⟩ <;> cases q
  refine h z (fun _ => False) H H _ _ _ { nx := fun _ => False, rt := fun d => d = .bl true } o ⟨fun _ _ _ _ _ q => q.elim, fun d v H' _ r _ q => ?_, fun _ _ _ _ _ q => q.elim, fun _ _ _ _ _ q => q.elim, fun _ _ _ _ _ _ _ q => q.elim⟩ hp
  subst q
  cases r
  exact k H'
/-- the rest of a deck's making, behind the cells' copy: [cells, seed, 0, 0] -/
theorem rest_deck {t : TS} {p : PSt} (h : RS false t p) {N : List Str} {a q : Addr} {H : Hp} {cs : List Int} (hl : 2 ≤ N.length) (hc : H q = some (.lst (cs.map V.int))) (hT : Tabs H) {Q : VK} {R : D → Prop} (k : ∀ H' v d, R d → Is Zn.none (fun _ => False) H' v d → Tabs H' → Q v H')
    (hp : p (SV.no :: SV.val (.lst (cs.map D.int)) :: List.replicate (N.length - 2) SV.no) { nx := fun _ => False, rt := R }) :
    t { nx := fun _ H' => Q .non H', rt := Q } ((L2.start N [V.ref a]).set 1 (some (.ref q))) H := by
  have hst : (L2.start N [V.ref a]).set 1 (some (.ref q)) = some (V.ref a) :: some (.ref q) :: List.replicate (N.length - 2) none := by
    unfold L2.start
    obtain ⟨m, hm⟩ : ∃ m, N.length = m + 2 := ⟨N.length - 2, by omega⟩
    rw [hm]
    simp [List.replicate_succ]
  rw [hst]
  have zz : ∀ b, Zn.none.Z b → b ∈ Tbs.tb ∨ b ∈ Tbs.tl.map (·.1) := fun b w => w.elim (fun w => absurd rfl w.1) fun w => w
  have zq : ¬ Zn.none.Z q := fun w => by
    obtain ⟨ps, e⟩ := hT.tbl (zz q w)
    rw [hc] at e
    cases e
  have hrep : ∀ (i : Nat) (d : SV), (SV.no :: SV.val (.lst (cs.map D.int)) :: List.replicate (N.length - 2) SV.no)[i]? = some d → d = .no ∨ (i = 1 ∧ d = .val (.lst (cs.map D.int))) := fun i d h => by
    match i, h with
    | 0, h => simp at h; exact .inl h.symm
    | 1, h => simp at h; exact .inr ⟨rfl, h.symm⟩
    | j + 2, h =>
      simp only [List.getElem?_cons_succ, List.getElem?_replicate] at h
      split at h
      · cases h; exact .inl rfl
      · cases h
  have hia : ∀ (M : AP) (ns : List Int), IsA Zn.none M H (ns.map V.int) (ns.map D.int) := fun M ns => by
    induction ns with
    | nil => exact .nil
    | cons n ns ih => exact .cons (.int n) ih
  have hms : ¬ Ms Zn.none (fun _ => False) (some (V.ref a) :: some (.ref q) :: List.replicate (N.length - 2) none) (SV.no :: SV.val (.lst (cs.map D.int)) :: List.replicate (N.length - 2) SV.no) q := fun w => by
    rcases w with w | w | ⟨i, d, w, _⟩
    · exact zq w
    · exact w
    · rcases hrep i _ w with q | ⟨_, q⟩ <;> cases q
  have o : Ok Zn.none (fun _ => False) H H (some (V.ref a) :: some (.ref q) :: List.replicate (N.length - 2) none) (SV.no :: SV.val (.lst (cs.map D.int)) :: List.replicate (N.length - 2) SV.no) := by
    refine ⟨by simp, Evo.refl _ _, fun b w => hT.at (zz b w), fun _ q => q.elim, fun i d h => ?_, fun i d h => ?_, fun i j b d e h _ _ _ => ?_, hT⟩
    · rcases hrep i _ h with q | ⟨rfl, q⟩
      · cases q
      · cases q
        exact ⟨.ref _, rfl, Is.lst hc hms (hia _ cs)⟩
    · rcases hrep i _ h with q | ⟨rfl, q⟩ <;> cases q
    · rcases hrep i _ h with q | ⟨rfl, q⟩ <;> cases q
  refine h Zn.none (fun _ => False) H H _ _ _ { nx := fun _ => False, rt := R } o ⟨fun _ _ _ _ _ q => q.elim, fun d v H' ev r _ w => ?_, fun _ _ _ _ _ q => q.elim, fun _ _ _ _ _ q => q.elim, fun _ _ _ _ _ _ _ q => q.elim⟩ hp
  exact k H' v d w (r.gen (fun b o e _ => ⟨e, fun w => w⟩) fun _ w => w) (ev.tab hT)
end
end Pu
namespace Pu
open PySem PySem.Spec PyProof.Rows L2
variable [Tbs]
theorem E.conv {C : Cx} {m : Mode} {e : Expr} {p p' : PX} (h : E m C e p) (f : ∀ env k, p' env k → p env k) : E m C e p' := by
  obtain ⟨t, h1, h2⟩ := h
  exact ⟨t, h1, fun z X H0 H σ env Q k o c hp => h2 z X H0 H σ env Q k o c (f env k hp)⟩
/-- a written power -/
theorem e_powC {C : Cx} {i1 i2 : Nat} {p1 p2 pos : Pos} (b e r : Int) (hc : CPow b e := by exact ⟨by decide, by decide, by decide⟩) (hr : b ^ e.toNat = r := by rfl) : E .e C (.BinOp (.Constant (.int b) i1 p1) .Pow (.Constant (.int e) i2 p2) pos) (eC (.int r)) :=
  (e_op op_pow opd_pow e_int.toB e_int.toB).conv fun env k h => ⟨hc, by show k (.int (b ^ e.toNat)); rw [hr]; exact h⟩
def tPS (fr : Bool) (p : PSt) : TS := fun G σ H => ∃ z X H0 env k, Ok z X H0 H σ env ∧ Sim fr z X H0 (Ms z X σ env) H G k ∧ p env k
theorem B.pss {fr : Bool} {C : Cx} {sts : List Stmt} {p : PSt} (h : B fr C sts p) : PSs C sts (tPS fr p) := by
  obtain ⟨t, h1, h2⟩ := h
  exact ⟨fun pins s σ H G I ⟨z, X, H0, env, k, o, c, hp⟩ => h1.run pins s σ H G I (h2 z X H0 H σ env G k o c hp)⟩
theorem rs_tPS {fr : Bool} {p : PSt} : RS fr (tPS fr p) p := fun z X H0 H σ env G k o c hp => ⟨z, X, H0, env, k, o, c, hp⟩
end Pu
namespace Ew
open PySem PySem.Spec PyProof.Rows L2
variable [Tbs]
section
variable {M : Model} {A : Around} {E : Value → Shared → Prop} {s : Shared} {env : Env}
theorem callT_kwB {pos : Pos} {T : String} {first : List Value} {args : List (Bool × Sem Value)} {keywords : List (Option Str × Sem Value)} {Q : Value → Shared → Prop}
    (hplain : args.any (·.1) = false) (hkw : keywords.any (·.1.isNone) = false)
    (h : wpAny M A (evalArgs (.type T) true args keywords) (fun a s₁ => wpAny M A (call (.type T) (first ++ a.pos) a.kw) Q E s₁) E s) :
    wpAny M A (callWith pos (.type T) first args keywords) Q E s := by
  unfold callWith
  refine wpAny_bind (wpAny_holding (wpAny_mono h (fun a s₁ h₁ => wpAny_bind (wpAny_standAt ?_)) fun _ _ x => x))
  simp only [hplain, hkw, Bool.or_false]
  refine wpAny_bind (wpAny_pure ?_)
  exact wpAny_bind (wpAny_mono h₁ (fun r s₂ hr => wpAny_bind (wpAny_holding (wpAny_point (wpAny_pure hr)))) fun _ _ x => x)
theorem callT_kw {pos : Pos} {T : String} {e : Expr} {rest : List Expr} {kws : List Keyword} {Q : Value → Shared → Prop}
    (h : wpAny M A (spliced (backTo pos (starEach (e :: rest) env))) (fun vs s₁ => wpAny M A (evalAll ((backToKw pos (keywordEach kws env)).map (·.2)))
      (fun kvs s₂ => wpAny M A (call (.type T) vs (((backToKw pos (keywordEach kws env)).filterMap (·.1)).zip kvs)) Q E s₂) E s₁) E s)
    (he : backTo pos (starEach (e :: rest) env) = (false, eval e env) :: backTo pos (starEach rest env))
    (hplain : (backTo pos (starEach (e :: rest) env)).any (·.1) = false)
    (hall : (backToKw pos (keywordEach kws env)).all (·.1.isSome) = true)
    (hkw : (backToKw pos (keywordEach kws env)).any (·.1.isNone) = false) :
    wpAny M A (callWith pos (.type T) [] (backTo pos (starEach (e :: rest) env)) (backToKw pos (keywordEach kws env))) Q E s := by
  refine callT_kwB hplain hkw ?_
  rw [he] at h ⊢
  exact evalArgs_kwB hall h
end
/-- enumerate(t, start=k) over the tuple at t -/
def IteS (K : PySem.W.Frag) (t : Addr) (k : Int) : It :=
  ⟨fun i H => ∃ xs x, SqT K H t xs ∧ xs[i]? = some x, fun i H v H' => ∃ T x, v = .ref T ∧ H T = none ∧ H' = upd H T (.tup [.int (k + (i : Int)), x]) ∧ ∀ xs, SqT K H t xs → xs[i]? = some x, fun i H => ∃ xs, SqT K H t xs ∧ xs.length = i⟩
theorem turn_enumS {P : Program} {w : World} {K : PySem.W.Frag} {elts : List Expr} {kk : Nat} {tpos : Pos} (t e it : Addr) (k : Int) (hte : t ≠ it) (het : e ≠ t) :
    Turn P w K (.Tuple elts kk tpos) (IteS K t k) [e, it] e (fun i h => (∃ old, IsEnum h e it (k + (i : Int)) old) ∧ h.IsTupleIter it t i ∧ e ≠ it) where
  mem := by simp
  obj := fun i h st b hb => by
    obtain ⟨⟨old, he⟩, ⟨o, ho, hc, hd⟩, _⟩ := st
    have e' : b = e ∨ b = it := by simpa using hb
    rcases e' with z | z
    · rw [z]; exact ⟨_, he, fun v q => nomatch q⟩
    · rw [z]; exact ⟨o, ho, fun v q => by rw [hd] at q; cases q⟩
  keep := fun i h h' st kk => let ⟨⟨old, he⟩, hi, hne⟩ := st; ⟨⟨old, kk e (by simp) _ he⟩, hi.at fun o q => kk it (by simp) o q, hne⟩
  item := by
    intro X hP hw hK hc i pins s σ H E I hf st hg
    subst hP hw hK
    obtain ⟨⟨old, he⟩, hit, hne⟩ := st
    obtain ⟨xs, x, hq, hx⟩ := hg
    obtain ⟨its, rv, p, hz⟩ := I.tuple hq
    obtain ⟨u, hu, ru⟩ := rv.get hx
    have hi : i < its.toArray.size := by
      rw [List.size_toArray]
      exact (List.getElem?_eq_some_iff.mp hu).1
    have D := Draws.tuple (prog := X.prog) (w := X.w) (A := X.A.in1) (I.ok.hd hc) it t hte its.toArray
    have G := GoesN.enumFrom (elts := elts) (x1 := kk) (pos := tpos) k D e hne (by intro m; rcases List.mem_cons.mp m with z | z; exact hne z; exact het (List.mem_singleton.mp z)) (by simp)
    refine G.goes i s _ E hi ⟨⟨old, he⟩, hit, p⟩ fun v h' tk hY st' hk htk => ?_
    obtain ⟨T, tt, x', rfl, hT, hx', hTu⟩ := hY
    have ex : x' = u := by
      have q : its.toArray[i]? = some u := by simpa using hu
      rw [q] at hx'
      exact (Option.some.inj hx').symm
    subst ex
    have new : ObjOk X.prog X.w (upd H T (.tup [.int (k + (i : Int)), x])) h' T (.tup [.int (k + (i : Int)), x]) := ⟨by show 2 ≤ sizeLine; decide, [.int (k + (i : Int)) tt, x'], .cons ⟨_, rfl⟩ (.cons ru .nil), hTu⟩
    have I1 := I.turnedNew (t' := tk) (ch := [e, it]) hk hf hT new
    obtain ⟨⟨old', he'⟩, hit', _⟩ := st'
    refine ⟨.ref T, _, I1, rfl, ⟨T, x, rfl, I.hok.fresh hT, rfl, fun ys hy => by rw [I.tuple_inj hy hq]; exact hx⟩, ⟨⟨old', ?_⟩, hit', hne⟩, fun b hb => ?_⟩
    · have e1 : k + ((i + 1 : Nat) : Int) = k + (i : Int) + 1 := by omega
      have e2 : k + ((i : Nat) + 1 : Int) = k + (i : Int) + 1 := by omega
      exact he'
    · have hb' : b < s.heap.objs.size := by
        have e' : b = e ∨ b = it := by simpa using hb
        rcases e' with z | z
        · rw [z]; exact Heap.lt_size he
        · rw [z]; obtain ⟨_, q, _⟩ := hit; exact Heap.lt_size q
      rw [upd_ne (Nat.ne_of_lt (Nat.lt_of_lt_of_le hb' hT))]
      exact (hf b hb).1
  done := by
    intro X hP hw hK hc i pins s σ H E I hf st hg
    subst hP hw hK
    obtain ⟨⟨old, he⟩, hit, hne⟩ := st
    obtain ⟨xs, hq, hx⟩ := hg
    obtain ⟨its, rv, p, hz⟩ := I.tuple hq
    have hl := rv.length
    have hn : i = its.toArray.size := by rw [List.size_toArray]; omega
    subst hn
    have D := Draws.tuple (prog := X.prog) (w := X.w) (A := X.A.in1) (I.ok.hd hc) it t hte its.toArray
    have G := GoesN.enumFrom (elts := elts) (x1 := kk) (pos := tpos) k D e hne (by intro m; rcases List.mem_cons.mp m with z | z; exact hne z; exact het (List.mem_singleton.mp z)) (by simp)
    exact G.stops s _ E ⟨⟨old, he⟩, hit, p⟩ fun h' tk hk htk => I.turnedL (t' := tk) hk hf
  self := fun A i s Q E st h => let ⟨⟨_, he⟩, _⟩ := st; wpAny_pyIter_enum he h
def iEnumS (K : PySem.W.Frag) (ta tk : TA) : TI := fun σ H R => ta σ H fun vs H1 => tk σ H1 fun zs H2 => ∃ (t : Addr) (k : Int) (xs : List V), vs = [.ref t] ∧ zs = [.int k] ∧ SqT K H2 t xs ∧ -(2 ^ 63) ≤ k ∧ k < 2 ^ 63 ∧ R (IteS K t k) H2
theorem pi_enumS {X : Cx} {e : Expr} {kws : List Keyword} {ta tk : TA} {p pos tpos : Pos} {elts : List Expr} {kk : Nat} (hg : Gl X "enumerate") (hm : X.mg "enumerate" = none) (ha : PA X [e] ta) (hk : PK X kws tk)
    (he : backTo pos (starEach [e] X.env) = (false, eval e X.env) :: backTo pos (starEach [] X.env) := by rfl) (hpl : (backTo pos (starEach [e] X.env)).any (·.1) = false := by rfl)
    (hall : (backToKw pos (keywordEach kws X.env)).all (·.1.isSome) = true := by rfl) (hnone : (backToKw pos (keywordEach kws X.env)).any (·.1.isNone) = false := by rfl) (hks : (backToKw pos (keywordEach kws X.env)).filterMap (·.1) = [Str.ofString "start"] := by rfl) :
    PI X (.Tuple elts kk tpos) (.Call (.Name "enumerate" p) [e] kws pos) (iEnumS X.K ta tk) := by
  refine ⟨fun pins s σ H R I h => ?_⟩
  refine wpAny_Call_Name_kw (ld_blt I hg hm boot_enumerate ?_)
  refine callT_kw (thn (ha.run pos pins s σ H _ I h) fun us s1 ⟨vs, H1, I1, r1, q1⟩ => thn (hk.run pos pins s1 σ H1 _ I1 q1) fun ws s2 ⟨zs, H2, I2, r2, q2⟩ => ?_) he hpl hall hnone
  obtain ⟨t, k, xs, ev, ez, hq, k0, k1, q⟩ := q2
  subst ev ez
  rw [hks]
  cases r1 with
  | cons ra rr =>
    cases rr
    cases ra
    cases r2 with
    | cons rb rr2 =>
      cases rr2
      obtain ⟨tok, rfl⟩ := rb
      obtain ⟨its, rv, p', hz⟩ := I2.tuple hq
      refine enum_begins_start (begins_tuple t its.toArray) p' k0 k1 fun h' hen hit hsz hkeep => wpAny_pyIter_enum hen ?_
      have I3 : Inv X pins σ H2 { s2 with heap := h' } := I2.kept (t' := s2.toks) hkeep
      have htl : t < s2.heap.objs.size := by obtain ⟨_, qq, _⟩ := p'; exact Heap.lt_size qq
      refine ⟨s2.heap.objs.size + 1, [s2.heap.objs.size + 1, s2.heap.objs.size], _, _, H2, rfl, I3, turn_enumS t (s2.heap.objs.size + 1) s2.heap.objs.size k (Nat.ne_of_lt htl) (Nat.ne_of_gt (Nat.lt_succ_of_lt htl)), ⟨⟨.none, ?_⟩, ⟨_, hit, rfl, rfl⟩, Nat.succ_ne_self _⟩, fun b hb => ?_, q⟩
      · show IsEnum h' _ _ (k + ((0 : Nat) : Int)) .none
        rw [show k + ((0 : Nat) : Int) = k by omega]
        exact hen
      have e' : b = s2.heap.objs.size + 1 ∨ b = s2.heap.objs.size := by simpa using hb
      have hle : s2.heap.objs.size ≤ b := by
        rcases e' with z | z
        · rw [z]; exact Nat.le_add_right _ _
        · rw [z]; exact Nat.le_refl _
      exact I2.fpOk hle (I2.hok.fresh hle)
end Ew
namespace Pu
open PySem PySem.Spec PyProof.Rows L2
variable [Tbs]
section
variable {C : Cx} {e tg : Expr} {p q : PX} {m : Mode} {fr : Bool} {pos pp : Pos}
/-- a statement that is never come to -/
def sNever : PSt := fun _ _ => False
theorem s_never {st : Stmt} : S fr C st sNever := ⟨_, ps_never, fun _ _ _ _ _ _ _ _ _ _ h => h.elim⟩
/-! enumerate -/
def enumD (j : Int) (xs : List D) : List D := (List.range xs.length).map fun i => .tup [.int (j + (i : Nat)), (xs[i]?).getD .non]
theorem enumD_get {j : Int} {xs : List D} {i : Nat} {d : D} (h : (enumD j xs)[i]? = some d) : ∃ x, xs[i]? = some x ∧ d = .tup [.int (j + (i : Nat)), x] := by
  have hl := (List.getElem?_eq_some_iff.mp h).1
  have hi : i < xs.length := by simpa [enumD] using hl
  refine ⟨xs[i], List.getElem?_eq_getElem hi, ?_⟩
  unfold enumD at h
  rw [List.getElem?_map, List.getElem?_range hi] at h
  simp only [Option.map_some, Option.some.injEq] at h
  rw [← h, List.getElem?_eq_getElem hi]
  rfl
theorem enumD_len {j : Int} {xs : List D} : (enumD j xs).length = xs.length := by simp [enumD]
theorem pair_is {z : Zn} {M : AP} {H : Hp} {T : Addr} {x : V} {d : D} {n : Int} (hT : H T = none) (hM : ¬ M T) (h : Is z M H x d) : Is z M (upd H T (.tup [.int n, x])) (.ref T) (.tup [.int n, d]) :=
  .tup upd_same hM (.cons (.int n) (.cons (h.new hT) .nil))
theorem yl_enumS {z : Zn} {X : AP} {M : AP} {H : Hp} {K : PySem.W.Frag} {a : Addr} {vs : List V} {ds : List D} {j : Int} (h : H a = some (.tup vs)) (n : ¬ M a) (r : IsA z M H vs ds) : Yields z X M H (Ew.IteS K a j) (enumD j ds) := fun M' H' f => by
  have h' := (f.old a _ h n).1
  have r' := f.isA r
  have hl := r'.length
  refine ⟨⟨vs, SqT.of h', by rw [hl, enumD_len]⟩, fun i d hd => ?_⟩
  · obtain ⟨x, hx, rfl⟩ := enumD_get hd
    obtain ⟨v, h1, h2⟩ := r'.get hx
    refine ⟨⟨vs, v, SqT.of h', h1⟩, fun y H2 yy => ?_⟩
    obtain ⟨T, x', rfl, hT, rfl, hx'⟩ := yy
    have e := hx' vs (SqT.of h')
    rw [h1] at e
    cases e
    exact ⟨(Evo.refl _ _).new hT, fun _ fm => pair_is hT (fm T hT) h2⟩
theorem yl_enumL {z : Zn} {X : AP} {M : AP} {H : Hp} {K : PySem.W.Frag} {a : Addr} {vs : List V} {ds : List D} (h : H a = some (.lst vs)) (n : ¬ M a) (r : IsA z M H vs ds) : Yields z X M H (Ite K a) (enumD 0 ds) := fun M' H' f => by
  have h' := (f.old a _ h n).1
  have r' := f.isA r
  have hl := r'.length
  refine ⟨⟨vs, SqL.of h', by rw [hl, enumD_len]; exact Nat.le_refl _⟩, fun i d hd => ?_⟩
  · obtain ⟨x, hx, rfl⟩ := enumD_get hd
    obtain ⟨v, h1, h2⟩ := r'.get hx
    refine ⟨⟨vs, v, SqL.of h', h1⟩, fun y H2 yy => ?_⟩
    obtain ⟨T, x', rfl, hT, rfl, hx'⟩ := yy
    have e := hx' vs (SqL.of h')
    rw [h1] at e
    cases e
    rw [show (0 : Int) + (i : Nat) = (i : Nat) from Int.zero_add _]
    exact ⟨(Evo.refl _ _).new hT, fun _ fm => pair_is hT (fm T hT) h2⟩
def enK (d s : D) (k : List D → Prop) : Prop := match d, s with
  | .tup xs, .int j => (-100000 < j ∧ j < 100000) ∧ k (enumD j xs)
  | _, _ => False
def iEnumS (p q : PX) : PIt := fun env k => p env fun d => q env fun s => enK d s k
theorem i_enumS {b : Expr} {nm : Option Str} {kpos tpos : Pos} {elts : List Expr} {kk : Nat} (h : E .e C e p) (g : E m C b q) (hg : Gl C "enumerate") (hm : C.mg "enumerate" = none)
    (he : backTo pos (starEach [e] C.env) = (false, eval e C.env) :: backTo pos (starEach [] C.env) := by rfl) (hpl : (backTo pos (starEach [e] C.env)).any (·.1) = false := by rfl)
    (hall : (backToKw pos (keywordEach [⟨nm, b, kpos⟩] C.env)).all (·.1.isSome) = true := by rfl) (hnone : (backToKw pos (keywordEach [⟨nm, b, kpos⟩] C.env)).any (·.1.isNone) = false := by rfl) (hks : (backToKw pos (keywordEach [⟨nm, b, kpos⟩] C.env)).filterMap (·.1) = [Str.ofString "start"] := by rfl)
    (hs : starEach [e] C.env = (false, eval e C.env) :: starEach [] C.env := by rfl) :
    I C (.Tuple elts kk tpos) (.Call (.Name "enumerate" pp) [e] [⟨nm, b, kpos⟩] pos) (iEnumS p q) := by
  obtain ⟨t, h1, h2⟩ := h
  obtain ⟨u, g1, g2⟩ := g.toB
  refine ⟨_, Ew.pi_enumS hg hm (pa_cons h1 pa_nil hs) (pk_cons g1 pk_nil) he hpl hall hnone hks, fun z X H0 H σ env R k o c hp => h2 z X H0 H σ env _ _ o (fun d v H1 e1 r1 hx => ?_) hp⟩
  refine g2 z X H0 H1 σ env _ _ (o.go e1) (fun s w H2 e2 r2 hx => ?_) hx
  have r1' : Is z (Ms z X σ env) H2 v d := Is.evo (fun _ q => .inl q) e2 r1
  cases r1' with
  | tup e' n r =>
    cases s with
    | int j =>
      cases Is.intI r2
      obtain ⟨⟨j0, j1⟩, hk⟩ := hx
      exact ⟨_, j, _, rfl, rfl, SqT.of e', by omega, by omega, c _ _ H2 (e1.trans e2) (yl_enumS e' n r) hk⟩
    | _ => exact (show False from hx).elim
  | _ => exact (show False from hx).elim
/-- reversed(range(n)) -/
def revD (n : Nat) : List D := (List.range n).map fun i => .int ((n : Int) - 1 - (i : Nat))
theorem revD_get {n i : Nat} {d : D} (h : (revD n)[i]? = some d) : d = .int ((n : Int) - 1 - (i : Nat)) ∧ i < n := by
  have hl := (List.getElem?_eq_some_iff.mp h).1
  have hi : i < n := by simpa [revD] using hl
  refine ⟨?_, hi⟩
  unfold revD at h
  rw [List.getElem?_map, List.getElem?_range hi] at h
  simpa using h.symm
theorem yl_rev {z : Zn} {X : AP} {M : AP} {H : Hp} {n : Nat} : Yields z X M H (Itc (0 + ((n : Nat) : Int) - 1) (-1) n) (revD n) := fun M' H' f => by
  refine ⟨(by show n ≤ (revD n).length; simp [revD]), fun i d hd => ?_⟩
  obtain ⟨rfl, hi⟩ := revD_get hd
  refine ⟨hi, fun x H2 y => ?_⟩
  obtain ⟨rfl, rfl⟩ := y
  refine ⟨Evo.refl _ _, fun _ _ => ?_⟩
  rw [show (0 : Int) + ((n : Nat) : Int) - 1 + ((i : Nat) : Int) * (-1) = (n : Int) - 1 - (i : Nat) by omega]
  exact Is.int _
def rvK (d : D) (k : List D → Prop) : Prop := match d with
  | .int j => (-100000 < j ∧ j < 100000) ∧ k (revD j.toNat)
  | _ => False
def iRev1 (p : PX) : PIt := fun env k => p env fun d => rvK d k
theorem i_rev1 {a : Expr} {p2 pos2 : Pos} (h : E m C a p) (hg : Gl C "reversed") (hm : C.mg "reversed" = none) (hg' : Gl C "range") (hm' : C.mg "range" = none) (na : starEach [a] C.env = (false, eval a C.env) :: starEach [] C.env := by rfl)
    (nb : starEach [.Call (.Name "range" p2) [a] [] pos2] C.env = (false, eval (.Call (.Name "range" p2) [a] [] pos2) C.env) :: starEach [] C.env := by rfl) : I C tg (.Call (.Name "reversed" pp) [.Call (.Name "range" p2) [a] [] pos2] [] pos) (iRev1 p) := by
  obtain ⟨t, h1, h2⟩ := h.toB
  refine ⟨_, pi_revR hg hm (prg_1 hg' hm' h1 na) nb, fun z X H0 H σ env R k o c hp => h2 z X H0 H σ env _ _ o (fun d v H1 e1 r1 hx => ?_) hp⟩
  cases d with
  | int j =>
    cases Is.intI r1
    obtain ⟨hj, hk⟩ := hx
    refine ⟨j, rfl, by omega, by omega, by omega, by omega, c _ _ H1 e1 ?_ hk⟩
    rw [show j - 0 = j by omega]
    exact yl_rev
  | _ => exact (show False from hx).elim
/-- sorted(xs), whole numbers -/
def gSorted : List D → (D → Prop) → Prop := fun ds k => ∃ xs ns, ds = [.lst xs] ∧ intsD xs = some ns ∧ ∀ ms : List Int, ms.Perm ns → ms.Pairwise (· ≤ ·) → k (.lst (ms.map D.int))
theorem cd_sorted {l : Bool} {K : PySem.W.Frag} : CallD l .f (rSortedI K) gSorted := fun z X H0 H σ env vs ds Q k o h c hp => by
  obtain ⟨xs, ns, rfl, hi, hk⟩ := hp
  obtain ⟨a, rfl, ha⟩ := one_ints h hi
  exact ⟨a, ns, rfl, SqL.of ha, fun ms q h1 h2 hq => c _ _ _ ((Evo.refl _ _).new hq) (Rel.newL hq hq (IsA.ofInts ms)) (hk ms h1 h2)⟩
/-- x += e, whole numbers -/
def sAug (i : Nat) (p : PX) : PSt := fun env k => match env[i]? with
  | some (.val (.int a)) => p env fun d => inK d fun b => k.nx (env.set i (.val (.int (a + b))))
  | _ => False
end
end Pu
namespace Ew
open PySem PySem.Spec PyProof.Rows L2
variable [Tbs]
set_option maxHeartbeats 1000000 in
/-- enumerate(v) with no start, of anything that begins so -/
theorem meets_en0 {vv : Value} {ob : Obj} {HH : Heap → Prop} (Bg : Begins vv ob HH) :
    Meets (Builtin.«enumerate.__new__» ⟨[.type "enumerate", vv], []⟩) (fun _ R s => HH s.heap ∧
      R (.ok (.ret (.ref (s.heap.push ob).objs.size))) { s with heap := (s.heap.push ob).push { cls := .type "enumerate", data := .fields #[.none, .bool false, .ref s.heap.objs.size, rawInt 0, .none, .none] } }) :=
  .of_wp fun prg wld Ar Rr st hh => by
    obtain ⟨hp0, g0, d0, tk0, os0⟩ := st; obtain ⟨hh1, hh⟩ := hh
    have hsb := sub_enumerate
    have qq : ∀ {A' : Around} {E : Value → Shared → Prop} {Q : Value → Shared → Prop}, Q (.ref hp0.objs.size) ⟨hp0.push ob, g0, d0, tk0, os0⟩ → wpAny (model prg wld) A' (pyIter vv) Q E ⟨hp0, g0, d0, tk0, os0⟩ :=
      fun q => Bg.iter prg wld _ _ ⟨hp0, g0, d0, tk0, os0⟩ _ hh1 q
    wp_walk using qq
    refine wpAny_stack_any fun st => wpAny_pure ?_
    split
    · rename_i cc _ _ _ _ _
      cases (cc == Value.type "enumerate") <;> (wp_walk using qq; exact ⟨_, rfl, hh⟩)
    · wp_walk using qq
      exact ⟨_, rfl, hh⟩
section
variable {prog : Program} {w : World} {A : Around} {E : Value → Shared → Prop} {s : Shared}
theorem en0_begins {vv : Value} {ob : Obj} {HH : Heap → Prop} {Q : Value → Shared → Prop} (Bg : Begins vv ob HH) (hh1 : HH s.heap)
    (hh : ∀ h', IsEnum h' (s.heap.objs.size + 1) s.heap.objs.size 0 .none → h'.get? s.heap.objs.size = some ob → (∀ b o, s.heap.get? b = some o → h'.get? b = some o) → Q (.ref (s.heap.objs.size + 1)) { s with heap := h' }) :
    wpAny (model prog w) A (call (.type "enumerate") [vv]) Q E s := by
  refine callType_new F.called_enumerate (by decide) (F.typeCall_enumerate_1 _) (F.newCall_enumerate_1 _) (fun obj => F.args_object_init_2 obj _) F.entry_enumerate_new (meets_en0 Bg) ⟨hh1, ?_⟩
  have hsz : (s.heap.push ob).objs.size = s.heap.objs.size + 1 := Heap.size_push ..
  show _ ∧ _
  rw [hsz]
  have hen : IsEnum ((s.heap.push ob).push { cls := .type "enumerate", data := .fields #[.none, .bool false, .ref s.heap.objs.size, rawInt 0, .none, .none] }) (s.heap.objs.size + 1) s.heap.objs.size 0 .none := by
    have th := Heap.get?_push_size (s.heap.push ob) (o := { cls := .type "enumerate", data := .fields #[.none, .bool false, .ref s.heap.objs.size, rawInt 0, .none, .none] }) rfl
    rw [hsz] at th; exact th
  exact ⟨⟨_, hen, rfl⟩, hh _ hen (Heap.get?_push_of_some _ (Heap.get?_push_size _ Bg.free)) fun b o x => Heap.get?_push_of_some _ (Heap.get?_push_of_some _ x)⟩
end
/-- enumerate(x), a list or a tuple -/
def iEn0 (K : PySem.W.Frag) (ta : TA) : TI := fun σ H R => ta σ H fun vs H1 => ∃ (t : Addr) (xs : List V), vs = [.ref t] ∧ ((SqL K H1 t xs ∧ R (Ite K t) H1) ∨ (SqT K H1 t xs ∧ R (IteS K t 0) H1))
theorem pi_en0 {X : Cx} {e : Expr} {ta : TA} {p pos tpos : Pos} {elts : List Expr} {kk : Nat} (hg : Gl X "enumerate") (hm : X.mg "enumerate" = none) (ha : PA X [e] ta) (hs : starEach [e] X.env = [(false, eval e X.env)] := by rfl) :
    PI X (.Tuple elts kk tpos) (.Call (.Name "enumerate" p) [e] [] pos) (iEn0 X.K ta) := by
  refine ⟨fun pins s σ H R I h => ?_⟩
  refine Call_ (ld_blt I hg hm boot_enumerate (PyProof.Rows.callWith_type1 (thn (ha.run pos pins s σ H _ I h) fun us s1 ⟨vs, H1, I1, r1, q1⟩ => ?_) hs rfl))
  obtain ⟨t, xs, ex, q1⟩ := q1
  subst ex
  cases r1 with
  | cons r rr =>
    cases rr
    cases r
    have fp2 : ∀ b, b ∈ [s1.heap.objs.size + 1, s1.heap.objs.size] → FpOk X pins H1 b := fun b hb => by
      have hle : s1.heap.objs.size ≤ b := by
        rcases List.mem_cons.mp hb with z | z
        · rw [z]; exact Nat.le_add_right _ _
        · rw [List.mem_singleton.mp z]; exact Nat.le_refl _
      exact I1.fpOk hle (I1.hok.fresh hle)
    rcases q1 with ⟨hq, q⟩ | ⟨hq, q⟩
    · obtain ⟨its, rv, pl, hz⟩ := I1.list hq
      refine call_enumerate_list pl.isList fun h' hen hit hsz hk => wpAny_pyIter_enum hen ?_
      exact ⟨s1.heap.objs.size + 1, [s1.heap.objs.size + 1, s1.heap.objs.size], _, _, H1, rfl, I1.kept (t' := s1.toks) hk, turn_enum t (s1.heap.objs.size + 1) s1.heap.objs.size, ⟨⟨.none, hen⟩, hit, Nat.succ_ne_self _⟩, fp2, q⟩
    · obtain ⟨its, rv, pl, hz⟩ := I1.tuple hq
      refine en0_begins (begins_tuple t its.toArray) pl fun h' hen hit hk => wpAny_pyIter_enum hen ?_
      have htl : t < s1.heap.objs.size := by obtain ⟨_, qq, _⟩ := pl; exact Heap.lt_size qq
      refine ⟨s1.heap.objs.size + 1, [s1.heap.objs.size + 1, s1.heap.objs.size], _, _, H1, rfl, I1.kept (t' := s1.toks) hk, turn_enumS t (s1.heap.objs.size + 1) s1.heap.objs.size 0 (Nat.ne_of_lt htl) (Nat.ne_of_gt (Nat.lt_succ_of_lt htl)), ⟨⟨.none, ?_⟩, ⟨_, hit, rfl, rfl⟩, Nat.succ_ne_self _⟩, fp2, q⟩
      show IsEnum h' _ _ (0 + ((0 : Nat) : Int)) .none
      rw [show (0 : Int) + ((0 : Nat) : Int) = 0 by omega]
      exact hen
end Ew
namespace Pu
open PySem PySem.Spec PyProof.Rows L2
variable [Tbs]
section
variable {C : Cx} {e tg : Expr} {p q : PX} {m : Mode} {fr : Bool} {pos pp : Pos}
def en0K (d : D) (k : List D → Prop) : Prop := match d with
  | .tup xs => k (enumD 0 xs)
  | .lst xs => k (enumD 0 xs)
  | _ => False
def iEnum0 (p : PX) : PIt := fun env k => p env fun d => en0K d k
theorem i_enum0 {tpos : Pos} {elts : List Expr} {kk : Nat} (h : E .e C e p) (hg : Gl C "enumerate") (hm : C.mg "enumerate" = none) (hs : starEach [e] C.env = [(false, eval e C.env)] := by rfl) (hs2 : starEach [e] C.env = (false, eval e C.env) :: starEach [] C.env := by rfl) :
    I C (.Tuple elts kk tpos) (.Call (.Name "enumerate" pp) [e] [] pos) (iEnum0 p) := by
  obtain ⟨t, h1, h2⟩ := h
  refine ⟨_, Ew.pi_en0 hg hm (pa_cons h1 pa_nil hs2) hs, fun z X H0 H σ env R k o c hp => h2 z X H0 H σ env _ _ o (fun d v H1 e1 r1 hx => ?_) hp⟩
  cases (show Is z _ H1 v d from r1) with
  | lst e n r => exact ⟨_, _, rfl, .inl ⟨SqL.of e, c _ _ H1 e1 (yl_enumL e n r) hx⟩⟩
  | tup e n r => exact ⟨_, _, rfl, .inr ⟨SqT.of e, c _ _ H1 e1 (yl_enumS e n r) hx⟩⟩
  | _ => exact (show False from hx).elim
/-- x.insert(i, e) -/
def sInsert (i : Nat) (pi pe : PX) : PSt := fun env k => match env[i]? with
  | some (.own (.lst xs)) => pi env fun d => pe env fun y => inK d fun n => (0 ≤ n ∧ n < 100000 ∧ xs.length ≤ 100000) ∧ k.nx (env.set i (.own (.lst (xs.take n.toNat ++ [y] ++ xs.drop n.toNat))))
  | _ => False
end
end Pu
namespace Pu
open PySem PySem.Spec PyProof.Rows L2
variable [Tbs]
/-! min of a list of tuples of whole numbers -/
theorem lex_tr : ∀ {a b c : List Int}, HT.lexLt b a = false → HT.lexLt c b = false → HT.lexLt c a = false
  | [], [], c, _, h => h
  | [], _ :: _, [], _, _ => rfl
  | [], _ :: _, _ :: _, _, _ => rfl
  | _ :: _, [], _, h, _ => by cases h
  | x :: a, y :: b, [], _, h => by cases h
  | x :: a, y :: b, w :: c, h1, h2 => by
    rw [HT.lexLt_cons] at h1 h2 ⊢
    by_cases e1 : y = x
    · subst e1
      rw [if_pos rfl] at h1
      by_cases e2 : w = y
      · subst e2
        rw [if_pos rfl] at h2 ⊢
        exact lex_tr h1 h2
      · rw [if_neg e2] at h2 ⊢
        exact h2
    · rw [if_neg e1] at h1
      have q1 := of_decide_eq_false h1
      by_cases e2 : w = y
      · subst e2
        rw [if_neg e1]
        exact h1
      · rw [if_neg e2] at h2
        have q2 := of_decide_eq_false h2
        rw [if_neg (by omega)]
        exact decide_eq_false (by omega)
theorem lex_irr : ∀ a : List Int, HT.lexLt a a = false
  | [] => rfl
  | x :: a => by rw [HT.lexLt_cons, if_pos rfl]; exact lex_irr a
theorem lex_as : ∀ {a b : List Int}, HT.lexLt a b = true → HT.lexLt b a = false
  | [], [], _ => rfl
  | [], _ :: _, _ => rfl
  | _ :: _, [], h => by cases h
  | x :: a, y :: b, h => by
    rw [HT.lexLt_cons] at h ⊢
    by_cases e : x = y
    · subst e
      rw [if_pos rfl] at h ⊢
      exact lex_as h
    · rw [if_neg e] at h
      have := of_decide_eq_true h
      rw [if_neg (Ne.symm e)]
      exact decide_eq_false (by omega)
theorem argBest_lex (num : Nat → List Int) : ∀ k, argBest (fun i j => HT.lexLt (num i) (num j)) k ≤ k ∧ ∀ j, j ≤ k → HT.lexLt (num j) (num (argBest (fun i j => HT.lexLt (num i) (num j)) k)) = false
  | 0 => ⟨Nat.le_refl _, fun j hj => by
    have : j = 0 := by omega
    subst this
    exact lex_irr _⟩
  | k + 1 => by
    obtain ⟨h1, h2⟩ := argBest_lex num k
    simp only [argBest]
    by_cases hc : HT.lexLt (num (k + 1)) (num (argBest (fun i j => HT.lexLt (num i) (num j)) k)) = true
    · rw [if_pos hc]
      refine ⟨Nat.le_refl _, fun j hj => ?_⟩
      rcases Nat.lt_or_ge j (k + 1) with hlt | hge
      · exact lex_tr (lex_as hc) (h2 j (by omega))
      · have : j = k + 1 := by omega
        subst this
        exact lex_irr _
    · rw [if_neg hc]
      refine ⟨by omega, fun j hj => ?_⟩
      rcases Nat.lt_or_ge j (k + 1) with hlt | hge
      · exact h2 j (by omega)
      · have : j = k + 1 := by omega
        subst this
        exact Bool.not_eq_true _ ▸ hc
def TupsAt (K : PySem.W.Frag) (H : Hp) (xs : List V) (rs : List (List Int)) : Prop := xs.length = rs.length ∧ ∀ (i : Nat) (v : V) (r : List Int), xs[i]? = some v → rs[i]? = some r → ∃ p, v = V.ref p ∧ SqT K H p (r.map V.int)
def rMinTup (K : PySem.W.Frag) : List V → Hp → VK → Prop := fun vs H Q => ∃ (a : Addr) (xs : List V) (rs : List (List Int)), vs = [.ref a] ∧ SqL K H a xs ∧ TupsAt K H xs rs ∧ rs ≠ [] ∧ ∀ (i : Nat) (v : V) (m : List Int), xs[i]? = some v → rs[i]? = some m → (∀ r ∈ rs, HT.lexLt r m = false) → Q v H
theorem vals_at : ∀ {xs : List V} {us : List Value} {i : Nat} {u : Value}, Vals xs us → us[i]? = some u → ∃ v, xs[i]? = some v ∧ RelV v u
  | _, _, _, _, .nil, h => by cases h
  | _, _, 0, _, .cons r _, h => by cases h; exact ⟨_, rfl, r⟩
  | _, _, i + 1, _, .cons _ t, h => vals_at (i := i) t (by simpa using h)
theorem cr_minTup {X : Cx} (hc : X.calm = true) (hu : X.A.units + 64 < cLine) : CallR X (.builtin "min") (rMinTup X.K) := by
  intro pins s σ H vs us Q I r h
  obtain ⟨a, xs, rs, rfl, hs, ⟨hlen, ht⟩, hne, q⟩ := h
  obtain ⟨its, rv, hl, _⟩ := I.list hs
  rw [Vals.ref1 r]
  have hl1 := rv.length
  have hpos : 0 < rs.length := List.length_pos_iff.mpr hne
  refine call_min_walkH (PySem.W.iter_listW (A := X.A.in1) (I.ok.hd hc) hl.isList fun s₂ e W st hfp hw hk => ?_)
  refine ⟨_, _, _, _, _, _, _, s.heap, (fun i j => HT.lexLt (rs.getD i []) (rs.getD j [])), rfl, W, st, hfp, by rw [List.size_toArray]; omega, hw, hk, ?_, fun v s' hP m => ?_⟩
  · intro i j vi vj s' Q' E' hk' hi hj hq
    have at1 : ∀ i vi, its.toArray[i]? = some vi → ∃ p its', vi = .ref p ∧ IsTup s'.heap p its'.toArray ∧ IntsAre its' (rs.getD i []) := fun i vi hi => by
      obtain ⟨v, hv, rl⟩ := vals_at (i := i) (u := vi) rv (by simpa using hi)
      have hil : i < rs.length := by
        rw [← hlen]
        exact (List.getElem?_eq_some_iff.mp hv).1
      obtain ⟨p, rfl, hT⟩ := ht i v _ hv (List.getElem?_eq_getElem hil)
      cases rl
      obtain ⟨its', r1, p1, _⟩ := I.tuple hT
      refine ⟨p, its', rfl, ?_, ?_⟩
      · obtain ⟨o, ho, rest⟩ := p1
        exact ⟨o, hk' _ _ ho, rest⟩
      · rw [List.getD_eq_getElem?_getD, List.getElem?_eq_getElem hil]
        exact Vals.ints r1
    obtain ⟨p, i1, rfl, t1, n1⟩ := at1 i vi hi
    obtain ⟨p', i2, rfl, t2, n2⟩ := at1 j vj hj
    exact HT.lt_tupInts t1 t2 n1 n2 (by show X.A.units + 1 < cLine; omega) hq
  · obtain ⟨h', tk, rfl, hk'⟩ := PySem.W.moved_old e rfl m
    obtain ⟨b1, b2⟩ := argBest_lex (fun i => rs.getD i []) (its.toArray.size - 1)
    have hP' : its[argBest (fun i j => HT.lexLt (rs.getD i []) (rs.getD j [])) (its.toArray.size - 1)]? = some v := by simpa using hP
    obtain ⟨u, hu1, rl⟩ := vals_at rv hP'
    rw [List.size_toArray] at b1 b2 hP' hu1
    generalize argBest (fun i j => HT.lexLt (rs.getD i []) (rs.getD j [])) (its.length - 1) = bi at *
    have hil : bi < rs.length := by omega
    refine ⟨u, H, I.kept hk', rl, q bi u _ hu1 (List.getElem?_eq_getElem hil) fun r hr => ?_⟩
    obtain ⟨j, hj, rfl⟩ := List.getElem_of_mem hr
    have := b2 j (by omega)
    rw [List.getD_eq_getElem?_getD, List.getD_eq_getElem?_getD, List.getElem?_eq_getElem hj, List.getElem?_eq_getElem hil] at this
    exact this
def tI (r : List Int) : D := .tup (r.map D.int)
def gMinTup : List D → (D → Prop) → Prop := fun ds k => ∃ rs : List (List Int), ds = [.lst (rs.map tI)] ∧ rs ≠ [] ∧ ∀ m ∈ rs, (∀ r ∈ rs, HT.lexLt r m = false) → k (tI m)
theorem isa_ints {z : Zn} {M : AP} {H : Hp} : ∀ {vs : List V} {es : List Int}, IsA z M H vs (es.map D.int) → vs = es.map V.int
  | [], [], _ => rfl
  | v :: vs, e :: es, h => by
    cases h with
    | cons h1 h2 =>
      cases h1
      rw [isa_ints h2]
      rfl
theorem cd_minTup {K : PySem.W.Frag} : CallD true .e (rMinTup K) gMinTup := fun z X H0 H σ env vs ds Q k o h c hp => by
  obtain ⟨rs, rfl, hne, hk⟩ := hp
  obtain ⟨v, rfl, hv⟩ := IsA.one h
  cases (show Is z (Ms z X σ env) H v (.lst (rs.map tI)) from hv) with
  | lst e n r =>
    rename_i a us
    have hl := r.length
    rw [List.length_map] at hl
    refine ⟨a, us, rs, rfl, SqL.of e, ⟨hl, fun i u r' hu hr => ?_⟩, hne, fun i u m hu hm hmin => ?_⟩
    · obtain ⟨u', h1, h2⟩ := r.get (i := i) (d := tI r') (by rw [List.getElem?_map, hr]; rfl)
      rw [hu] at h1
      cases h1
      cases (show Is z (Ms z X σ env) H u (.tup (r'.map D.int)) from h2) with
      | tup e' _ r2 => exact ⟨_, rfl, SqT.of (by rw [e', isa_ints r2])⟩
    · obtain ⟨u', h1, h2⟩ := r.get (i := i) (d := tI m) (by rw [List.getElem?_map, hm]; rfl)
      rw [hu] at h1
      cases h1
      exact c _ _ H (Evo.refl _ _) h2 (hk m (List.mem_of_getElem? hm) hmin)
/-! ### expressions that change what a slot owns -/
abbrev PMX := List SV → (List SV → D → Prop) → Prop
abbrev PMA := List SV → (List SV → List D → Prop) → Prop
def RMX (t : TE) (p : PMX) : Prop := ∀ (z : Zn) (X : AP) (H0 H : Hp) (σ : Sl) (env : List SV) (Q : VK) (k : List SV → D → Prop), Ok z X H0 H σ env → (∀ d v H' env', Ok z X H0 H' σ env' → Fr z X (Ms z X σ env) H (Ms z X σ env') H' → Is z (Ms z X σ env') H' v d → k env' d → Q v H') → p env k → t σ H Q
section
variable {C : Cx} {fr : Bool} {m : Mode} {e : Expr} {es : List Expr} {p : PX} {pos pp : Pos}
def mE (p : PX) : PMX := fun env k => p env fun d => k env d
def mNil : PMA := fun env k => k env []
def mCons (p : PMX) (q : PMA) : PMA := fun env k => p env fun env1 d => q env1 fun env2 ds => k env2 (d :: ds)
def mLst (q : PMA) : PMX := fun env k => q env fun env1 ds => ds.length ≤ 100000 ∧ k env1 (.lst ds)
def mTup (q : PMA) : PMX := fun env k => q env fun env1 ds => ds.length ≤ 100000 ∧ k env1 (.tup ds)
def sSetM (i : Nat) (p : PMX) : PSt := fun env k => p env fun env1 d => k.nx (env1.set i (.val d))
/-- x.pop(e), x.pop() -/
def mPop (i : Nat) (p : PX) : PMX := fun env k => match env[i]? with
  | some (.own (.lst xs)) => p env fun d => inK d fun n => (-100000 < n ∧ n < 100000) ∧ ∃ jj y, seqIndex? n xs.length = some jj ∧ xs[jj]? = some y ∧ k (env.set i (.own (.lst (xs.eraseIdx jj)))) y
  | _ => False
def mPop0 (i : Nat) : PMX := fun env k => match env[i]? with
  | some (.own (.lst xs)) => ∃ y, xs[xs.length - 1]? = some y ∧ k (env.set i (.own (.lst xs.dropLast))) y
  | _ => False
theorem sSeq_setM {i : Nat} {p : PMX} {Q : PSt} {env : List SV} {K : PK'} (h : sSetM i p env { K with nx := fun env' => Q env' K }) : sSeq (sSetM i p) Q env K := h
theorem sSetM_i {i : Nat} {p : PMX} {env : List SV} {K : PK'} (h : p env fun env1 d => K.nx (env1.set i (.val d))) : sSetM i p env K := h
theorem mE_i {p : PX} {env : List SV} {k : List SV → D → Prop} (h : p env fun d => k env d) : mE p env k := h
theorem mNil_i {env : List SV} {k : List SV → List D → Prop} (h : k env []) : mNil env k := h
theorem mCons_i {p : PMX} {q : PMA} {env : List SV} {k : List SV → List D → Prop} (h : p env fun env1 d => q env1 fun env2 ds => k env2 (d :: ds)) : mCons p q env k := h
theorem mLst_i {q : PMA} {env : List SV} {k : List SV → D → Prop} (h : q env fun env1 ds => ds.length ≤ 100000 ∧ k env1 (.lst ds)) : mLst q env k := h
theorem mTup_i {q : PMA} {env : List SV} {k : List SV → D → Prop} (h : q env fun env1 ds => ds.length ≤ 100000 ∧ k env1 (.tup ds)) : mTup q env k := h
theorem mPop_i {i : Nat} {p : PX} {env : List SV} {xs : List D} {k : List SV → D → Prop} (e : env[i]? = some (.own (.lst xs))) (h : p env fun d => inK d fun n => (-100000 < n ∧ n < 100000) ∧ ∃ jj y, seqIndex? n xs.length = some jj ∧ xs[jj]? = some y ∧ k (env.set i (.own (.lst (xs.eraseIdx jj)))) y) : mPop i p env k := by unfold mPop; rw [e]; exact h
theorem mPop0_i {i : Nat} {env : List SV} {xs : List D} {k : List SV → D → Prop} (e : env[i]? = some (.own (.lst xs))) (h : ∃ y, xs[xs.length - 1]? = some y ∧ k (env.set i (.own (.lst xs.dropLast))) y) : mPop0 i env k := by unfold mPop0; rw [e]; exact h
end
/-! ### zip of two lists, of two tuples -/
def zipD (xs ys : List D) : List D := (xs.zip ys).map fun p => .tup [p.1, p.2]
def zipK (d e : D) (k : List D → Prop) : Prop := match d, e with
  | .lst xs, .lst ys => k (zipD xs ys)
  | .tup xs, .tup ys => k (zipD xs ys)
  | _, _ => False
def iZipP (p q : PX) : PIt := fun env k => p env fun d => q env fun e => zipK d e k
theorem zipD_get {xs ys : List D} {i : Nat} {d : D} (h : (zipD xs ys)[i]? = some d) : ∃ x y, xs[i]? = some x ∧ ys[i]? = some y ∧ d = .tup [x, y] := by
  unfold zipD at h
  rw [List.getElem?_map] at h
  cases q : (xs.zip ys)[i]? with
  | none => rw [q] at h; cases h
  | some p =>
    rw [q] at h
    cases h
    obtain ⟨h1, h2⟩ := List.getElem?_zip_eq_some.mp q
    exact ⟨p.1, p.2, h1, h2, rfl⟩
theorem zipD_len {xs ys : List D} : (zipD xs ys).length = min xs.length ys.length := by simp [zipD]
theorem pair2_is {z : Zn} {M : AP} {H : Hp} {T : Addr} {x y : V} {d e : D} (hT : H T = none) (hM : ¬ M T) (h : Is z M H x d) (g : Is z M H y e) : Is z M (upd H T (.tup [x, y])) (.ref T) (.tup [d, e]) :=
  .tup upd_same hM (.cons (h.new hT) (.cons (g.new hT) .nil))
theorem yl_zipL {z : Zn} {X : AP} {M : AP} {H : Hp} {K : PySem.W.Frag} {a b : Addr} {vs us : List V} {ds es : List D} (h : H a = some (.lst vs)) (n : ¬ M a) (r : IsA z M H vs ds) (h2 : H b = some (.lst us)) (n2 : ¬ M b) (r2 : IsA z M H us es) : Yields z X M H (Itz K a b) (zipD ds es) := fun M' H' f => by
  have h' := (f.old a _ h n).1
  have r' := f.isA r
  have h2' := (f.old b _ h2 n2).1
  have r2' := f.isA r2
  have hl := r'.length
  have hl2 := r2'.length
  refine ⟨⟨vs, us, SqL.of h', SqL.of h2', by rw [hl, hl2, zipD_len]; omega⟩, fun i d hd => ?_⟩
  obtain ⟨x, y, hx, hy, rfl⟩ := zipD_get hd
  obtain ⟨v, q1, q2⟩ := r'.get hx
  obtain ⟨u, p1, p2⟩ := r2'.get hy
  refine ⟨⟨vs, us, v, u, SqL.of h', SqL.of h2', q1, p1⟩, fun w H2 yy => ?_⟩
  obtain ⟨T, x', y', rfl, hT, rfl, hx', hy'⟩ := yy
  have e := hx' vs (SqL.of h')
  rw [q1] at e
  cases e
  have e := hy' us (SqL.of h2')
  rw [p1] at e
  cases e
  exact ⟨(Evo.refl _ _).new hT, fun _ fm => pair2_is hT (fm T hT) q2 p2⟩
theorem yl_zipT {z : Zn} {X : AP} {M : AP} {H : Hp} {K : PySem.W.Frag} {a b : Addr} {vs us : List V} {ds es : List D} (h : H a = some (.tup vs)) (n : ¬ M a) (r : IsA z M H vs ds) (h2 : H b = some (.tup us)) (n2 : ¬ M b) (r2 : IsA z M H us es) : Yields z X M H (RZ.ItzT K a b) (zipD ds es) := fun M' H' f => by
  have h' := (f.old a _ h n).1
  have r' := f.isA r
  have h2' := (f.old b _ h2 n2).1
  have r2' := f.isA r2
  have hl := r'.length
  have hl2 := r2'.length
  refine ⟨⟨vs, us, SqT.of h', SqT.of h2', by rw [hl, hl2, zipD_len]; omega⟩, fun i d hd => ?_⟩
  obtain ⟨x, y, hx, hy, rfl⟩ := zipD_get hd
  obtain ⟨v, q1, q2⟩ := r'.get hx
  obtain ⟨u, p1, p2⟩ := r2'.get hy
  refine ⟨⟨vs, us, v, u, SqT.of h', SqT.of h2', q1, p1⟩, fun w H2 yy => ?_⟩
  obtain ⟨T, x', y', rfl, hT, rfl, hx', hy'⟩ := yy
  have e := hx' vs (SqT.of h')
  rw [q1] at e
  cases e
  have e := hy' us (SqT.of h2')
  rw [p1] at e
  cases e
  exact ⟨(Evo.refl _ _).new hT, fun _ fm => pair2_is hT (fm T hT) q2 p2⟩
theorem i_zip {C : Cx} {e e2 : Expr} {p q : PX} {tpos pp pos : Pos} {elts : List Expr} {kk : Nat} (h : E .e C e p) (g : E .e C e2 q) (hg : Gl C "zip") (hm : C.mg "zip" = none) (hs : starEach [e, e2] C.env = (false, eval e C.env) :: starEach [e2] C.env := by rfl) (hs2 : starEach [e2] C.env = (false, eval e2 C.env) :: starEach [] C.env := by rfl)
    (hpl : (backTo pos (starEach [e2] C.env)).any (·.1) = false := by rfl) : I C (.Tuple elts kk tpos) (.Call (.Name "zip" pp) [e, e2] [] pos) (iZipP p q) := by
  obtain ⟨t, h1, h2⟩ := h
  obtain ⟨u, g1, g2⟩ := g
  refine ⟨_, RZ.pi_zipA hg hm (pa_cons h1 (pa_cons g1 pa_nil hs2) hs) hs hpl, fun z X H0 H σ env R k o c hp => h2 z X H0 H σ env _ _ o (fun d v H1 e1 r1 hx => g2 z X H0 H1 σ env _ _ (o.go e1) (fun d2 v2 H2 e2 r2 hy => ?_) hx) hp⟩
  have r1' : Is z (Ms z X σ env) H2 v d := Is.evo (fun _ q => .inl q) e2 r1
  cases r1' with
  | lst a1 n1 b1 =>
    cases (show Is z (Ms z X σ env) H2 v2 d2 from r2) with
    | lst a2 n2 b2 => exact ⟨_, _, _, _, rfl, .inl ⟨SqL.of a1, SqL.of a2, c _ _ H2 (e1.trans e2) (yl_zipL a1 n1 b1 a2 n2 b2) hy⟩⟩
    | _ => exact (show False from hy).elim
  | tup a1 n1 b1 =>
    cases (show Is z (Ms z X σ env) H2 v2 d2 from r2) with
    | tup a2 n2 b2 => exact ⟨_, _, _, _, rfl, .inr ⟨SqT.of a1, SqT.of a2, c _ _ H2 (e1.trans e2) (yl_zipT a1 n1 b1 a2 n2 b2) hy⟩⟩
    | _ => exact (show False from hy).elim
  | _ => exact (show False from hy).elim
theorem iZipP_i {p q : PX} {env : List SV} {k : List D → Prop} (h : p env fun d => q env fun e => zipK d e k) : iZipP p q env k := h
theorem zipK_l {xs ys : List D} {k : List D → Prop} (h : k (zipD xs ys)) : zipK (.lst xs) (.lst ys) k := h
/-! ### sum, max, min of a list or a tuple of whole numbers -/
def rSumA (K : PySem.W.Frag) : List V → Hp → VK → Prop := fun vs H Q => ∃ (a : Addr) (ns : List Int), vs = [V.ref a] ∧ (SqL K H a (ns.map V.int) ∨ SqT K H a (ns.map V.int)) ∧ Q (.int ns.sum) H
theorem cr_sumA {X : Cx} (hc : X.calm = true) : CallR X (.builtin "sum") (rSumA X.K) := by
  intro pins s σ H vs us Q I r h
  obtain ⟨a, ns, rfl, hs, q⟩ := h
  rcases hs with hs | hs
  · exact cr_sum hc pins s σ H _ us Q I r ⟨a, ns, rfl, hs, q⟩
  · obtain ⟨its, rv, ht, _⟩ := I.tuple hs
    rw [Vals.ref1 r]
    have hi : IntsAre its ns := Vals.ints rv
    obtain ⟨xs, e⟩ := hi.allInts.items
    have hn : numsOf (intItems xs).toList = ns := by rw [← e]; exact hi.numsOf
    rw [nums_intItems] at hn
    rw [e] at ht
    refine PySem.W.ktm_sumG (I.ok.hd hc) ht fun h' tk t' hk => ⟨.int ns.sum, H, I.kept hk, ?_, q⟩
    rw [preSum_eq, List.take_of_length_le (by simp), hn]
    exact ⟨_, rfl⟩
def seqI (d : D) (ns : List Int) : Prop := d = .lst (ns.map D.int) ∨ d = .tup (ns.map D.int)
def gSumA : List D → (D → Prop) → Prop := fun ds k => ∃ d ns, ds = [d] ∧ seqI d ns ∧ k (.int ns.sum)
theorem seq_at {z : Zn} {M : AP} {H : Hp} {K : PySem.W.Frag} {vs : List V} {d : D} {ns : List Int} (h : IsA z M H vs [d]) (hd : seqI d ns) : ∃ a, vs = [.ref a] ∧ (SqL K H a (ns.map V.int) ∨ SqT K H a (ns.map V.int)) := by
  obtain ⟨v, rfl, hv⟩ := h.one
  rcases hd with rfl | rfl
  · cases hv with
    | lst e n r => exact ⟨_, rfl, .inl (SqL.of (by rw [e, isa_ints r]))⟩
  · cases hv with
    | tup e n r => exact ⟨_, rfl, .inr (SqT.of (by rw [e, isa_ints r]))⟩
theorem cd_sumA {l : Bool} {K : PySem.W.Frag} : CallD l .e (rSumA K) gSumA := fun z X H0 H σ env vs ds Q k o h c hp => by
  obtain ⟨d, ns, rfl, hd, hk⟩ := hp
  obtain ⟨a, rfl, ha⟩ := seq_at (K := K) h hd
  exact ⟨a, ns, rfl, ha, c _ _ H (Evo.refl _ _) (Is.int _) hk⟩
theorem gSumA_t {ns : List Int} {k : D → Prop} (h : k (.int ns.sum)) : gSumA [.tup (ns.map D.int)] k := ⟨_, ns, rfl, .inr rfl, h⟩
/-! ### (x,) * n -/
end Pu
namespace Pu
open PySem PySem.Spec PyProof.Rows L2
variable [Tbs]
/-! ### dicts by whole numbers, owned -/
def valD (kvs : List (Key × D)) (k : Key) : Option D := (kvs.find? fun kv => decide (kv.1 = k)).map (·.2)
def putD (kvs : List (Key × D)) (k : Key) (d : D) : List (Key × D) :=
  if (kvs.any fun kv => decide (kv.1 = k)) = true then kvs.map (fun kv => if kv.1 = k then (kv.1, d) else kv) else kvs ++ [(k, d)]
section
variable {z : Zn} {M : AP} {H : Hp}
theorem IsK.len : ∀ {vs : List (Key × V)} {ds : List (Key × D)}, IsK z M H vs ds → vs.length = ds.length
  | _, _, .nil => rfl
  | _, _, .cons _ t => congrArg Nat.succ (IsK.len t)
theorem IsK.val (k : Key) : ∀ {vs : List (Key × V)} {ds : List (Key × D)}, IsK z M H vs ds → (valD ds k = none → valV vs k = none) ∧ (∀ d, valD ds k = some d → ∃ v, valV vs k = some v ∧ Is z M H v d)
  | _, _, .nil => ⟨fun _ => rfl, fun d h => by cases h⟩
  | _, _, .cons (k := k') (v := v) (d := d) (vs := vs) (ds := ds) h t => by
    have ih := IsK.val k t
    by_cases e : k' = k
    · rw [valV_pos (p := (k', v)) (r := vs) e, show valD ((k', d) :: ds) k = some d by simp [valD, List.find?_cons, e]]
      refine ⟨fun q => (by cases q), fun d' q => ?_⟩
      cases q
      exact ⟨v, rfl, h⟩
    · rw [valV_neg (p := (k', v)) (r := vs) e, show valD ((k', d) :: ds) k = valD ds k by simp [valD, List.find?_cons, e]]
      exact ih
theorem IsK.any (k : Key) : ∀ {vs : List (Key × V)} {ds : List (Key × D)}, IsK z M H vs ds → (vs.any fun kv => decide (kv.1 = k)) = ds.any fun kv => decide (kv.1 = k)
  | _, _, .nil => rfl
  | _, _, .cons h t => by rw [List.any_cons, List.any_cons, IsK.any k t]
theorem IsK.mapP {k : Key} {v : V} {d : D} (hv : Is z M H v d) : ∀ {vs : List (Key × V)} {ds : List (Key × D)}, IsK z M H vs ds → IsK z M H (vs.map fun kv => if kv.1 = k then (kv.1, v) else kv) (ds.map fun kv => if kv.1 = k then (kv.1, d) else kv)
  | _, _, .nil => .nil
  | _, _, .cons (k := k') h t => by
    rw [List.map_cons, List.map_cons]
    by_cases e : k' = k
    · rw [if_pos e, if_pos e]
      exact .cons hv (IsK.mapP hv t)
    · rw [if_neg e, if_neg e]
      exact .cons h (IsK.mapP hv t)
theorem IsK.snoc {k : Key} {v : V} {d : D} (hv : Is z M H v d) : ∀ {vs : List (Key × V)} {ds : List (Key × D)}, IsK z M H vs ds → IsK z M H (vs ++ [(k, v)]) (ds ++ [(k, d)])
  | _, _, .nil => .cons hv .nil
  | _, _, .cons h t => .cons h (IsK.snoc hv t)
theorem IsK.put {k : Key} {v : V} {d : D} {vs : List (Key × V)} {ds : List (Key × D)} (h : IsK z M H vs ds) (hv : Is z M H v d) : IsK z M H (putK vs k v) (putD ds k d) := by
  unfold putK putD
  rw [h.any k]
  split
  · exact h.mapP hv
  · exact h.snoc hv
end
theorem valD_put {ds : List (Key × D)} {k k' : Key} {d : D} : valD (putD ds k d) k' = if k' = k then some d else valD ds k' := by
  unfold putD
  split
  · rename_i h
    induction ds with
    | nil => cases h
    | cons p ds ih =>
      obtain ⟨a, b⟩ := p
      by_cases e : a = k
      · subst e
        by_cases q : k' = a
        · subst q
          simp [valD, List.find?_cons]
        · have q' : ¬ a = k' := fun w => q w.symm
          have : ∀ l : List (Key × D), valD (l.map fun kv => if kv.1 = a then (kv.1, d) else kv) k' = valD l k' := fun l => by
            induction l with
            | nil => rfl
            | cons p l ih2 =>
              obtain ⟨c, b'⟩ := p
              rw [List.map_cons]
              by_cases w : c = a
              · subst w
                simp [valD, List.find?_cons, q'] at ih2 ⊢
                exact ih2
              · by_cases w2 : c = k'
                · subst w2
                  simp [valD, List.find?_cons, w]
                · simp [valD, List.find?_cons, w, w2] at ih2 ⊢
                  exact ih2
          rw [this, if_neg q]
      · have h' : (ds.any fun kv => decide (kv.1 = k)) = true := by
          rw [List.any_cons, decide_eq_false e, Bool.false_or] at h
          exact h
        have := ih h'
        rw [List.map_cons]
        by_cases w : a = k'
        · subst w
          simp [valD, List.find?_cons, e]
        · simp [valD, List.find?_cons, e, w] at this ⊢
          exact this
  · rename_i h
    have hn : ∀ p ∈ ds, p.1 ≠ k := fun p hp e => h (List.any_eq_true.mpr ⟨p, hp, decide_eq_true e⟩)
    clear h
    induction ds with
    | nil =>
      by_cases q : k' = k
      · subst q; simp [valD, List.find?_cons]
      · have q' : ¬ k = k' := fun w => q w.symm
        simp [valD, List.find?_cons, q, q']
    | cons p ds ih =>
      obtain ⟨a, b⟩ := p
      have e : a ≠ k := hn (a, b) List.mem_cons_self
      have := ih fun p hp => hn p (List.mem_cons_of_mem _ hp)
      by_cases w : a = k'
      · subst w
        simp [valD, List.find?_cons, e]
      · simp [valD, List.find?_cons, w] at this ⊢
        exact this
section
variable {C : Cx} {fr : Bool} {m : Mode} {e a b : Expr} {p q : PX} {pos pp : Pos}
def eDic0 : PX := fun _ k => k (.dic [])
theorem e_dic0 : E .f C (.Dict [] [] pos) eDic0 := ⟨_, pe_dnewK, fun z X H0 H σ env Q k o c hp => fun q hq => c (.dic []) (.ref q) _ ((Evo.refl _ _).new hq) ⟨q, rfl, hq, [], upd_same, .nil⟩ hp⟩
/-- x[i] = e, x a dict -/
def sDput (i : Nat) (pi pe : PX) : PSt := fun env k => pe env fun y => match env[i]? with
  | some (.own (.dic kvs)) => pi env fun d => inK d fun n => kvs.length ≤ 100000 ∧ k.nx (env.set i (.own (.dic (putD kvs (.inl n) y))))
  | _ => False
theorem s_dput (i : Nat) {x : Str} {ix : Expr} {spos : Pos} (hu : C.A.units + 1 < cLine) (he : E .e C e p) (hi : E m C ix q) (hN : C.N[i]? = some x := by rfl) (hv : Vis C.env.scope x := by first | exact Or.inl rfl | exact Or.inr (Or.inl rfl) | exact Or.inr (Or.inr rfl)) (hd : (x == ("__debug__" : Str)) = false := by decide)
    (hcd : (x == ("__classdict__" : Str)) = false := by decide) (hs : swapsWith e (some (.Subscript (.Name x pp) ix spos)) pos.line C.env = pure false := by rfl) : S fr C (.Assign [.Subscript (.Name x pp) ix spos] e pos) (sDput i q p) := by
  obtain ⟨t, h1, h2⟩ := he
  obtain ⟨u, g1, g2⟩ := hi.toB
  refine ⟨_, ps_dput hu (pe_var hN hv hd hcd) g1 h1 hs, fun z X H0 H σ env G k o s hp => ?_⟩
  refine h2 z X H0 H σ env _ _ o (fun y v H1 e1 r1 hx => ?_) hp
  have o1 := o.go e1
  split at hx
  · rename_i kvs hk
    obtain ⟨ad, q1, ⟨vs, q5, q6⟩, q3, q4⟩ := o1.own i _ hk
    refine ⟨_, q1, g2 z X H0 H1 σ env _ _ o1 (fun d w H2 e2 r2 hy => ?_) hx⟩
    cases d with
    | int n =>
      cases Is.intI r2
      obtain ⟨hl, hy⟩ := hy
      have o2 := o1.go e2
      have q5' := e2.old ad _ q5 q3
      have q6' : IsK z (Ms z X σ env) H2 vs kvs := q6.gen (fun b ob qb nb => ⟨e2.old b ob qb fun w => nb (.inl w), nb⟩) e2.dk
      have r1' : Is z (Ms z X σ env) H2 v y := Is.evo (fun _ q => .inl q) e2 r1
      have hlen := q6.len
      refine ⟨ad, _, rfl, DPut.k (k := Sum.inl n) q5' (by rw [hlen, sizeLine_eq]; omega), ?_⟩
      have ia : Ms z X σ env ad := .inr (.inr ⟨i, _, hk, q1⟩)
      obtain ⟨o3, f3⟩ := o2.mut (d' := .dic (putD kvs (.inl n) y)) (o := .dK (putK vs (.inl n) v)) hk q1 ⟨_, upd_same, (q6'.put r1').gen (fun b u hb nb => ⟨by rw [upd_ne (fun w => nb (by rw [w]; exact ia))]; exact hb, nb⟩) fun b hb => ok_mut q3 hb⟩
      exact s.nx _ _ _ o3 ((o.fr (e1.trans e2)).trans f3) hy
    | _ => exact (show False from hy).elim
  · exact hx.elim
/-- x[k], k in x, x an owned dict -/
def dDget : D → D → (D → Prop) → Prop := fun x y k => match x, y with
  | .dic kvs, .int n => ∃ d, valD kvs (.inl n) = some d ∧ k d
  | _, _ => False
def dDin : D → D → (D → Prop) → Prop := fun x y k => match x, y with
  | .int n, .dic kvs => k (.bl (valD kvs (.inl n)).isSome)
  | _, _ => False
theorem Rel.conD {z : Zn} {X : AP} {H H' : Hp} {σ : Sl} {env : List SV} {v : V} {xs : List (Key × D)} (h : Rel .c z X H H' σ env v (.dic xs)) : ∃ a vs, v = .ref a ∧ H' a = some (.dK vs) ∧ IsK z (Ms z X σ env) H' vs xs := by
  rcases h with h | ⟨a, rfl, ⟨vs, e, r⟩, n, md⟩
  · cases h with
    | dic e n r => exact ⟨_, _, rfl, e, r⟩
  · exact ⟨a, vs, rfl, e, r⟩
theorem e_dgetO (hu : C.A.units + 1 < cLine) (ha : E .c C a p) (hb : E .c C b q) (hs : NoSl b := by exact fun _ _ => rfl) : E .e C (.Subscript a b pos) (eOp dDget p q) := by
  obtain ⟨ta, a1, a2⟩ := ha
  obtain ⟨tb, b1, b2⟩ := hb
  refine ⟨_, pe_dget hu a1 b1 hs, fun z X H0 H σ env Q k o c hp => a2 z X H0 H σ env _ _ o (fun x v H1 e1 r1 hp1 => b2 z X H0 H1 σ env _ _ (o.go e1) (fun y u H2 e2 r2 hp2 => ?_) hp1) hp⟩
  have r1' := r1.evo o e2 e1
  cases x with
  | dic kvs =>
    cases y with
    | int n =>
      obtain ⟨d, hd, hk⟩ := hp2
      obtain ⟨ad, vs, rfl, h1, h2⟩ := Rel.conD r1'
      obtain ⟨w, hw, iw⟩ := (h2.val (.inl n)).2 d hd
      cases r2.intC
      exact ⟨ad, w, rfl, hw ▸ DGet.k (k := Sum.inl n) h1, c d w H2 (e1.trans e2) iw hk⟩
    | _ => exact (show False from hp2).elim
  | _ => exact (show False from hp2).elim
theorem t_dinO (hu : C.A.units + 1 < cLine) (ha : E .c C a p) (hb : E .c C b q) (hk : behindInMarks .In b = false := by rfl) : T C (.Compare a [.In] [b] pos) (tOf (eOp dDin p q)) := by
  obtain ⟨ta, a1, a2⟩ := ha
  obtain ⟨tb, b1, b2⟩ := hb
  refine ⟨_, pt_cmp (pc_din hu a1 b1) hk, fun z X H0 H σ env Q k o c hp => a2 z X H0 H σ env _ _ o (fun x v H1 e1 r1 hp1 => b2 z X H0 H1 σ env _ _ (o.go e1) (fun y u H2 e2 r2 hp2 => ?_) hp1) hp⟩
  have r1' := r1.evo o e2 e1
  cases x with
  | int n =>
    cases y with
    | dic kvs =>
      obtain ⟨ad, vs, rfl, h1, h2⟩ := Rel.conD r2
      cases r1'.intC
      have hv := h2.val (.inl n)
      refine ⟨ad, valV vs (.inl n), rfl, DGet.k (k := Sum.inl n) h1, _, rfl, ?_⟩
      have : (valV vs (.inl n)).isSome = (valD kvs (.inl n)).isSome := by
        cases q : valD kvs (.inl n) with
        | none => rw [hv.1 q]; rfl
        | some d =>
          obtain ⟨w, hw, _⟩ := hv.2 d q
          rw [hw]
          rfl
      rw [this]
      exact c _ H2 (e1.trans e2) hp2
    | _ => exact (show False from hp2).elim
  | _ => exact (show False from hp2).elim
theorem dDget_i {kvs : List (Key × D)} {n : Int} {d : D} {k : D → Prop} (e : valD kvs (.inl n) = some d) (h : k d) : dDget (.dic kvs) (.int n) k := ⟨d, e, h⟩
theorem dDin_i {kvs : List (Key × D)} {n : Int} {k : D → Prop} (h : k (.bl (valD kvs (.inl n)).isSome)) : dDin (.int n) (.dic kvs) k := h
theorem eO_d {i : Nat} {env : List SV} {kvs : List (Key × D)} {k : D → Prop} (e : env[i]? = some (.own (.dic kvs))) (h : k (.dic kvs)) : eO i env k := by unfold eO; rw [e]; exact h
theorem sDput_i {i : Nat} {pi pe : PX} {env : List SV} {kvs : List (Key × D)} {K : PK'} (e : env[i]? = some (.own (.dic kvs))) (h : pe env fun y => pi env fun d => inK d fun n => kvs.length ≤ 100000 ∧ K.nx (env.set i (.own (.dic (putD kvs (.inl n) y))))) : sDput i pi pe env K := by
  unfold sDput
  rw [e]
  exact h
end
/-! ### a statement by its reading, between statements by hand -/
/-! ### sorted(set(t)), t a tuple of whole numbers -/
end Pu
namespace Pu
open PySem PySem.Spec PyProof.Rows L2
variable [Tbs]
/-! ### going through a reading, step by step -/
section
variable {env : List SV} {k : D → Prop} {K : PK'} {p q r : PX} {s t : PTs'} {P Q : PSt} {d : D} {ds xs ys : List D} {i n : Nat} {a b c : Int} {g : PAs}
theorem sSeq_i (h : P env { K with nx := fun env' => Q env' K }) : sSeq P Q env K := h
theorem sSeq_mid (Mid : List SV → Prop) (h : ∀ N : List SV → Prop, (∀ e, Mid e → N e) → P env { K with nx := N }) (h2 : ∀ e, Mid e → Q e K) : sSeq P Q env K := h _ h2
theorem sSeq_set (h : sSet i p env { K with nx := fun env' => Q env' K }) : sSeq (sSet i p) Q env K := h
theorem sSeq_own (h : sOwn i p env { K with nx := fun env' => Q env' K }) : sSeq (sOwn i p) Q env K := h
theorem sSeq_asg {gt : PGt} (h : sAsg p gt env { K with nx := fun env' => Q env' K }) : sSeq (sAsg p gt) Q env K := h
theorem sSeq_par {j : Nat} (h : sPar i j g env { K with nx := fun env' => Q env' K }) : sSeq (sPar i j g) Q env K := h
theorem sSeq_app (h : sAppend i p env { K with nx := fun env' => Q env' K }) : sSeq (sAppend i p) Q env K := h
theorem sSeq_put (h : sPut i p q env { K with nx := fun env' => Q env' K }) : sSeq (sPut i p q) Q env K := h
theorem sSeq_pop {j : Nat} (h : sPopAt j i p env { K with nx := fun env' => Q env' K }) : sSeq (sPopAt j i p) Q env K := h
theorem sSeq_drop (h : sDrop p env { K with nx := fun env' => Q env' K }) : sSeq (sDrop p) Q env K := h
theorem sSeq_for {it : PIt} {gt : PGt} (h : sFor it gt P env { K with nx := fun env' => Q env' K }) : sSeq (sFor it gt P) Q env K := h
theorem sSeq_ifr (h : sIf s (sRet p) sNext env { K with nx := fun env' => Q env' K }) : sSeq (sIf s (sRet p) sNext) Q env K := h
theorem sSeq_ifn (h : sIf s sRetN sNext env { K with nx := fun env' => Q env' K }) : sSeq (sIf s sRetN sNext) Q env K := h
theorem sNext_i (h : K.nx env) : sNext env K := h
theorem sSet_i (h : p env fun d => K.nx (env.set i (.val d))) : sSet i p env K := h
theorem sOwn_i (h : p env fun d => i < env.length ∧ K.nx (env.set i (.own d))) : sOwn i p env K := h
theorem sRet_i (h : p env K.rt) : sRet p env K := h
theorem sRetO_i (e : env[i]? = some (.own d)) (h : K.rt d) : sRetO i env K := by unfold sRetO; rw [e]; exact h
theorem sRetN_i (h : K.rt .non) : sRetN env K := h
theorem sDrop_i (h : p env fun _ => K.nx env) : sDrop p env K := h
theorem sIf_i (h : s env fun b => if b = true then P env K else Q env K) : sIf s P Q env K := h
theorem sAsg_i {gt : PGt} (h : p env fun d => gt d env K.nx) : sAsg p gt env K := h
theorem sPar_i {j : Nat} (h : g env fun ds => prK ds fun c d => K.nx ((env.set i (.val c)).set j (.val d))) : sPar i j g env K := h
theorem prK_i {e : D} {k : D → D → Prop} (h : k d e) : prK [d, e] k := h
theorem nx_i {f f' f'' : List SV → Prop} {g : D → Prop} (h : f env) : PK'.nx { nx := f, rt := g, bk := f', ct := f'' } env := h
theorem bk_i {f f' f'' : List SV → Prop} {g : D → Prop} (h : f' env) : PK'.bk { nx := f, rt := g, bk := f', ct := f'' } env := h
theorem ct_i {f f' f'' : List SV → Prop} {g : D → Prop} (h : f'' env) : PK'.ct { nx := f, rt := g, bk := f', ct := f'' } env := h
theorem rt_i {f f' f'' : List SV → Prop} {g : D → Prop} (h : g d) : PK'.rt { nx := f, rt := g, bk := f', ct := f'' } d := h
theorem blK_i {b : Bool} {k : Bool → Prop} (h : k b) : blK (.bl b) k := h
theorem inK_i {k : Int → Prop} (h : k a) : inK (.int a) k := h
theorem sqK_t {k : List D → Prop} (h : k xs) : sqK (.tup xs) k := h
theorem sqK_l {k : List D → Prop} (h : k xs) : sqK (.lst xs) k := h
theorem sFrz_i (e : env[i]? = some (.own d)) (h : P (env.set i (.val d)) K) : sFrz i P env K := by unfold sFrz frz; rw [e]; exact h
theorem sFor_i {it : PIt} {gt : PGt} (h : it env fun ds => forP gt P ds env K) : sFor it gt P env K := h
theorem sAppend_i (e : env[i]? = some (.own (.lst xs))) (h : p env fun d => xs.length ≤ 100000 ∧ K.nx (env.set i (.own (.lst (xs ++ [d]))))) : sAppend i p env K := by unfold sAppend; rw [e]; exact h
theorem eC_i (h : k d) : eC d env k := h
theorem eV_i (e : env[i]? = some (.val d)) (h : k d) : eV i env k := by unfold eV; rw [e]; exact h
theorem eO_i (e : env[i]? = some (.own (.lst xs))) (h : k (.lst xs)) : eO i env k := by unfold eO; rw [e]; exact h
theorem eOp_i {o : D → D → (D → Prop) → Prop} (h : p env fun x => q env fun y => o x y k) : eOp o p q env k := h
theorem eUn_i {o : D → (D → Prop) → Prop} (h : p env fun x => o x k) : eUn o p env k := h
theorem eChain_i {o o' : D → D → (D → Prop) → Prop} (h : p env fun x => q env fun y => o x y fun w => bCase w (r env fun u => o' y u k) (k (.bl false))) : eChain o o' p q r env k := h
theorem bCase_i {c : Bool} {A B : Prop} (h1 : c = true → A) (h2 : c = false → B) : bCase (.bl c) A B := by
  cases c with
  | true => exact h1 rfl
  | false => exact h2 rfl
theorem bCase_d {c : Prop} [Decidable c] {A B : Prop} (h1 : c → A) (h2 : ¬ c → B) : bCase (.bl (decide c)) A B := bCase_i (fun e => h1 (of_decide_eq_true e)) fun e => h2 (of_decide_eq_false e)
theorem bCase_t {A B : Prop} (h : A) : bCase (.bl true) A B := h
theorem bCase_f {A B : Prop} (h : B) : bCase (.bl false) A B := h
theorem eAnd_i (h : p env fun x => bCase x (q env k) (k (.bl false))) : eAnd p q env k := h
theorem eOr_i (h : p env fun x => bCase x (k (.bl true)) (q env k)) : eOr p q env k := h
theorem eIf_i (h : s env fun x => if x = true then p env k else q env k) : eIf s p q env k := h
theorem eTup_i (h : g env fun xs => xs.length ≤ 100000 ∧ k (.tup xs)) : eTup g env k := h
theorem eLst_i (h : g env fun xs => xs.length ≤ 100000 ∧ k (.lst xs)) : eLst g env k := h
theorem eCall_i {o : List D → (D → Prop) → Prop} (h : g env fun ds => o ds k) : eCall o g env k := h
theorem aNil_i {k : List D → Prop} (h : k []) : aNil env k := h
theorem aCons_i {k : List D → Prop} (h : p env fun x => g env fun xs => k (x :: xs)) : aCons p g env k := h
theorem tOf_i {k : Bool → Prop} (h : p env fun d => blK d k) : tOf p env k := h
theorem tAndP_i {k : Bool → Prop} (h : s env fun x => if x = true then t env k else k false) : tAndP s t env k := h
theorem tOrP_i {k : Bool → Prop} (h : s env fun x => if x = true then k true else t env k) : tOrP s t env k := h
theorem tNotP_i {k : Bool → Prop} (h : s env fun x => k (!x)) : tNotP s env k := h
theorem dI0_i {f : Int → Int → D} (h : k (f a b)) : dI0 f (.int a) (.int b) k := h
theorem dII_i {C : Int → Int → Prop} {f : Int → Int → D} (c : C a b) (h : k (f a b)) : dII C f (.int a) (.int b) k := ⟨c, h⟩
theorem dAdd_i (h : k (.int (a + b))) : dAdd (.int a) (.int b) k := h
theorem dAdd_t (hl : xs.length + ys.length ≤ 100000) (h : k (.tup (xs ++ ys))) : dAdd (.tup xs) (.tup ys) k := ⟨hl, h⟩
theorem dAdd_l (hl : xs.length + ys.length ≤ 100000) (h : k (.lst (xs ++ ys))) : dAdd (.lst xs) (.lst ys) k := ⟨hl, h⟩
theorem dIx_t (e : atI xs a = some d) (h : k d) : dIx (.tup xs) (.int a) k := ⟨d, e, h⟩
theorem dIx_l (e : atI xs a = some d) (h : k d) : dIx (.lst xs) (.int a) k := ⟨d, e, h⟩
theorem dIx_in (h0 : 0 ≤ a) (h1 : a < xs.length) (h : ∀ d ∈ xs, k d) : dIx (.lst xs) (.int a) k := by
  have hl : a.toNat < xs.length := by omega
  refine ⟨xs[a.toNat], ?_, h _ (List.getElem_mem hl)⟩
  unfold atI ixN
  rw [if_pos h0, if_pos h1]
  exact List.getElem?_eq_getElem hl
theorem dNeg_i (h : k (.int (-a))) : dNeg (.int a) k := h
theorem dNot_i {c : Bool} (h : k (.bl (!c))) : dNot (.bl c) k := h
theorem dTuple_l (h : k (.tup xs)) : dTuple (.lst xs) k := h
theorem dTuple_t (h : k (.tup xs)) : dTuple (.tup xs) k := h
theorem dList_l (h : k (.lst xs)) : dList (.lst xs) k := h
theorem dList_t (h : k (.lst xs)) : dList (.tup xs) k := h
theorem dRevL_i (h : k (.lst xs.reverse)) : dRevL (.lst xs) k := h
theorem gMax_2 (h : k (.int (max a b))) : gMaxN [.int a, .int b] k := h
theorem gMax_3 (h : k (.int (max a (max b c)))) : gMaxN [.int a, .int b, .int c] k := h
theorem gMax_4 {d : Int} (h : k (.int (max a (max b (max c d))))) : gMaxN [.int a, .int b, .int c, .int d] k := h
theorem gMax_5 {d e : Int} (h : k (.int (max a (max b (max c (max d e)))))) : gMaxN [.int a, .int b, .int c, .int d, .int e] k := h
theorem gMin_2 (h : k (.int (min a b))) : gMinN [.int a, .int b] k := h
theorem gMin_3 (h : k (.int (min a (min b c)))) : gMinN [.int a, .int b, .int c] k := h
theorem gMin_4 {d : Int} (h : k (.int (min a (min b (min c d))))) : gMinN [.int a, .int b, .int c, .int d] k := h
theorem gAbs_i (h : k (.int (max a (-a)))) : gAbs [.int a] k := by
  show k (.int (if a < 0 then -a else a))
  rw [show (if a < 0 then -a else a) = max a (-a) by split <;> omega]
  exact h
theorem gLen_t (h : k (.int xs.length)) : gLen [.tup xs] k := h
theorem gLen_l (h : k (.int xs.length)) : gLen [.lst xs] k := h
theorem gInt_i (h : k (.int a)) : gInt [.int a] k := h
theorem gInt_b {c : Bool} (h : k (.int (if c then 1 else 0))) : gInt [.bl c] k := h
theorem gIsi_i {n t : String} {c : Bool} (e1 : tyD d = some t) (e2 : isB t n = some c) (h : k (.bl c)) : gIsi [d, .ty n] k := ⟨t, c, e1, e2, h⟩
theorem gMaxL_i {ns : List Int} (e : intsD xs = some ns) (hn : ns ≠ []) (h : k (.int (maxI ns))) : gMaxL [.lst xs] k := ⟨xs, ns, rfl, e, hn, h⟩
theorem gMinL_i {ns : List Int} (e : intsD xs = some ns) (hn : ns ≠ []) (h : k (.int (minI ns))) : gMinL [.lst xs] k := ⟨xs, ns, rfl, e, hn, h⟩
theorem gSum_i {ns : List Int} (e : intsD xs = some ns) (h : k (.int ns.sum)) : gSum [.lst xs] k := ⟨xs, ns, rfl, e, h⟩
theorem gtName_i {k : List SV → Prop} (h : k (env.set i (.val d))) : gtName i d env k := h
theorem gtTup_i {k : List SV → Prop} {gs : PGs'} (hn : ds.length = n) (h : gs ds env k) : gtTup n gs (.tup ds) env k := ⟨hn, h⟩
theorem gtCons_i {k : List SV → Prop} {gt : PGt} {gs : PGs'} (h : gt d env fun env' => gs ds env' k) : gtCons gt gs (d :: ds) env k := h
theorem gtNil_i {k : List SV → Prop} (h : k env) : gtNil [] env k := h
theorem iRange1_i {k : List D → Prop} (h : g env fun ds => rgK1 ds k) : iRange1 g env k := h
theorem iRange2_i {k : List D → Prop} (h : g env fun ds => rgK2 ds k) : iRange2 g env k := h
theorem rgK1_i {k : List D → Prop} (h1 : -100000 < a) (h2 : a < 100000) (h : k (rangeD 0 a.toNat)) : rgK1 [.int a] k := ⟨h1, h2, h⟩
theorem rgK2_i {k : List D → Prop} (h1 : -100000 < a ∧ a < 100000 ∧ -100000 < b ∧ b < 100000) (h : k (rangeD a (b - a).toNat)) : rgK2 [.int a, .int b] k := ⟨h1, h⟩
theorem iSeq_i {k : List D → Prop} (h : p env fun d => sqK d k) : iSeq p env k := h
theorem iEnumS_i {k : List D → Prop} (h : p env fun d => q env fun s => enK d s k) : iEnumS p q env k := h
theorem enK_i {k : List D → Prop} (h1 : -100000 < a ∧ a < 100000) (h : k (enumD a xs)) : enK (.tup xs) (.int a) k := ⟨h1, h⟩
theorem iEnum0_i {k : List D → Prop} (h : p env fun d => en0K d k) : iEnum0 p env k := h
theorem en0K_t {k : List D → Prop} (h : k (enumD 0 xs)) : en0K (.tup xs) k := h
theorem en0K_l {k : List D → Prop} (h : k (enumD 0 xs)) : en0K (.lst xs) k := h
theorem iRev1_i {k : List D → Prop} (h : p env fun d => rvK d k) : iRev1 p env k := h
theorem rvK_i {k : List D → Prop} (h1 : -100000 < a ∧ a < 100000) (h : k (revD a.toNat)) : rvK (.int a) k := ⟨h1, h⟩
theorem gSorted_i {ns : List Int} (e : intsD xs = some ns) (h : ∀ ms : List Int, ms.Perm ns → ms.Pairwise (· ≤ ·) → k (.lst (ms.map D.int))) : gSorted [.lst xs] k := ⟨xs, ns, rfl, e, h⟩
theorem sAug_i (e : env[i]? = some (.val (.int a))) (h : p env fun d => inK d fun b => K.nx (env.set i (.val (.int (a + b))))) : sAug i p env K := by unfold sAug; rw [e]; exact h
theorem sInsert_i (e : env[i]? = some (.own (.lst xs))) (h : p env fun d => q env fun y => inK d fun n => (0 ≤ n ∧ n < 100000 ∧ xs.length ≤ 100000) ∧ K.nx (env.set i (.own (.lst (xs.take n.toNat ++ [y] ++ xs.drop n.toNat))))) : sInsert i p q env K := by unfold sInsert; rw [e]; exact h
theorem sPopAt_i {j : Nat} (e : env[i]? = some (.own (.lst xs))) (h : p env fun d => inK d fun n => (-100000 < n ∧ n < 100000) ∧ ∃ jj y, seqIndex? n xs.length = some jj ∧ xs[jj]? = some y ∧ K.nx ((env.set i (.own (.lst (xs.eraseIdx jj)))).set j (.val y))) : sPopAt j i p env K := by unfold sPopAt; rw [e]; exact h
theorem sSeq_ins (h : sInsert i p q env { K with nx := fun env' => Q env' K }) : sSeq (sInsert i p q) Q env K := h
theorem sSeq_aug (h : sAug i p env { K with nx := fun env' => Q env' K }) : sSeq (sAug i p) Q env K := h
theorem eSl_i {lo hi : PO'} (h : p env fun x => lo env fun i => hi env fun j => dSl x i j k) : eSl p lo hi env k := h
theorem oNo_i {k : Option Int → Prop} (h : k none) : oNo env k := h
theorem oPart_i {k : Option Int → Prop} (h : p env fun d => inK d fun i => k (some i)) : oPart p env k := h
theorem dSl_t {lo hi : Option Int} (h : k (.tup (cutD xs lo hi))) : dSl (.tup xs) lo hi k := h
theorem dSl_l {lo hi : Option Int} (h : k (.lst (cutD xs lo hi))) : dSl (.lst xs) lo hi k := h
theorem eRg1_i {f : List D → D} (h : p env fun x => dRg f (.int 0) x k) : eRg1 f p env k := h
theorem dRg_i {f : List D → D} (hb : 0 ≤ a ∧ a < 100000 ∧ 0 ≤ b ∧ b < 100000) (h : k (f (rangeD a (b - a).toNat))) : dRg f (.int a) (.int b) k := ⟨hb, h⟩
theorem dEq_i (hx : pln 60 d = true) {e : D} (he : pln 60 e = true) (h : ∀ c : Bool, (c = true ↔ d = e) → k (.bl c)) : dEq d e k := ⟨_, ⟨pln_shp _ _ hx, pln_shp _ _ he, rfl⟩, h _ (eqvD_iff hx he)⟩
theorem dNe_i (hx : pln 60 d = true) {e : D} (he : pln 60 e = true) (h : ∀ c : Bool, (c = true ↔ d = e) → k (.bl (!c))) : dNe d e k := ⟨_, ⟨pln_shp _ _ hx, pln_shp _ _ he, rfl⟩, h _ (eqvD_iff hx he)⟩
theorem dEq_int (h : k (.bl (decide (a = b)))) : dEq (.int a) (.int b) k := by
  refine ⟨_, ⟨rfl, rfl, rfl⟩, ?_⟩
  have e : eqvD (.int a) (.int b) = decide (a = b) := by
    unfold eqvD
    simp only [pd, PyData.eqv]
    by_cases h : a = b <;> simp [h]
  rw [e]; exact h
theorem dNe_int (h : k (.bl (!decide (a = b)))) : dNe (.int a) (.int b) k := by
  refine ⟨_, ⟨rfl, rfl, rfl⟩, ?_⟩
  have e : eqvD (.int a) (.int b) = decide (a = b) := by
    unfold eqvD
    simp only [pd, PyData.eqv]
    by_cases h : a = b <;> simp [h]
  rw [e]; exact h
theorem dNe_nil (hx : plnA 59 xs = true) (h : k (.bl (!decide (xs = [])))) : dNe (.lst xs) (.lst []) k := by
  refine dNe_i (by simp only [pln]; exact hx) rfl fun c hc => ?_
  rw [show c = decide (xs = []) from ?_]
  · exact h
  · rw [D.lst.injEq] at hc
    by_cases e : xs = []
    · rw [decide_eq_true e]; exact hc.mpr e
    · rw [decide_eq_false e]; cases c with
      | true => exact absurd (hc.mp rfl) e
      | false => rfl
theorem ite_d {c : Prop} [Decidable c] {A B : Prop} (h1 : c → A) (h2 : ¬ c → B) : if decide c = true then A else B := by
  by_cases h : c
  · rw [if_pos (decide_eq_true h)]; exact h1 h
  · rw [if_neg (by rw [decide_eq_false h]; exact Bool.false_ne_true)]; exact h2 h
theorem ite_n {c : Prop} [Decidable c] {A B : Prop} (h1 : ¬ c → A) (h2 : c → B) : if (!decide c) = true then A else B := by
  by_cases h : c
  · rw [if_neg (by rw [decide_eq_true h]; exact Bool.false_ne_true)]; exact h2 h
  · rw [if_pos (by rw [decide_eq_false h]; rfl)]; exact h1 h
theorem ite_t {A B : Prop} (h : A) : if true = true then A else B := h
theorem ite_f {A B : Prop} (h : B) : if false = true then A else B := h
theorem ite_nt {A B : Prop} (h : B) : if (!true) = true then A else B := h
theorem ite_nf {A B : Prop} (h : A) : if (!false) = true then A else B := h
theorem and_le {n m : Nat} {A : Prop} (e : Nat.ble n m = true) (h : A) : n ≤ m ∧ A := ⟨Nat.le_of_ble_eq_true e, h⟩
theorem and_lt {n m : Nat} {A : Prop} (e : Nat.ble (n + 1) m = true) (h : A) : n < m ∧ A := ⟨Nat.le_of_ble_eq_true e, h⟩
theorem and_rfl {n m : Nat} {A : Prop} (e : n = m) (h : A) : n = m ∧ A := ⟨e, h⟩
end
/-! loops -/
theorem forP_i {gt : PGt} {body : PSt} {K : PK'} (Inv : Nat → List SV → Prop) : ∀ (ds : List D) (n : Nat) {env : List SV}, Inv n env →
    (∀ i d env, ds[i]? = some d → Inv (n + i) env → ∀ N : List SV → Prop, (∀ e, Inv (n + i + 1) e → N e) → gt d env fun env1 => body env1 { nx := N, rt := K.rt, bk := K.nx, ct := N }) →
    (∀ env, Inv (n + ds.length) env → K.nx env) → forP gt body ds env K
  | [], n, env, h0, _, hd => hd env (by simpa using h0)
  | d :: ds, n, env, h0, hs, hd => by
    unfold forP
    refine hs 0 d env rfl (by simpa using h0) _ fun e he => ?_
    exact forP_i Inv ds (n + 1) (by simpa using he) (fun i d' env' hi hI N hN => by
        refine hs (i + 1) d' env' hi (by rw [show n + (i + 1) = n + 1 + i by omega]; exact hI) N fun e h => hN e ?_
        rw [show n + 1 + i + 1 = n + (i + 1) + 1 by omega]; exact h) (fun env' h => hd env' (by rw [List.length_cons, show n + (ds.length + 1) = n + 1 + ds.length by omega]; exact h))
theorem lcP_i {pg : PGt} {pt : PTs'} {pe : PX} {env : List SV} {k : List D → Prop} (Inv : Nat → List D → Prop) : ∀ (ds : List D) (n : Nat) {acc : List D}, Inv n acc →
    (∀ i d acc, ds[i]? = some d → Inv (n + i) acc → acc.length ≤ 100000 ∧ ∀ (A : D → Prop) (B : Prop), (∀ r, Inv (n + i + 1) (acc ++ [r]) → A r) → (Inv (n + i + 1) acc → B) → pg d env fun env1 => pt env1 fun b => if b = true then pe env1 A else B) →
    (∀ acc, Inv (n + ds.length) acc → k acc) → lcP pg pt pe env ds acc k
  | [], n, acc, h0, _, hd => hd acc (by simpa using h0)
  | d :: ds, n, acc, h0, hs, hd => by
    unfold lcP
    have go : ∀ acc', Inv (n + 1) acc' → lcP pg pt pe env ds acc' k := fun acc' h => lcP_i Inv ds (n + 1) h (fun i d' acc'' hi hI => by
        have q := hs (i + 1) d' acc'' hi (by rw [show n + (i + 1) = n + 1 + i by omega]; exact hI)
        refine ⟨q.1, fun A B hA hB => q.2 A B (fun r h => hA r ?_) (fun h => hB ?_)⟩
        · rw [show n + 1 + i + 1 = n + (i + 1) + 1 by omega]; exact h
        · rw [show n + 1 + i + 1 = n + (i + 1) + 1 by omega]; exact h) (fun acc'' h => hd acc'' (by rw [List.length_cons, show n + (ds.length + 1) = n + 1 + ds.length by omega]; exact h))
    have q := hs 0 d acc rfl (by simpa using h0)
    exact q.2 _ _ (fun r h => ⟨q.1, go _ (by simpa using h)⟩) (fun h => go _ (by simpa using h))
/-- each item by a function -/
theorem lcP_m {α : Type} {pg : PGt} {pt : PTs'} {pe : PX} {env : List SV} {k : List D → Prop} (e : α → D) (f : α → D) (xs : List α) (hl : xs.length ≤ 100000)
    (hs : ∀ x ∈ xs, ∀ (A : D → Prop) (B : Prop), A (f x) → pg (e x) env fun env1 => pt env1 fun b => if b = true then pe env1 A else B) (hk : k (xs.map f)) : lcP pg pt pe env (xs.map e) [] k := by
  have go : ∀ (xs : List α) (acc : List D), acc.length + xs.length ≤ 100000 → (∀ x ∈ xs, ∀ (A : D → Prop) (B : Prop), A (f x) → pg (e x) env fun env1 => pt env1 fun b => if b = true then pe env1 A else B) → k (acc ++ xs.map f) → lcP pg pt pe env (xs.map e) acc k := by
    intro xs
    induction xs with
    | nil => intro acc _ _ hk; simp only [List.map_nil, lcP]; simpa using hk
    | cons x xs ih =>
      intro acc hl hs hk
      rw [List.map_cons]
      unfold lcP
      have hl' : acc.length + (xs.length + 1) ≤ 100000 := by simpa using hl
      refine hs x List.mem_cons_self _ _ ⟨by omega, ih _ (by rw [List.length_append, List.length_singleton]; omega) (fun y h => hs y (List.mem_cons_of_mem _ h)) (by simpa using hk)⟩
  exact go xs [] (by simpa using hl) hs (by simpa using hk)
/-- some of the items -/
theorem lcP_flt {α : Type} {pg : PGt} {pt : PTs'} {pe : PX} {env : List SV} {k : List D → Prop} (e : α → D) (c : α → Bool) (f : α → D) (xs : List α) (hl : xs.length ≤ 100000)
    (hs : ∀ x ∈ xs, ∀ (A : D → Prop) (B : Prop), (c x = true → A (f x)) → (c x = false → B) → pg (e x) env fun env1 => pt env1 fun b => if b = true then pe env1 A else B) (hk : k ((xs.filter c).map f)) : lcP pg pt pe env (xs.map e) [] k := by
  have go : ∀ (xs : List α) (acc : List D), acc.length + xs.length ≤ 100000 → (∀ x ∈ xs, ∀ (A : D → Prop) (B : Prop), (c x = true → A (f x)) → (c x = false → B) → pg (e x) env fun env1 => pt env1 fun b => if b = true then pe env1 A else B) → k (acc ++ (xs.filter c).map f) → lcP pg pt pe env (xs.map e) acc k := by
    intro xs
    induction xs with
    | nil => intro acc _ _ hk; simp only [List.map_nil, lcP]; simpa using hk
    | cons x xs ih =>
      intro acc hl hs hk
      rw [List.map_cons]
      unfold lcP
      have hl' : acc.length + (xs.length + 1) ≤ 100000 := by simpa using hl
      refine hs x List.mem_cons_self _ _ (fun hc => ⟨by omega, ih _ (by rw [List.length_append, List.length_singleton]; omega) (fun y h => hs y (List.mem_cons_of_mem _ h)) ?_⟩) (fun hc => ih _ (by omega) (fun y h => hs y (List.mem_cons_of_mem _ h)) ?_)
      · rw [List.filter_cons_of_pos hc] at hk; simpa using hk
      · rw [List.filter_cons_of_neg (by rw [hc]; exact Bool.false_ne_true)] at hk; exact hk
  exact go xs [] (by simpa using hl) hs (by simpa using hk)
theorem lcP_ma {α : Type} {pg : PGt} {pt : PTs'} {pe : PX} {env : List SV} {k : List D → Prop} (e : α → D) (f : α → D) : ∀ (xs : List α) (acc : List D), acc.length + xs.length ≤ 100000 →
    (∀ x ∈ xs, ∀ (A : D → Prop) (B : Prop), A (f x) → pg (e x) env fun env1 => pt env1 fun b => if b = true then pe env1 A else B) → k (acc ++ xs.map f) → lcP pg pt pe env (xs.map e) acc k
  | [], acc, _, _, hk => by simp only [List.map_nil, lcP]; simpa using hk
  | x :: xs, acc, hl, hs, hk => by
    rw [List.map_cons]
    unfold lcP
    have hl' : acc.length + (xs.length + 1) ≤ 100000 := by simpa using hl
    exact hs x List.mem_cons_self _ _ ⟨by omega, lcP_ma e f xs _ (by rw [List.length_append, List.length_singleton]; omega) (fun y h => hs y (List.mem_cons_of_mem _ h)) (by simpa using hk)⟩
theorem lcP2_m {α β : Type} {vs1 : List Nat} {pg : PGt} {pt : PTs'} {pi1 : PIt} {pg1 : PGt} {pt1 : PTs'} {pe : PX} {env : List SV} {k : List D → Prop} (e : α → D) (ys : List β) (f : α → β → D) (xs : List α) (hl : xs.length * ys.length ≤ 100000)
    (hs : ∀ x ∈ xs, ∀ (acc : List D) (A : List D → Prop) (B : Prop), acc.length + ys.length ≤ 100000 → A (acc ++ ys.map (f x)) → pg (e x) env fun env1 => pt env1 fun b => if b = true then pi1 env1 fun ds1 => noOwn env1 vs1 ∧ lcP pg1 pt1 pe (wipeE env1 vs1) ds1 acc A else B)
    (hk : k (xs.flatMap fun x => ys.map (f x))) : lcP2 vs1 pg pt pi1 pg1 pt1 pe env (xs.map e) [] k := by
  have go : ∀ (xs : List α) (acc : List D), acc.length + xs.length * ys.length ≤ 100000 → (∀ x ∈ xs, ∀ (acc : List D) (A : List D → Prop) (B : Prop), acc.length + ys.length ≤ 100000 → A (acc ++ ys.map (f x)) → pg (e x) env fun env1 => pt env1 fun b => if b = true then pi1 env1 fun ds1 => noOwn env1 vs1 ∧ lcP pg1 pt1 pe (wipeE env1 vs1) ds1 acc A else B) →
      k (acc ++ xs.flatMap fun x => ys.map (f x)) → lcP2 vs1 pg pt pi1 pg1 pt1 pe env (xs.map e) acc k := by
    intro xs
    induction xs with
    | nil => intro acc _ _ hk; simp only [List.map_nil, lcP2]; simpa using hk
    | cons x xs ih =>
      intro acc hl hs hk
      rw [List.map_cons]
      unfold lcP2
      have hl' : acc.length + (xs.length * ys.length + ys.length) ≤ 100000 := by rw [List.length_cons, Nat.succ_mul] at hl; exact hl
      refine hs x List.mem_cons_self acc _ _ (by omega) (ih _ (by rw [List.length_append, List.length_map]; omega) (fun y h => hs y (List.mem_cons_of_mem _ h)) ?_)
      rw [List.flatMap_cons] at hk
      rw [List.append_assoc]
      exact hk
  exact go xs [] (by simpa using hl) hs (by simpa using hk)
theorem eLc_i {vs : List Nat} {pi : PIt} {pg : PGt} {pt : PTs'} {pe : PX} {env : List SV} {k : D → Prop} (h : pi env fun ds => noOwn env vs ∧ lcP pg pt pe (wipeE env vs) ds [] fun r => k (.lst r)) : eLc vs pi pg pt pe env k := h
theorem eLc2_i {vs vs1 : List Nat} {pi : PIt} {pg : PGt} {pt : PTs'} {pi1 : PIt} {pg1 : PGt} {pt1 : PTs'} {pe : PX} {env : List SV} {k : D → Prop} (h : pi env fun ds => noOwn env vs ∧ lcP2 vs1 pg pt pi1 pg1 pt1 pe (wipeE env vs) ds [] fun r => k (.lst r)) : eLc2 vs vs1 pi pg pt pi1 pg1 pt1 pe env k := h
theorem maxI_snoc {xs : List Int} {x : Int} (h : xs ≠ []) : maxI (xs ++ [x]) = max (maxI xs) x := by
  symm
  apply maxI_eq
  · rcases Int.le_total (maxI xs) x with q | q
    · rw [Int.max_eq_right q]; simp
    · rw [Int.max_eq_left q]; exact List.mem_append_left _ (maxI_mem h)
  · intro y hy
    rcases List.mem_append.mp hy with q | q
    · exact Int.le_trans (maxI_le q) (Int.le_max_left ..)
    · rw [List.mem_singleton.mp q]; exact Int.le_max_right ..
theorem minI_snoc {xs : List Int} {x : Int} (h : xs ≠ []) : minI (xs ++ [x]) = min (minI xs) x := by
  symm
  apply minI_eq
  · rcases Int.le_total (minI xs) x with q | q
    · rw [Int.min_eq_left q]; exact List.mem_append_left _ (minI_mem h)
    · rw [Int.min_eq_right q]; simp
  · intro y hy
    rcases List.mem_append.mp hy with q | q
    · exact Int.le_trans (Int.min_le_left ..) (minI_le q)
    · rw [List.mem_singleton.mp q]; exact Int.min_le_right ..
theorem maxI_congr {xs ys : List Int} (h : ∀ x, x ∈ xs ↔ x ∈ ys) : maxI xs = maxI ys := by
  by_cases hx : xs = []
  · subst hx
    cases ys with
    | nil => rfl
    | cons y r => exact absurd ((h y).mpr List.mem_cons_self) (by simp)
  · exact maxI_eq ((h _).mp (maxI_mem hx)) fun y hy => maxI_le ((h y).mpr hy)
theorem minI_congr {xs ys : List Int} (h : ∀ x, x ∈ xs ↔ x ∈ ys) : minI xs = minI ys := by
  by_cases hx : xs = []
  · subst hx
    cases ys with
    | nil => rfl
    | cons y r => exact absurd ((h y).mpr List.mem_cons_self) (by simp)
  · exact minI_eq ((h _).mp (minI_mem hx)) fun y hy => minI_le ((h y).mpr hy)
end Pu
namespace Pu
open PySem PySem.Spec PyProof.Rows L2
variable [Tbs]
/-! ### defs whose last parameters have the default None -/
section
variable {P : Program} {w : World} {K : PySem.W.Frag} {mg : Str → Option Value} {base : Heap} {x qual : Str} {st : Stmt} {f : Addr} {fd : FuncData} {N ps : List Str} {k : Nat} {fr : Bool} {p : PSt} {dvs : List V}
abbrev FunN (K : PySem.W.Frag) (x qual : Str) (st : Stmt) (f : Addr) (fd : FuncData) : Prop := FunD K x qual (defArgs st) (defBody st) (defScope st) [.non] [] f fd
theorem fn_okD (F : FunD K x qual (defArgs st) (defBody st) (defScope st) dvs [] f fd) (S : FnScope N ps (defScope st))
    (hb : ∀ (cdv : Value) (A : Around) (outer : List Env) (s : Shared) (H : Hp) (E : XK), Room k (A.deeper (envOfC qual (defScope st) s.heap.objs.size f cdv)) → B fr (cxOf CX0 P w K mg base N qual (defScope st) f cdv A outer s H E).nox (defBody st) p) :
    FnOk P w K mg base CX0 (k + 1) f fd ps (Sf fr ps.length (wpOf fr N.length p)) := by
  refine F.ok S (fun vs H Q E h => ?_) (fun cdv A outer s H vs Q E hr h => ?_)
  · obtain ⟨z, X, ds, kk, hl, _⟩ := h
    exact hl
  · obtain ⟨z, X, ds, kk, hl, hz, hx, hA, hw, c⟩ := h
    obtain ⟨t, b1, b2⟩ := hb cdv A outer s H E hr
    refine ⟨t, b1.nox, b2 z X H H (L2.start N vs) _ _ { nx := fun _ => fr = false ∧ kk .non, rt := kk } (start_ok hz hx hA) ⟨fun env' σ' H' o' f' hk => ?_, fun d v H' e r fq hk => ?_, fun _ _ _ _ _ hk => hk.elim, fun _ _ _ _ _ hk => hk.elim, fun _ _ _ _ _ _ _ h => h.elim⟩ hw⟩
    · exact c .non .non H' o'.evo .non (fun q => by rw [hk.1] at q; cases q) hk.2
    · exact c d v H' e r fq hk
theorem fun_mkN {oc : Value} {od an : Option Addr} {osl : Array (Option Value)} {kV doc pm cdv ct : Value} {T : Addr} {oc2 : Value} {od2 : Option Addr} {m2 : Nat} {osl2 : Array (Option Value)}
    (l : K.lookup f = some ⟨oc, od, .func (PySem.W.fnOf x qual (defArgs st) (defBody st) (defScope st) (.ref T) kV doc pm an cdv ct), osl⟩)
    (c : PySem.W.codeIn K cdv qual = true) (k : PySem.W.keepIn K (.ref f) = true) (lT : K.lookup T = some ⟨oc2, od2, .seq [Value.none].toArray m2, osl2⟩) :
    FunN K x qual st f (PySem.W.fnOf x qual (defArgs st) (defBody st) (defScope st) (.ref T) kV doc pm an cdv ct) :=
  ⟨⟨oc, od, _, kV, doc, pm, an, cdv, ct, osl, rfl, l, c, .inr ⟨List.cons_ne_nil _ _, T, _, [Value.none], m2, rfl, lT, rfl, .cons rfl .nil⟩, .inl rfl⟩, k⟩
end
section
variable {C : Cx} {e : Expr} {es : List Expr} {p : PX} {ga : PAs} {m mo : Mode} {fr : Bool} {k n : Nat} {pos pp : Pos} {x : Str} {f : Addr} {fd : FuncData} {ps : List Str} {wp : List D → (D → Prop) → Prop}
theorem isa_non {z : Zn} {M : AP} {H : Hp} : IsA z M H [V.non] [D.non] := .cons .non .nil
theorem re_callD {t : TA} (h : RA true t ga) (E' : XK) (hm : mo = .e ∨ (mo = .f ∧ fr = true)) : RE mo (tCall (Sf fr (n + 1) wp) [.non] E' t) (eCall (fun ds k => ds.length = n ∧ wp (ds ++ [.non]) k) ga) := fun z X H0 H σ env Q k o c hp => by
  refine h z X H0 H σ env _ _ o (fun ds vs H1 e1 r1 hx => ?_) hp
  have o1 := o.go e1
  rw [if_pos rfl] at r1
  refine ⟨z, Ox X σ env, ds ++ [.non], k, by rw [List.length_append, r1.length, hx.1]; rfl, ⟨o1.zal, o1.tab⟩, fun a => o1.ox, (r1.weak fun a q => zx_ox.mp q).append isa_non, hx.2, fun d v H2 e2 r2 fq kd => ?_⟩
  refine c d v H2 (e1.trans e2) ?_ kd
  rcases hm with rfl | ⟨rfl, hf⟩
  · exact Is.weak (fun a q => zx_ox.mpr q) r2
  · obtain ⟨a, ev, ha, hc⟩ := fq hf
    refine ⟨a, ev, e1.fresh ha, hc.gen (fun _ q => q) (fun b u q n => ⟨q, fun y => n ?_⟩) fun _ h => h⟩
    rcases y with y | (y | y) | y
    · exact .inl y
    · exact .inr (.inl (.inl y))
    · exact .inr (.inr y)
    · exact .inr (.inl (.inr y))
theorem e_callD (F : FnOk C.prog C.w C.K C.mg C.base CX0 k f fd ps (Sf fr (n + 1) wp)) (hr : Room k C.A) (hg : Gl C x) (hm : C.mg x = some (.ref f)) (hk : PySem.W.keepIn C.K (.ref f) = true) (hb : Binds C.K fd ps [.none])
    (ha : A true C (e :: es) ga) (hmo : mo = .e ∨ (mo = .f ∧ fr = true)) (hdb : (x == ("__debug__" : Str)) = false := by decide) (he : starEach (e :: es) C.env = (false, eval e C.env) :: starEach es C.env := by rfl) (hpl : (backTo pos (starEach es C.env)).any (·.1) = false := by rfl) :
    E mo C (.Call (.Name x pp) (e :: es) [] pos) (eCall (fun ds k => ds.length = n ∧ wp (ds ++ [.non]) k) ga) := by
  obtain ⟨t, h1, h2⟩ := ha
  exact ⟨_, pe_call (dvs := [.non]) F hr hg hm hk hb (.cons rfl .nil) pass0 h1 hdb he hpl, re_callD h2 E0 hmo⟩
end
/-- the two ways to bind: all given, all but the last -/
theorem vals_none {ds : List Value} (h : Vals [V.non] ds) : ds = [.none] := by
  cases h with
  | cons a b =>
    cases b
    exact congrArg (fun x => [x]) a
theorem vals_nil {ds : List Value} (h : Vals [] ds) : ds = [] := by cases h; rfl
theorem bindsN1 {K : PySem.W.Frag} {x qual : Str} {st : Stmt} {f : Addr} {fd : FuncData} {ps : List Str} (F : FunN K x qual st f fd) (n : Nat) (hn : n + 1 = ps.length)
    (h : ∀ (T : Addr) (kV doc pm : Value) (an : Option Addr) (cdv ct : Value) (us its : List Value), us.length = n → its.length = 1 →
      ∃ k, bindArgs (PySem.W.fnOf x qual (defArgs st) (defBody st) (defScope st) (.ref T) kV doc pm an cdv ct) ⟨us, []⟩ = seqItems? (.ref T) >>= k ∧ k (some its.toArray) = pure (ps.zip (us ++ its.drop 0))) : Binds K fd ps [.none] := by
  obtain ⟨ds, v, b⟩ := FunD.binds1 F n 0 (List.cons_ne_nil _ _) hn h
  rw [vals_none v] at b
  exact b
theorem bindsN0 {K : PySem.W.Frag} {x qual : Str} {st : Stmt} {f : Addr} {fd : FuncData} {ps : List Str} (F : FunN K x qual st f fd) (n : Nat) (hn : n + 0 = ps.length)
    (h : ∀ (T : Addr) (kV doc pm : Value) (an : Option Addr) (cdv ct : Value) (us its : List Value), us.length = n → its.length = 1 →
      ∃ k, bindArgs (PySem.W.fnOf x qual (defArgs st) (defBody st) (defScope st) (.ref T) kV doc pm an cdv ct) ⟨us, []⟩ = seqItems? (.ref T) >>= k ∧ k (some its.toArray) = pure (ps.zip (us ++ its.drop 1))) : Binds K fd ps [] := by
  obtain ⟨ds, v, b⟩ := FunD.binds1 F n 1 (List.cons_ne_nil _ _) hn h
  rw [vals_nil v] at b
  exact b
end Pu
namespace Pu
open PySem PySem.Spec PyProof.Rows L2
/-! zip of a tuple and a list -/
end Pu
namespace Pu
open PySem PySem.Spec PyProof.Rows L2
/-! ### repr of nested tuples and lists, where nothing is being shown yet -/
/-! ### which things are shown -/
end Pu
namespace Pu
open PySem PySem.Spec PyProof.Rows L2
/-! ### the law run from its one caller: nothing is being shown there -/
end Pu
namespace Pu
open PySem PySem.Spec PyProof.Rows L2
variable [Tbs]
/-! sorted(t), t a tuple of whole numbers -/
section
variable {prog : Program} {w : World} {A : Around} {E : Value → Shared → Prop} {s : Shared}
abbrev gotH (h : Heap) (vs : List Value) : Heap := (h.push (seqObj "list" #[] 0)).update h.objs.size (Obj.mapSeq (· ++ vs.toArray))
theorem collect_tup {l : Addr} {vs : List Value} {Q : List Value → Shared → Prop} (hl : s.heap.IsTuple l vs.toArray) (hz : vs.length ≤ sizeLine) (h : Q vs { s with heap := gotH s.heap vs }) : wpAny (model prog w) A (collect (.ref l)) Q E s := by
  obtain ⟨o, g0, oc, n, od⟩ := id hl
  have g1 : (s.heap.push (seqObj "list" #[] 0)).get? l = some o := Heap.get?_push_of_some _ g0
  have g2 : (s.heap.push (seqObj "list" #[] 0)).get? s.heap.objs.size = some (seqObj "list" #[] 0) := Heap.get?_push_size _ rfl
  unfold collect
  refine wpAny_bind (wpAny_runValue (codeAny_builtin entry_proto_collect' ?_))
  show wpAny _ _ (do again (.builtin "list.__iadd__" ⟨[← newList [], .ref l], []⟩)) _ _ s
  refine wpAny_bind (wpAny_newList (wpAny_pure ⟨Code.quiet_builtin _ (by decide +kernel), codeAny_builtin entry_list_iadd' ?_⟩))
  show wpAny _ _ (Builtin.List.listExtendWith (.ref s.heap.objs.size) (.ref l) (.ref s.heap.objs.size)) _ _ { s with heap := s.heap.push (seqObj "list" #[] 0) }
  unfold Builtin.List.listExtendWith
  refine wpAny_bind (wpAny_typeOf (T := "tuple") ⟨o, g1, oc⟩ ?_)
  have ty : (Value.type "tuple" == Value.type "tuple") = true := by rfl
  rw [if_pos (by rw [ty]; simp)]
  refine wpAny_bind (listItems_at g1 od (wpAny_bind (listItems_at (xs := #[]) (n := 0) g2 rfl ?_)))
  rw [if_neg (by simp)]
  refine wpAny_bind (listUpdate_at (xs := #[]) (n := 0) g2 rfl (wpAny_pure ?_) (Nat.zero_le _) ?_)
  · show wpAny (model prog w) A (do
        let o ← load s.heap.objs.size
        match o.data with
        | .seq xs _ => pure xs.toList
        | _ => unsupported "internal:collect") Q E { s with heap := gotH s.heap vs }
    refine wpAny_bind (wpAny_load (get?_update_seq g2 _) ?_)
    show wpAny _ _ (pure ((#[] : Array Value) ++ vs.toArray).toList) Q E _
    rw [show ((#[] : Array Value) ++ vs.toArray).toList = vs by simp]
    exact wpAny_pure h
  · show (#[] ++ vs.toArray).size ≤ sizeLine + 1
    simp only [Array.size_append, List.size_toArray, List.length_nil]
    omega
theorem sorted_tup {l : Addr} {vs : List Value} {lv : Value → Value → Bool} {Q : Value → Shared → Prop} (O : SrtO.Swo lv) (hl : s.heap.IsTuple l vs.toArray) (hz : vs.length ≤ sizeLine)
    (hS : 2 ≤ vs.length → ∀ (h₁ : Heap) (a : Addr), SrtO.SortableO prog w A.in1.in1 { s with heap := h₁ } a vs lv)
    (h : ∀ out : List Value, SrtO.Srtd lv out → SrtO.Stb lv out vs → Q (.ref (s.heap.objs.size + 1)) { s with heap := sortedAll s.heap vs out.toArray }) :
    wpAny (model prog w) A (call (.builtin "sorted") [.ref l]) Q E s := by
  refine Calls.call_function_entry kind_sorted plain_sorted entry_sorted (args_sorted1 _) ?_
  unfold Builtin.«sorted»
  refine wpAny_bind (m := checkCount "sorted" 1 1 _) (wpAny_pure ?_)
  refine wpAny_bind (collect_tup hl hz (wpAny_bind (wpAny_newList ?_ hz)))
  have sz : (gotH s.heap vs).objs.size = s.heap.objs.size + 1 := by rw [Heap.size_update, size_push']
  have g3 : ((gotH s.heap vs).push (seqObj "list" vs.toArray 0)).get? (s.heap.objs.size + 1) = some (seqObj "list" vs.toArray 0) := by
    rw [← sz]
    exact Heap.get?_push_size _ rfl
  show wpAny _ _ _ _ _ { s with heap := (gotH s.heap vs).push (seqObj "list" vs.toArray 0) }
  rw [sz]
  refine wpAny_bind (wpAny_holding (wpAny_call_entry slot_list_sort ⟨_, g3, rfl⟩ entry_list_sort (SrtO.list_sort_ord O g3 hz (fun h2 => hS h2 _ _) fun out q1 q2 => ⟨_, rfl, ?_⟩) (args_list_sort _)))
  exact wpAny_pure ⟨_, rfl, h out q1 q2⟩
end
def rSortedTu (K : PySem.W.Frag) : List V → Hp → VK → Prop := fun vs H Q => ∃ (a : Addr) (ns : List Int), vs = [V.ref a] ∧ SqT K H a (ns.map V.int) ∧ ∀ (ms : List Int) (p : Addr), ms.Perm ns → ms.Pairwise (· ≤ ·) → H p = none → Q (.ref p) (upd H p (.lst (ms.map V.int)))
theorem cr_sortedTu {X : Cx} : CallR X (.builtin "sorted") (rSortedTu X.K) := by
  intro pins s σ H vs us Q I r h
  obtain ⟨a, ns, rfl, hs, q⟩ := h
  obtain ⟨its, rv, hl, hz⟩ := I.tuple hs
  rw [Vals.ref1 r]
  have hi := rv.ints
  refine sorted_tup SrtO.swo_int (show s.heap.IsTuple a its.toArray from hl) (by rw [← rv.length]; exact hz) (fun h2 h₁ a' => SrtO.ints_sortable hi h2) fun out h1 h2 => ?_
  obtain ⟨k1, k2, k3⟩ := SrtO.ints_out hi h1 h2
  obtain ⟨ep, e'⟩ := sortedAll_at s.heap its out.toArray
  have len : ((out.map SrtO.iv).map V.int).length ≤ sizeLine := by
    rw [List.length_map] at hz
    rw [List.length_map, k2.length_eq]
    exact hz
  exact ⟨.ref _, upd H (s.heap.objs.size + 1) (.lst ((out.map SrtO.iv).map V.int)), I.laid (t' := s.toks) (fun _ _ => sortedAll_old) (Nat.le_succ _) ⟨len, out, ep, vals_of_ints k1, e'⟩, rfl, q _ _ k2 k3 (I.hok.fresh (Nat.le_succ _))⟩
def gSortedT : List D → (D → Prop) → Prop := fun ds k => ∃ ns : List Int, ds = [.tup (ns.map D.int)] ∧ ∀ ms : List Int, ms.Perm ns → ms.Pairwise (· ≤ ·) → k (.lst (ms.map D.int))
theorem cd_sortedT {l : Bool} {K : PySem.W.Frag} : CallD l .f (rSortedTu K) gSortedT := fun z X H0 H σ env vs ds Q k o h c hp => by
  obtain ⟨ns, rfl, hk⟩ := hp
  obtain ⟨v, rfl, hv⟩ := h.one
  cases hv with
  | tup e n r => exact ⟨_, ns, rfl, SqT.of (by rw [e, isa_ints r]), fun ms q h1 h2 hq => c _ _ _ ((Evo.refl _ _).new hq) (Rel.newL hq hq (IsA.ofInts ms)) (hk ms h1 h2)⟩
/-! {k: v}, whole numbers -/
/-! a def that shows things: run where nothing is being shown -/
theorem gSortedT_i {ns : List Int} {k : D → Prop} (h : ∀ ms : List Int, ms.Perm ns → ms.Pairwise (· ≤ ·) → k (.lst (ms.map D.int))) : gSortedT [.tup (ns.map D.int)] k := ⟨ns, rfl, h⟩
end Pu
namespace Pu
open PySem PySem.Spec PyProof.Rows L2
/-! dicts by pairs of whole numbers -/
/-! a look only, and a tuple of whole numbers comes of it: it is plain -/
end Pu
namespace Pu
open PySem PySem.Spec PyProof.Rows L2
variable [Tbs]
/-! loops over a list of the def's own: the slot q stays -/
structure SimQ (q : Nat) (w : Option (Option V)) (fr : Bool) (z : Zn) (X : AP) (H0 : Hp) (M : AP) (H : Hp) (G : Ends) (k : PK') : Prop where
  nx : ∀ env' σ' H', Ok z X H0 H' σ' env' → Fr z X M H (Ms z X σ' env') H' → σ'[q]? = w → k.nx env' → G.nx σ' H'
  rt : ∀ d v H', Evo z H0 H' → Is z (Zx z X) H' v d → (fr = true → ∃ a, v = .ref a ∧ H0 a = none ∧ Con z (Zx z (X.or a)) H' a d) → k.rt d → G.rt v H'
  bk : ∀ env' σ' H', Ok z X H0 H' σ' env' → Fr z X M H (Ms z X σ' env') H' → σ'[q]? = w → k.bk env' → G.bk σ' H'
  ct : ∀ env' σ' H', Ok z X H0 H' σ' env' → Fr z X M H (Ms z X σ' env') H' → σ'[q]? = w → k.ct env' → G.ct σ' H'
theorem SimQ.go {q : Nat} {w : Option (Option V)} {fr : Bool} {z : Zn} {X : AP} {H0 : Hp} {M M1 : AP} {H H1 : Hp} {G : Ends} {k : PK'} (s : SimQ q w fr z X H0 M H G k) (f : Fr z X M H M1 H1) : SimQ q w fr z X H0 M1 H1 G k :=
  ⟨fun e σ H' o g c h => s.nx e σ H' o (f.trans g) c h, s.rt, fun e σ H' o g c h => s.bk e σ H' o (f.trans g) c h, fun e σ H' o g c h => s.ct e σ H' o (f.trans g) c h⟩
theorem Sim.q {q : Nat} {w : Option (Option V)} {fr : Bool} {z : Zn} {X : AP} {H0 : Hp} {M : AP} {H : Hp} {G : Ends} {k : PK'} (s : Sim fr z X H0 M H G k) : SimQ q w fr z X H0 M H G k :=
  ⟨fun e σ H' o g _ h => s.nx e σ H' o g h, s.rt, fun e σ H' o g _ h => s.bk e σ H' o g h, fun e σ H' o g _ h => s.ct e σ H' o g h⟩
def RSq (q : Nat) (fr : Bool) (t : TS) (p : PSt) : Prop := ∀ (z : Zn) (X : AP) (H0 H : Hp) (σ : Sl) (env : List SV) (G : Ends) (k : PK'), Ok z X H0 H σ env → SimQ q σ[q]? fr z X H0 (Ms z X σ env) H G k → p env k → t G σ H
structure SQ (q : Nat) (fr : Bool) (C : Cx) (st : Stmt) (p : PSt) : Prop where
  ex : ∃ t, PS C st t ∧ RSq q fr t p
section
variable {C : Cx} {fr : Bool} {q : Nat} {st : Stmt} {rest : List Stmt} {p r : PSt} {e : Expr} {pe pi : PX} {m : Mode} {pos pp : Pos}
theorem SQ.s (h : SQ q fr C st p) : S fr C st p := by
  obtain ⟨t, h1, h2⟩ := h
  exact ⟨t, h1, fun z X H0 H σ env G k o s hp => h2 z X H0 H σ env G k o s.q hp⟩
end
/-! a comprehension over a list of the def's own -/
def eLcO (q : Nat) (vs : List Nat) (pg : PGt) (pt : PTs') (pe : PX) : PX := fun env k => match env[q]? with
  | some (.own (.lst ds)) => noOwn env vs ∧ lcP pg pt pe (wipeE env vs) ds [] fun r => k (.lst r)
  | _ => False
theorem re_lcO {K : PySem.W.Frag} {q : Nat} {js vs : List Nat} {g : TG} {pg : PGt} {tt : TT} {pt : PTs'} {te : TE} {pe : PX} (hg : RG js g pg) (hj : ∀ i ∈ js, i ∈ vs) (ht : RT tt pt) (he : RE .e te pe) : RE .f (tLc (iList K (tVar q)) g tt te vs) (eLcO q vs pg pt pe) := fun z X H0 H σ env Q k o c hp => by
  unfold eLcO at hp
  split at hp
  · rename_i ds hq
    obtain ⟨hn, hx⟩ := hp
    obtain ⟨ad, q1, ⟨us, q5, q6⟩, q3, q4⟩ := o.own q _ hq
    refine ⟨_, q1, ad, rfl, ⟨us, SqL.of q5⟩, ?_⟩
    intro Da hD
    have hzD : ¬ z.Z Da := fun q => o.zal Da q hD
    refine ⟨fun i mm H' => mm = ds.length - i ∧ i ≤ ds.length ∧ ∃ accV accD, Evo z H H' ∧ H' Da = some (.lst accV) ∧ IsA z (Ms z (X.or Da) σ env) H' accV accD ∧ lcP pg pt pe (wipeE env vs) (ds.drop i) accD fun r => k (.lst r),
      ⟨ds.length, by simp, Nat.zero_le _, [], [], (Evo.refl _ _).new hD, upd_same, .nil, by simpa using hx⟩, ?_⟩
    rintro i mm H' ⟨rfl, hil, accV, accD, e', hacc, hA, hk⟩
    have oL : Ok z (X.or Da) H0 H' σ env := o.lock hD e' (by rw [hacc]; intro q; cases q)
    obtain ⟨a2, w1, ⟨us', w5, w6⟩, w3, w4⟩ := oL.own q _ hq
    rw [q1] at w1
    cases w1
    by_cases hlt : i < ds.length
    · obtain ⟨v, v1, v2⟩ := w6.get (List.getElem?_eq_getElem hlt)
      rw [List.drop_eq_getElem_cons hlt] at hk
      refine .inr ⟨⟨us', v, SqL.of w5, v1⟩, fun H2 => ∃ accV accD, Evo z H H2 ∧ H2 Da = some (.lst accV) ∧ IsA z (Ms z (X.or Da) σ env) H2 accV accD ∧ lcP pg pt pe (wipeE env vs) (ds.drop (i + 1)) accD fun r => k (.lst r), fun H2 h2 => ⟨ds.length - (i + 1), by omega, rfl, hlt, h2⟩, fun x H2 hy => ?_⟩
      obtain ⟨rfl, hy⟩ := hy
      have ey := hy us' (SqL.of w5)
      rw [v1] at ey
      cases ey
      obtain ⟨oW, sub⟩ := oL.wipe (vs := vs)
      refine hg z (X.or Da) H0 H2 _ _ _ _ _ _ oW (v2.weak sub) (fun env3 σ3 o3 f3 kp hx3 => ⟨wipe_eq kp hj, ?_⟩) hk
      refine ht z (X.or Da) H0 H2 σ3 env3 _ _ o3 (fun b H3 e3 hx4 => ?_) hx3
      have e13 := e'.trans e3
      have acc3 : H3 Da = some (.lst accV) := e3.old _ _ hacc hzD
      have A3 : IsA z (Ms z (X.or Da) σ env) H3 accV accD := hA.evo (fun _ q => .inl q) e3
      cases b with
      | false =>
        rw [if_neg Bool.false_ne_true]
        exact ⟨accV, accD, e13, acc3, A3, hx4⟩
      | true =>
        rw [if_pos rfl]
        refine he z (X.or Da) H0 H3 σ3 env3 _ _ (o3.go e3) (fun r y H4 e4 r4 hx5 => ?_) hx4
        refine ⟨accV, e4.old _ _ acc3 hzD, by rw [hA.length]; exact szl hx5.1, accV ++ [y], accD ++ [r], (e13.trans e4).mut hD hzD (.lst (e4.old _ _ acc3 hzD)), upd_same, ?_, hx5.2⟩
        have ir : Is z (Ms z (X.or Da) σ env) H4 y r := Is.weak (ms_in hn hj kp) r4
        refine ((A3.evo (fun _ q => .inl q) e4).append (.cons ir .nil)).gen (fun b u q n => ⟨?_, n⟩) fun b hb => ok_mut hzD hb
        rw [upd_ne (fun w => n (by rw [w]; exact .inr (.inl (.inr rfl))))]
        exact q
    · have ei : i = ds.length := by omega
      subst ei
      rw [List.drop_length] at hk
      exact .inl ⟨⟨us', SqL.of w5, by rw [w6.length]; exact Nat.le_refl _⟩, c (.lst accD) (.ref Da) H' e' ⟨Da, rfl, hD, accV, hacc, hA⟩ hk⟩
  · exact hp.elim
theorem eLcO_i {q : Nat} {vs : List Nat} {pg : PGt} {pt : PTs'} {pe : PX} {env : List SV} {k : D → Prop} {ds : List D} (e : env[q]? = some (.own (.lst ds))) (h : noOwn env vs ∧ lcP pg pt pe (wipeE env vs) ds [] fun r => k (.lst r)) : eLcO q vs pg pt pe env k := by
  unfold eLcO
  rw [e]
  exact h
end Pu
set_option maxHeartbeats 1000000
/-! all(.. for .. in ..), any(..): the generator's frame, its turns, who asks it -/
namespace GnX
open PySem PySem.Spec PyProof.Rows L2 GenW GxR
/-- the code of a generator's turns, the around in it -/
abbrev gCode (elt tg iter : Expr) (scope : Scope) (gpos : Pos) (it : Addr) (cenv : Env) : Code := .compLoop (.GeneratorExp elt [⟨tg, iter, [], 0⟩] scope gpos) 0 (.ref it) .none cenv
def gA (A : Around) (cenv : Env) : Around := A.in1.in1.deeper cenv
theorem over_gen {A : Around} {elt tg iter : Expr} {scope : Scope} {gpos : Pos} {it : Addr} {cenv : Env} : A.in1.in1.over (gCode elt tg iter scope gpos it cenv) [] = gA A cenv := by
  unfold gA
  first
    | rfl
    | (obtain ⟨hd, d, fr, gs, u⟩ := A; simp [Around.over, Around.deeper, marksOver, frameCount, unitsOf, envsOf, guardsOf, pushEnvs, pushGuards, Code.envs, Code.env?, Code.isFrame, Code.guards, Code.isGuard, Code.weight, Code.frames, Code.isCreation, Code.isCaller, Code.cUnits])
theorem room_gen {k : Nat} {A : Around} (r : Room (k + 1) A) (env : Env) : Room k (gA A env) :=
  ⟨r.hd, by have := r.dp; show A.depth + 1 + 3 * k + 5 < _; omega, by have := r.un; show A.units + 1 + 1 + 3 + 16 * k + 200 < _; omega⟩
/-- the context of a generator's frame: made at s, its iterator's objects at fp, its own object in pn -/
abbrev genCx (X : Cx) (s : Shared) (H : Hp) (cenv : Env) (fp : List Addr) (pn : List (Addr × Obj)) : Cx :=
  { X with s_0 := s, H_0 := H, env := cenv, A := gA X.A cenv, outer := X.stack, stack := cenv :: X.stack, ex := fp, fn := fun _ => false, pn := pn, xe := fun _ _ => False }
/-- the frame's environment -/
abbrev genE (X : Cx) (scope : Scope) (C : Addr) (code : Value) : Env := genEnv scope (cloFrom X.env.cells scope.names []) C code builtinsNs X.env
section
variable {X : Cx} {pins : List (Addr × Obj)} {σ : L2.St} {H : Hp} {s : Shared}
theorem gen_start {scope : Scope} {own : List (Str × Nat)} {fp : List Addr} {code : Value} {h' : Heap} {m0 : Str → Option Value} {go : Obj} {G : Array GenState} {tk : Nat} (I : Inv X pins σ H s) (ok : BlkOk X.N X.env.scope scope own) (hcell : ∀ y ∈ scope.names, y.2 ≠ .cell) (hN : X.N.Nodup)
    (hfp : ∀ b ∈ fp, FpOk X pins H b ∧ b < s.heap.objs.size) (hn : h'.Ns s.heap.objs.size m0) (sb : Heap.SameBut s.heap.objs.size (s.heap.push { cls := .type "frame", data := .dict #[] }) h') (hgo : ∀ v, go.data ≠ .cell v) (hgp : (h'.push go).get? h'.objs.size = some go) (hG : AllBare G) :
    Inv (genCx X s H (genE X scope s.heap.objs.size code) fp [(h'.objs.size, go)]) [] (wipe σ (own.map (·.2))) H { s with gens := G, toks := tk, heap := h'.push go } := by
  have hfree : ∀ y ∈ scope.names, y.2 = .free → ∃ c, X.env.cells.lookup y.1 = some c := fun y hy e => by
    rcases ok.free y hy e with k | k
    · exact I.ok.has _ (.inl k)
    · exact I.ok.has _ (.inr k)
  generalize hcenv : genE X scope s.heap.objs.size code = cenv
  have hsz : h'.objs.size = s.heap.objs.size + 1 := by rw [sb.1, Heap.size_push]
  have kp : ∀ b o, s.heap.get? b = some o → (h'.push go).get? b = some o := fun b o e => Heap.get?_push_of_some _ (sb.extBut b o (Nat.ne_of_lt (Heap.lt_size e)) (Heap.get?_push_of_some _ e))
  have hL : cenv.locals = s.heap.objs.size := by rw [← hcenv]; rfl
  have hcl : cenv.cells = cloFrom X.env.cells scope.names [] := by rw [← hcenv]; rfl
  have hsc : cenv.scope = scope := by rw [← hcenv]; rfl
  have hfr : cenv.frame = some s.heap.objs.size := by rw [← hcenv]; rfl
  have cm : ∀ {y c}, (y, c) ∈ cloFrom X.env.cells scope.names [] → X.env.cells.lookup y = some c ∧ c < s.heap.objs.size := fun {y c} hm => by
    rcases cloFrom_mem hm with hm | ⟨h1, rfl⟩
    · cases hm
    · obtain ⟨c, hc⟩ := hfree _ h1 rfl
      rw [hc]
      obtain ⟨w, z⟩ := I.cell _ _ hc
      exact ⟨rfl, z.lt⟩
  have mem : ∀ {y c}, cenv.cells.lookup y = some c → X.env.cells.lookup y = some c ∧ c < s.heap.objs.size := fun {y c} e => by
    rw [hcl] at e
    exact cm (PySem.mem_of_lookup e)
  have look : ∀ {y}, scope.names.lookup y = some .free → ∃ c, cenv.cells.lookup y = some c ∧ X.env.cells.lookup y = some c := fun {y} hl => by
    have hy : (y, NameKind.free) ∈ scope.names := PySem.mem_of_lookup hl
    obtain ⟨c', e'⟩ := mem_lookup (cloFrom_has (cells := X.env.cells) (acc := []) hy)
    rw [← hcl] at e'
    exact ⟨c', e', (mem e').1⟩
  have nocell : ∀ y, scope.names.lookup y ≠ some .cell := fun y e => hcell _ (PySem.mem_of_lookup e) rfl
  have okB : (genCx X s H cenv fp [(h'.objs.size, go)]).Ok := by
    refine ⟨I.ok.mod, by show cenv.scope.kind = _; rw [hsc]; exact ok.kind, by show cenv.globals = _; rw [← hcenv]; exact I.ok.glob, by show cenv.builtins = _; rw [← hcenv]; rfl, by show s.heap.objs.size ≤ cenv.locals; rw [hL]; exact Nat.le_refl _,
      fun y z c e1 e2 => ?_, fun y hy => ?_, fun y c z e => ?_, I.ok.hd, ?_, .inr ⟨rfl, by show cenv.frame = some cenv.locals; rw [hfr, hL]⟩, fun b hb => ⟨?_, fun y c e z => ?_⟩, I.bs, Nat.le_trans I.ok.bsz I.sz, fun b o e hb => ?_, fun b hb z => ?_, I.stack, I.stkFree⟩
    · exact I.ok.inj y z c (mem e1).1 (mem e2).1
    · show ∃ c, cenv.cells.lookup y = some c
      have hy : scope.names.lookup y = some .cell ∨ scope.names.lookup y = some .free := by
        have hy : cenv.scope.names.lookup y = some .cell ∨ cenv.scope.names.lookup y = some .free := hy
        rw [hsc] at hy
        exact hy
      rcases hy with hy | hy
      · exact absurd hy (nocell y)
      · obtain ⟨c, h1, _⟩ := look hy
        exact ⟨c, h1⟩
    · exact absurd (show false = true from z) (by simp)
    · show (gA X.A cenv).frames = some (cenv :: X.stack)
      show X.A.frames.map (cenv :: ·) = _
      rw [I.ok.frames]
      rfl
    · show b ≠ cenv.locals
      rw [hL]; exact Nat.ne_of_lt (hfp b hb).2
    · have e : cenv.cells.lookup y = some c := e
      exact (hfp b hb).1.2.2.2.2.1 y c (mem e).1 z
    · rcases (hfp b hb).1.2.2.2.1 with z | z
      · exact I.ok.noex b o e z
      · exact absurd (Nat.lt_of_lt_of_le (Heap.lt_size e) (Nat.le_trans I.ok.bsz z)) (Nat.lt_irrefl _)
    · rcases List.mem_cons.mp (I.stkSub b z) with z | z
      · exact (hfp b hb).1.2.1 z
      · exact (hfp b hb).1.2.2.1 z
  have nfs : h'.objs.size ∉ frs X.stack := fun z => by
    rcases List.mem_cons.mp (I.stkSub _ z) with z | z
    · have := I.lt
      rw [← z, hsz] at this
      exact absurd (Nat.lt_trans (Nat.lt_succ_self _) this) (Nat.lt_irrefl _)
    · exact I.nofs (a := h'.objs.size) (by omega) z
  refine ⟨okB, rfl, hG, Un.kept kp, ⟨m0, ?_, fun i y av e1 e2 e3 => ?_⟩, fun y c e => ?_, ?_, fun y c e => ?_, fun p hp => ?_, I.hok.kept kp, by rw [wipe_length]; exact I.len⟩
  · show Heap.Ns _ cenv.locals _
    rw [hL]
    exact hn.push _
  · obtain ⟨e2, hne⟩ := wipe_some e2
    have e3 : Vis scope y := by
      have e3 : Vis cenv.scope y := e3
      rw [hsc] at e3
      exact e3
    have hfr : scope.names.lookup y = some .free := by
      have no : ∀ k', scope.names.lookup y = some k' → ¬ (k' = .local ∨ k' = .cell) := fun k' e hh => by
        rcases ok.own _ (PySem.mem_of_lookup e) hh with e' | e'
        · obtain ⟨p, hp, hpy⟩ := List.mem_map.mp e'
          have e3 := ok.ix p hp
          have : p.1 = y := hpy
          rw [this] at e3
          exact hne (List.mem_map.mpr ⟨p, hp, nodup_ix hN e3 e1⟩)
        · exact e' (List.mem_of_getElem? e1)
      rcases e3 with e3 | e3 | e3
      · exact absurd (.inl rfl) (no _ e3)
      · exact absurd (.inr rfl) (no _ e3)
      · exact e3
    obtain ⟨m, hn, hl⟩ := I.loc
    have hvis : Vis X.env.scope y := (ok.free _ (PySem.mem_of_lookup hfr) rfl).elim (fun k => .inr (.inl k)) (fun k => .inr (.inr k))
    obtain ⟨w, r, q⟩ := hl i y av e1 e2 hvis
    refine ⟨w, r, .inr ⟨.inr (by show cenv.scope.names.lookup y = _; rw [hsc]; exact hfr), ?_⟩⟩
    obtain ⟨c, h1, h2⟩ := look hfr
    rcases q with ⟨k, _⟩ | ⟨_, c', e', z⟩
    · have k : X.env.scope.names.lookup y = some .local := k
      rcases ok.free _ (PySem.mem_of_lookup hfr) rfl with k' | k' <;> rw [show X.env.scope.names.lookup y = _ from k'] at k <;> cases k
    · rw [h2] at e'; cases e'
      exact ⟨c, h1, z.keeps kp⟩
  · have e : cenv.cells.lookup y = some c := e
    obtain ⟨w, z⟩ := I.cell y c (mem e).1
    exact ⟨w, z.keeps kp⟩
  · show H cenv.locals = none
    rw [hL]; exact I.hok.fresh (Nat.le_refl _)
  · have e : cenv.cells.lookup y = some c := e
    exact I.freeC y c (mem e).1
  · have hp : p ∈ [(h'.objs.size, go)] ++ [] := hp
    rw [List.append_nil] at hp
    rw [List.mem_singleton.mp hp]
    refine ⟨hgp, I.hok.fresh (by omega), ?_, nfs, hgo⟩
    show h'.objs.size ≠ cenv.locals
    rw [hL]; omega
end
/-! ### the turns -/
/-- while it sleeps nothing that stands is changed -/
structure Slp (s s' : Shared) : Prop where
  os : s'.os = s.os
  bare : AllBare s'.gens
  keep : ∀ b o, s.heap.get? b = some o → s'.heap.get? b = some o
/-- a truth comes out: fin: it goes on; else it is over -/
def gY (X : Cx) (fin : Bool) (Q : VK) : Protocol := fun _ _ v s kap =>
  ∃ (b : Bool) (σ : L2.St) (H : Hp), v = .bool b ∧ Inv X [] σ H s ∧ ((b = fin ∧ ∀ s', Slp s s' → kap (.send .none) s') ∨ (b ≠ fin ∧ Q (.bl b) H))
def gP (X : Cx) (fin : Bool) (Q : VK) (s : Shared) : Prop := ∃ (σ : L2.St) (H : Hp), Inv X [] σ H s ∧ Q (.bl fin) H
abbrev gR (X : Cx) (fin : Bool) (Q : VK) : GenEnd := fun _ _ r s => r = .ok .next ∧ gP X fin Q s
theorem inv_slp {X : Cx} {pins : List (Addr × Obj)} {σ : L2.St} {H : Hp} {s s' : Shared} (I : Inv X pins σ H s) (z : Slp s s') : Inv X pins σ H s' :=
  I.call' (ch := []) z.os (Un.kept z.keep) (I.hok.kept z.keep) z.bare fun b hb => absurd hb (by simp)
section
variable {X : Cx} {s3 : Shared} {H3 : Hp} {cenv : Env} {fp : List Addr} {pn : List (Addr × Obj)} {elt tg iter : Expr} {scope : Scope} {gpos : Pos} {it : Addr} {J : It} {tn : Nat → Heap → Prop} {g : TG} {te : TE} {σ0 : L2.St} {vs : List Nat} {fin : Bool} {Q : VK} {W : Nat → Nat → Hp → Prop}
theorem seg_loop (hc : X.calm = true) (T : Turn X.prog X.w X.K tg J fp it tn) (pg : PG (genCx X s3 H3 cenv fp pn) tg g) (pe : PE (genCx X s3 H3 cenv fp pn) elt te) (hco : cenv.scope.isCoroutine = false) (hpn : ∀ p ∈ pn, p.1 ∉ fp)
    (turn : ∀ i m H, W i m H → (J.stop i H ∧ Q (.bl fin) H) ∨ (J.go i H ∧ ∃ Nx : Hp → Prop, (∀ H', Nx H' → ∃ m', m' < m ∧ W (i + 1) m' H') ∧ ∀ x H', J.yld i H x H' → g x σ0 H' fun σ2 H2 => wipe σ2 vs = σ0 ∧ te σ2 H2 fun y H4 => ∃ b : Bool, y = .bl b ∧ ((b = fin ∧ Nx H4) ∨ (b ≠ fin ∧ Q (.bl b) H4)))) :
    ∀ (n m i : Nat) (H : Hp) (s₀ s : Shared), m < n → W i m H → Inv (genCx X s3 H3 cenv fp pn) [] σ0 H s → tn i s.heap → (∀ b ∈ fp, H b = none) →
      Seg (model X.prog X.w) X.A.in1.in1 (gR (genCx X s3 H3 cenv fp pn) fin Q) (gY (genCx X s3 H3 cenv fp pn) fin Q) n s₀ (gCode elt tg iter scope gpos it cenv) ((model X.prog X.w).den (gCode elt tg iter scope gpos it cenv)) [] s := by
  have stat : ∀ {σ' : L2.St} {H' : Hp} {s' : Shared}, Inv (genCx X s3 H3 cenv fp pn) [] σ' H' s' → (∀ b ∈ fp, H' b = none) → ∀ b ∈ fp, FpOk (genCx X s3 H3 cenv fp pn) [] H' b := fun {σ' H' s'} I' hn b hb =>
    ⟨hn b hb, (I'.ok.exf b hb).1, I'.ok.exfs b hb, .inl hb, fun x c e => (I'.ok.exf b hb).2 x c e, fun p hp e => by
      have hp : p ∈ pn ++ [] := hp
      rw [List.append_nil] at hp
      exact hpn p hp (by rw [e]; exact hb)⟩
  intro n
  induction n with
  | zero => intro m i H s₀ s hm; exact absurd hm (Nat.not_lt_zero _)
  | succ n ih =>
    intro m i H s₀ s hm w I st hn
    show Seg _ X.A.in1.in1 _ _ _ s₀ _ ((compTurn (.GeneratorExp elt [⟨tg, iter, [], 0⟩] scope gpos) 0 (.ref it) .none cenv).onRaise (leaving cenv)) [] s
    rw [compTurn_gen, Sem.onRaise_eq_wrap]
    refine seg_bind_wrap (wpAny_standAt ?_)
    rcases turn i m H w with ⟨stop, qq⟩ | ⟨go, Nx, hNx, step⟩
    · have td := T.done (genCx X s3 H3 cenv fp pn) rfl rfl rfl hc i [] s σ0 H (fun _ _ => False) I (stat I hn) st stop
      refine seg_bind_wrap ?_
      rw [over_gen]
      refine wpAny_mono td (fun r s6 ⟨hr, I6⟩ => ?_) fun _ _ z => z.elim
      subst hr
      exact seg_end (.ok .next) ⟨rfl, σ0, H, I6, qq⟩
    · have ti := T.item (genCx X s3 H3 cenv fp pn) rfl rfl rfl hc i [] s σ0 H (fun _ _ => False) I (stat I hn) st go
      refine seg_bind_wrap ?_
      rw [over_gen]
      refine wpAny_mono ti (fun r s6 ⟨u, hr, h6⟩ => ?_) fun _ _ z => z.elim
      subst hr
      refine seg_bind_wrap ?_
      rw [over_gen]
      refine wpAny_mono h6 (fun _ s7 ⟨x, H7, I7, r7, y7, st7, n7⟩ => ?_) fun _ _ z => z.elim
      have I7' := I7.pinned (stat I7 n7) (T.obj _ _ st7)
      refine seg_bind_wrap ?_
      rw [over_gen]
      refine wpAny_mono (pg.run _ s7 _ H7 x u _ I7' r7 (step x H7 y7)) (fun _ s8 ⟨σ8, H8, I8, hw8, q8⟩ => ?_) fun _ _ z => (show False from z).elim
      refine seg_bind_wrap ?_
      simp only [List.forIn_nil]
      refine wpAny_pure ?_
      simp only [if_true]
      have hy : ∀ v, yieldOut cenv v = yieldValue v := fun v => by simp only [yieldOut, hco, Bool.false_eq_true, if_false]
      simp only [hy]
      rw [Sem.bind_eq_wrap', Sem.bind_eq_wrap', Sem.wrap_wrap, Sem.wrap_wrap]
      refine seg_wrap ?_
      rw [over_gen]
      refine wpAny_mono (pe.run _ s8 σ8 H8 _ I8 q8) (fun v s10 ⟨yv, H10, I10, r10, b, eb, q10⟩ => ?_) fun _ _ z => (show False from z).elim
      subst eb
      obtain rfl : v = Value.bool b := r10
      refine seg_at (seg_yield rfl rfl rfl ⟨b, σ8, H10, rfl, I10.unpinned (pins := []), ?_⟩)
      rcases q10 with ⟨e, nx⟩ | ⟨e, q⟩
      · refine .inl ⟨e, fun s'' z => ?_⟩
        obtain ⟨m', hm', w'⟩ := hNx H10 nx
        have pin' : ∀ b ∈ fp, ∀ o, s7.heap.get? b = some o → s10.heap.get? b = some o ∧ H10 b = none := fun b hb o e =>
          let z := I10.pin (b, o) (List.mem_append_right _ (List.mem_append_right _ (mem_pinsAt hb e)))
          ⟨z.1, z.2.1⟩
        have hl : σ0.length = σ8.length := by rw [← hw8, wipe_length]
        have I11 : Inv (genCx X s3 H3 cenv fp pn) [] σ0 H10 s10 := (I10.unpinned (pins := [])).weak hl fun j v e => by
          rw [← hw8] at e
          exact (wipe_some e).1
        refine seg_again rfl (ih m' (i + 1) H10 s'' s'' (by omega) w' (inv_slp I11 z) (T.keep _ _ _ st7 fun b hb o e => z.keep b o (pin' b hb o e).1) fun b hb => ?_)
        obtain ⟨o, e, _⟩ := T.obj _ _ st7 b hb
        exact (pin' b hb o e).2
      · exact .inr ⟨e, q⟩
theorem seg_begin {n : Nat} {s₀ s : Shared} (T : Turn X.prog X.w X.K tg J fp it tn) (st : tn 0 s.heap)
    (loop : Seg (model X.prog X.w) X.A.in1.in1 (gR (genCx X s3 H3 cenv fp pn) fin Q) (gY (genCx X s3 H3 cenv fp pn) fin Q) n s₀ (gCode elt tg iter scope gpos it cenv) ((model X.prog X.w).den (gCode elt tg iter scope gpos it cenv)) [] s) :
    Seg (model X.prog X.w) X.A.in1.in1 (gR (genCx X s3 H3 cenv fp pn) fin Q) (gY (genCx X s3 H3 cenv fp pn) fin Q) n s₀ (.compStart (.GeneratorExp elt [⟨tg, iter, [], 0⟩] scope gpos) 0 (.ref it) .none cenv)
      ((model X.prog X.w).den (.compStart (.GeneratorExp elt [⟨tg, iter, [], 0⟩] scope gpos) 0 (.ref it) .none cenv)) [] s := by
  show Seg _ X.A.in1.in1 _ _ _ s₀ _ ((compStart (.GeneratorExp elt [⟨tg, iter, [], 0⟩] scope gpos) 0 (.ref it) .none cenv).onRaise (leaving cenv)) [] s
  unfold compStart
  rw [Sem.onRaise_eq_wrap]
  show Seg _ X.A.in1.in1 _ _ _ s₀ _ ((ask >>= _).wrap _ _ _ _) [] s
  refine seg_bind_wrap (wpAny_askSetting ?_)
  split
  · exact seg_again rfl loop
  · first
      | exact seg_bind_wrap (wpAny_rule (seg_bind_wrap (wpAny_standAt (seg_bind_wrap (T.self _ 0 s _ _ st (seg_again rfl loop))))))
      | (refine seg_bind_wrap (wpAny_rule ?_); show Seg _ X.A.in1.in1 _ _ _ s₀ _ ((standAt iter.pos >>= _).wrap _ _ _ _) [] s; exact seg_bind_wrap (wpAny_standAt (seg_bind_wrap (T.self _ 0 s _ _ st (seg_again rfl loop)))))
end
/-! ### who asks -/
section
variable {X : Cx} {s3 : Shared} {H3 : Hp} {cenv : Env} {fp : List Addr} {pn : List (Addr × Obj)} {Q : VK} {R : Result → Shared → Prop} {a : Addr} {g : Nat}
theorem all_loop (hh : X.A.handled = none) (hroom : X.A.depth < recursionLimit) (hgen : ∀ σ H s, Inv (genCx X s3 H3 cenv fp pn) [] σ H s → s.heap.IsGen a g)
    (hR : ∀ b σ H s, Inv (genCx X s3 H3 cenv fp pn) [] σ H s → Q (.bl b) H → R (.ok (.ret (.bool b))) s) :
    ∀ (n : Nat) (s : Shared), s.heap.IsGen a g → s.heap.NoLimit → (∃ gs, s.gens[g]? = some gs ∧ gs.Goes (model X.prog X.w) X.A.in1.in1 (gR (genCx X s3 H3 cenv fp pn) true Q) (gY (genCx X s3 H3 cenv fp pn) true Q) n (.send .none) (s.setGen g .running)) →
      codeAny (model X.prog X.w) X.A (.builtin "all.loop" ⟨[.ref a], []⟩) R s := by
  intro n
  induction n with
  | zero =>
    rintro s hg hl ⟨gs, hgs, hgo⟩
    refine codeAny_builtin F.entry_all_loop ?_
    rw [Around.under_plainId F.plain_all_loop _]
    show wpAny _ X.A.in1 (pyNext (.ref a) >>= _) _ _ s
    refine wpAny_bind (wpAny_pyNext_genexpQ (A := X.A.in1) (P := fun _ _ s₁ => gP (genCx X s3 H3 cenv fp pn) true Q s₁) hh hl hroom hg hgs hgo (fun v s₁ gs' hb hv => ?_) (fun s₁ hp h' hk => ?_))
    · obtain ⟨b, σ, H, rfl, I, ⟨e, k⟩ | ⟨e, q⟩⟩ := hv
      · exact (show False from k (s₁.setGen g gs') ⟨rfl, allBare_setGen I.bare hb, fun _ _ e => e⟩).elim
      · refine wpAny_bind (wpAny_holding (wpAny_truthy_bool ?_))
        refine wpAny_bind (wpAny_letGo ?_)
        have eb : b = false := by cases b <;> simp_all
        subst eb
        simp only [if_true, if_false, Bool.false_eq_true]
        refine wpAny_bind (wpAny_rule (wpAny_pure ?_))
        exact hR false σ H _ (inv_slp I ⟨rfl, allBare_setGen I.bare hb, fun _ _ e => e⟩) q
    · obtain ⟨σ, H, I, q⟩ := hp
      exact wpAny_bind (wpAny_rule (wpAny_pure (hR true σ H _ (inv_slp I ⟨rfl, allBare_setGen I.bare rfl, hk⟩) q)))
  | succ n ih =>
    rintro s hg hl ⟨gs, hgs, hgo⟩
    refine codeAny_builtin F.entry_all_loop ?_
    rw [Around.under_plainId F.plain_all_loop _]
    show wpAny _ X.A.in1 (pyNext (.ref a) >>= _) _ _ s
    refine wpAny_bind (wpAny_gsz (n := g + 1) (Array.getElem?_eq_some_iff.mp hgs).1 ?_)
    refine wpAny_mono (wpAny_pyNext_genexpQ (E := fun _ _ => False) (Q := fun r s' => g + 1 ≤ s'.gens.size → _) (A := X.A.in1) (P := fun _ _ s₁ => gP (genCx X s3 H3 cenv fp pn) true Q s₁) hh hl hroom hg hgs hgo (fun v s₁ gs' hb hv hsz => ?_) (fun s₁ hp h' hk hsz => ?_)) (fun _ _ z => z) fun _ _ z => z.elim
    · obtain ⟨b, σ, H, rfl, I, ⟨e, k⟩ | ⟨e, q⟩⟩ := hv
      · refine wpAny_bind (wpAny_holding (wpAny_truthy_bool ?_))
        refine wpAny_bind (wpAny_letGo ?_)
        subst e
        simp only [if_true, if_false, Bool.false_eq_true]
        refine wpAny_pure ⟨plainId_quiet F.plain_all_loop _, ?_⟩
        rw [setGen_size] at hsz
        have hI2 : Inv (genCx X s3 H3 cenv fp pn) [] σ H (s₁.setGen g gs') := inv_slp I ⟨rfl, allBare_setGen I.bare hb, fun _ _ e => e⟩
        refine ih _ (hgen σ H _ hI2) hI2.nolimit ⟨gs', setGen_at hsz, ?_⟩
        exact k _ ⟨rfl, allBare_setGen hI2.bare rfl, fun _ _ e => e⟩
      · refine wpAny_bind (wpAny_holding (wpAny_truthy_bool ?_))
        refine wpAny_bind (wpAny_letGo ?_)
        have eb : b = false := by cases b <;> simp_all
        subst eb
        simp only [if_true, if_false, Bool.false_eq_true]
        refine wpAny_bind (wpAny_rule (wpAny_pure ?_))
        exact hR false σ H _ (inv_slp I ⟨rfl, allBare_setGen I.bare hb, fun _ _ e => e⟩) q
    · obtain ⟨σ, H, I, q⟩ := hp
      exact wpAny_bind (wpAny_rule (wpAny_pure (hR true σ H _ (inv_slp I ⟨rfl, allBare_setGen I.bare rfl, hk⟩) q)))
end
/-! ### the expression -/
/-- all (fin = true) or any (fin = false) of truths handed out; P: the running def's table -/
def tAskG (P : Addr) (fin : Bool) (wi : TI) (g : TG) (te : TE) (vs : List Nat) : TE := fun σ H Q => wi σ H fun J H1 => TabG H1 P ∧ ∀ H2, Tabbed P H1 H2 → ∃ W : Nat → Nat → Hp → Prop, (∃ m, W 0 m H2) ∧ ∀ i m H, W i m H →
  (J.stop i H ∧ Q (.bl fin) H) ∨ (J.go i H ∧ ∃ Nx : Hp → Prop, (∀ H', Nx H' → ∃ m', m' < m ∧ W (i + 1) m' H') ∧ ∀ x H', J.yld i H x H' → g x (wipe σ vs) H' fun σ2 H3 => wipe σ2 vs = wipe σ vs ∧ te σ2 H3 fun y H4 => ∃ b : Bool, y = .bl b ∧ ((b = fin ∧ Nx H4) ∨ (b ≠ fin ∧ Q (.bl b) H4)))
section
variable {X : Cx} {c P : Addr} {elt tg iter : Expr} {scope : Scope} {own : List (Str × Nat)} {gpos : Pos} {wi : TI} {g : TG} {te : TE} {k : Nat} {pins : List (Addr × Obj)} {σ : L2.St} {H : Hp} {s : Shared} {Q : VK} {fin : Bool} {Q' : Value → Shared → Prop}
/-- the generator is made -/
theorem made (hr : Room (k + 1) X.A) (hc : X.calm = true) (hN : X.N.Nodup) (TB : TabB X.base X.mg c P) (hcode : X.env.code = .ref c) (ok : BlkOk X.N X.env.scope scope own) (hcell : ∀ y ∈ scope.names, y.2 ≠ .cell) (h0 : scope.names.lookup (".0" : Str) = some NameKind.local) (hco : scope.isCoroutine = false)
    (hi : PI X tg iter wi) (hg : ∀ (s : Shared) (H : Hp) (C : Addr) (code : Value) (fp : List Addr) (pn : List (Addr × Obj)), PG (genCx X s H (genE X scope C code) fp pn) tg g) (he : ∀ (s : Shared) (H : Hp) (C : Addr) (code : Value) (fp : List Addr) (pn : List (Addr × Obj)), PE (genCx X s H (genE X scope C code) fp pn) elt te)
    (hs : ∀ v, genFold iter X.env v = pure v) (I : Inv X pins σ H s) (h : tAskG P fin wi g te (own.map (·.2)) σ H Q)
    (hQ : ∀ (a : Addr) (gn : Nat) (n : Nat) (s3 : Shared) (H3 : Hp) (cenv : Env) (fp : List Addr) (pn : List (Addr × Obj)) (s5 : Shared), s5.heap.IsGen a gn → s5.heap.NoLimit → (∀ σ' H' s', Inv (genCx X s3 H3 cenv fp pn) [] σ' H' s' → s'.heap.IsGen a gn) →
      (∀ σ' H' s', Inv (genCx X s3 H3 cenv fp pn) [] σ' H' s' → Inv X pins σ H' s') →
      (∃ gs, s5.gens[gn]? = some gs ∧ gs.Goes (model X.prog X.w) X.A.in1.in1 (gR (genCx X s3 H3 cenv fp pn) fin Q) (gY (genCx X s3 H3 cenv fp pn) fin Q) n (.send .none) (s5.setGen gn .running)) → Q' (.ref a) s5) :
    wpAny (model X.prog X.w) X.A (eval (.GeneratorExp elt [⟨tg, iter, [], 0⟩] scope gpos) X.env) Q' X.xe s := by
  have hfree : ∀ y ∈ scope.names, y.2 = .free → ∃ c, X.env.cells.lookup y.1 = some c := fun y hy e => by
    rcases ok.free y hy e with k | k
    · exact I.ok.has _ (.inl k)
    · exact I.ok.has _ (.inr k)
  refine wpAny_GeneratorExp_make hco (closure_ok hfree) hcell h0 ok.kind hr.depth ?_ hs
  refine thn (hi.run pins s σ H _ I h) fun xv s1 hx => thn hx fun itv s2 h2 => ?_
  obtain ⟨it, fp, tn, J, H2, e, I2, T, st2, f2, ⟨ps, hP, ht⟩, q⟩ := h2
  subst e
  have hPs : s2.heap.get? P = some { cls := .none, data := .fields ps } := I2.hok P _ hP
  have cd : PySem.W.CodeHd s2.heap c P := TB.code.keeps I2.bk
  have fpP : ∀ b ∈ fp, b ≠ P := fun b hb e => by
    have := (f2 b hb).1
    rw [e, hP] at this
    cases this
  have cont : ∀ (code : Value) (h3 : Heap) (tk : Nat) (ps' : Array Value), Heap.ExtBut P s2.heap h3 → s2.heap.objs.size ≤ h3.objs.size → h3.get? P = some { cls := .none, data := .fields ps' } → (∃ more, ps' = ps ++ more) → TriplesOk ps'.toList →
      wpAny (model X.prog X.w) X.A (builtinsFor X.env.globals X.env.builtins) (fun bi s₄ =>
        ∀ h', h'.Ns s₄.heap.objs.size (fun y => if y = ".0" then some (.ref it) else none) → Heap.SameBut s₄.heap.objs.size (s₄.heap.push { cls := .type "frame", data := .dict #[] }) h' →
          Q' (.ref h'.objs.size) { s₄ with
            gens := s₄.gens.push (.fresh (.compStart (.GeneratorExp elt [⟨tg, iter, [], 0⟩] scope gpos) 0 (.ref it) .none (genEnv scope (cloFrom X.env.cells scope.names []) s₄.heap.objs.size code bi X.env))),
            toks := s₄.toks + 1 + 1 + 1,
            heap := h'.push { cls := .type "generator", data := .fields #[.int s₄.gens.size 0, .str "<genexpr>" (s₄.toks + 1), .str (X.env.qual ++ "<genexpr>") (s₄.toks + 1 + 1)] } }) X.xe { s2 with heap := h3, toks := tk } := by
    intro code h3 tk ps' hx hsz hP3 hmore ht3
    obtain ⟨more, em⟩ := hmore
    obtain ⟨bm, ob, e1, e2, e3, e4, e5, e6, e7, e8⟩ := TB.bm
    have keep3 : ∀ b u, b ≠ P → s2.heap.get? b = some u → h3.get? b = some u := fun b u hb e => hx b u hb e
    refine wpAny_builtinsFor (m := X.mg) (by rw [I2.ok.glob]; exact ((I2.mod.glob.keeps I2.bk)).extBut hx TB.gP) e1 e2 (keep3 _ _ e4 (I2.bk _ _ e5)) e6 e7 e8 ?_
    have I3 : Inv X pins σ (upd H2 P (.tbl (ps ++ more))) { s2 with heap := h3, toks := tk } := inv_tab (more := more) (g' := s2.gens) (d' := s2.drawn) (t' := tk) I2 hP keep3 (by rw [← em]; exact hP3) I2.bare
    have tb : Tabbed P H2 (upd H2 P (.tbl (ps ++ more))) := ⟨⟨ps ++ more, upd_same, by rw [← em]; exact ht3⟩, fun b hb => upd_ne hb⟩
    obtain ⟨W, ⟨m0, w0⟩, turn⟩ := q _ tb
    have lt2 : ∀ b ∈ fp, b < s2.heap.objs.size := fun b hb => by
      obtain ⟨o, e, _⟩ := T.obj _ _ st2 b hb
      exact Heap.lt_size e
    have f3 : ∀ b ∈ fp, FpOk X pins (upd H2 P (.tbl (ps ++ more))) b ∧ b < h3.objs.size := fun b hb => by
      refine ⟨⟨?_, (f2 b hb).2⟩, Nat.lt_of_lt_of_le (lt2 b hb) hsz⟩
      rw [upd_ne (fpP b hb)]
      exact (f2 b hb).1
    generalize hs3 : ({ s2 with heap := h3, toks := tk } : Shared) = s3 at I3 ⊢
    have h33 : s3.heap = h3 := by rw [← hs3]
    rw [← h33] at f3
    intro h' hn' hs'
    have I5 := gen_start (code := code) (G := s3.gens.push (.fresh (.compStart (.GeneratorExp elt [⟨tg, iter, [], 0⟩] scope gpos) 0 (.ref it) .none (genE X scope s3.heap.objs.size code)))) (tk := s3.toks + 1 + 1 + 1)
      (go := { cls := .type "generator", data := .fields #[.int s3.gens.size 0, .str "<genexpr>" (s3.toks + 1), .str (X.env.qual ++ "<genexpr>") (s3.toks + 1 + 1)] }) I3 ok hcell hN f3 hn' hs' (fun v z => by cases z) (Heap.get?_push_size _ rfl) (AllBare.push I3.bare rfl)
    have hsz' : h'.objs.size = s3.heap.objs.size + 1 := by rw [hs'.1, Heap.size_push]
    have isgen : ∀ σ' H' s', Inv (genCx X s3 (upd H2 P (.tbl (ps ++ more))) (genE X scope s3.heap.objs.size code) fp [(h'.objs.size, { cls := .type "generator", data := .fields #[.int s3.gens.size 0, .str "<genexpr>" (s3.toks + 1), .str (X.env.qual ++ "<genexpr>") (s3.toks + 1 + 1)] })]) [] σ' H' s' → s'.heap.IsGen h'.objs.size s3.gens.size := fun σ' H' s' J' =>
      ⟨_, _, _, (J'.pin (h'.objs.size, _) (List.mem_append_left _ (List.mem_singleton.mpr rfl))).1, rfl, rfl, rfl⟩
    have keep5 : ∀ b o, s3.heap.get? b = some o → (h'.push { cls := .type "generator", data := .fields #[.int s3.gens.size 0, .str "<genexpr>" (s3.toks + 1), .str (X.env.qual ++ "<genexpr>") (s3.toks + 1 + 1)] }).get? b = some o := fun b o e => Heap.get?_push_of_some _ (hs'.extBut b o (Nat.ne_of_lt (Heap.lt_size e)) (Heap.get?_push_of_some _ e))
    have st3 : tn 0 s3.heap := T.keep _ _ _ st2 fun b hb o e => by rw [h33]; exact keep3 b o (fpP b hb) e
    have st5 := T.keep _ _ _ st3 fun b hb o e => keep5 b o e
    refine hQ h'.objs.size s3.gens.size (m0 + 1) s3 _ (genE X scope s3.heap.objs.size code) fp _ _ (isgen _ _ _ I5) I5.nolimit isgen (fun σ' H' s' J' => ?_) ⟨_, Array.getElem?_push_size .., rfl, ?_⟩
    · exact I3.call' (ch := fp) J'.os J'.base J'.hok J'.bare fun b hb => ⟨(f3 b hb).1.2.2.2.1, (f3 b hb).1.2.1, (f3 b hb).1.2.2.2.2.1, (f3 b hb).1.2.2.2.2.2⟩
    · refine seg_begin (J := J) T ?_ (seg_loop (W := W) hc T (hg s3 _ s3.heap.objs.size code fp _) (he s3 _ s3.heap.objs.size code fp _) hco ?_ turn (m0 + 1) m0 0 _ _ _ (Nat.lt_succ_self _) w0 (inv_slp I5 ⟨rfl, allBare_setGen I5.bare rfl, fun _ _ e => e⟩) ?_ fun b hb => (f3 b hb).1.1)
      · exact st5
      · intro p hp z
        rw [List.mem_singleton.mp hp] at z
        have := (f3 _ z).2
        rw [hsz'] at this
        exact absurd (Nat.lt_trans (Nat.lt_succ_self _) this) (Nat.lt_irrefl _)
      · exact st5
  refine ⟨I2.nolimit, ?_⟩
  cases hf : codeAmong gpos ps.toList with
  | none =>
    refine wpAny_genexprCodeX hcode (cd.code hPs ht) (cd.tab hPs) hf fun c' h' tk hx hge hlt hco' _ htab' _ => ?_
    obtain ⟨o1, vs, f1, tf, fl, tg, inF, tx, tt, op, _, _, _, _, _, _, _, _, _, htr, _⟩ := hco'
    exact cont _ h' tk _ hx (Nat.le_trans hge (Nat.le_of_lt hlt)) htab'.2 ⟨_, rfl⟩ htr
  | some cv =>
    refine wpAny_genexprCode_hit hcode (cd.code hPs ht) hf ?_
    exact cont cv s2.heap s2.toks ps (Heap.ExtBut.refl _ _) (Nat.le_refl _) hPs ⟨#[], by simp⟩ ht
end
section
variable {X : Cx} {c P : Addr} {elt tg iter : Expr} {scope : Scope} {own : List (Str × Nat)} {p pos gpos : Pos} {wi : TI} {g : TG} {te : TE} {k : Nat}
theorem pe_allG (hr : Room (k + 1) X.A) (hc : X.calm = true) (hN : X.N.Nodup) (hgl : Gl X "all") (hm : X.mg "all" = none) (TB : TabB X.base X.mg c P) (hcode : X.env.code = .ref c) (ok : BlkOk X.N X.env.scope scope own) (hcell : ∀ y ∈ scope.names, y.2 ≠ .cell) (h0 : scope.names.lookup (".0" : Str) = some NameKind.local) (hco : scope.isCoroutine = false)
    (hi : PI X tg iter wi) (hg : ∀ (s : Shared) (H : Hp) (C : Addr) (code : Value) (fp : List Addr) (pn : List (Addr × Obj)), PG (genCx X s H (genE X scope C code) fp pn) tg g) (he : ∀ (s : Shared) (H : Hp) (C : Addr) (code : Value) (fp : List Addr) (pn : List (Addr × Obj)), PE (genCx X s H (genE X scope C code) fp pn) elt te)
    (hs : ∀ v, genFold iter X.env v = pure v := by intro _; rfl)
    (hst : starEach [.GeneratorExp elt [⟨tg, iter, [], 0⟩] scope gpos] X.env = (false, eval (.GeneratorExp elt [⟨tg, iter, [], 0⟩] scope gpos) X.env) :: starEach [] X.env := by rfl) :
    PE X (.Call (.Name "all" p) [.GeneratorExp elt [⟨tg, iter, [], 0⟩] scope gpos] [] pos) (tAskG P true wi g te (own.map (·.2))) := by
  refine ⟨fun pins s σ H Q I h => ?_⟩
  refine wpAny_Call_Name_kw (ld_blt I hgl hm (u := .builtin "all") (by first | rfl | decide +kernel) ?_ (by first | decide +kernel | decide) (by first | decide +kernel | decide))
  refine PyProof.Rows.callWith_builtin1 ?_ hst (by rfl)
  rw [hst]
  show wpAny _ _ (spliced ((false, eval (.GeneratorExp elt [⟨tg, iter, [], 0⟩] scope gpos) X.env) :: backTo pos (starEach [] X.env))) _ _ s
  refine Calls.spliced_cons (made hr hc hN TB hcode ok hcell h0 hco hi hg he hs I h fun a gn n s3 H3 cenv fp pn s5 i1 i2 i3 i4 i5 => ?_)
  refine Calls.spliced_nil ?_
  refine call_function_tree F.kind_all F.plain_all F.entry_all (F.args_all1 _) ?_
  unfold Builtin.«all»
  refine wpAny_bind (m := oneArg "all" _) (wpAny_pure ?_)
  refine wpAny_bind (wpAny_pyIter_gen i1 ?_)
  exact wpAny_pure ⟨plainId_quiet F.plain_all_loop _, all_loop hr.hd hr.depth i3 (fun b σ' H' s' J' q => ⟨.bl b, H', i4 σ' H' s' J', rfl, q⟩) n s5 i1 i2 i5⟩
end
end GnX
set_option maxHeartbeats 1000000
namespace Pu
open PySem PySem.Spec PyProof.Rows L2
variable [Tbs]
open GnX GxR
/-! ### all, any of a generator expression -/
def askP (fin : Bool) (pg : PGt) (pe : PX) (env : List SV) : List D → (D → Prop) → Prop
  | [], k => k (.bl fin)
  | d :: ds, k => pg d env fun env1 => pe env1 fun r => match r with
    | .bl b => if b = fin then askP fin pg pe env ds k else k (.bl b)
    | _ => False
def eAsk (fin : Bool) (vs : List Nat) (pi : PIt) (pg : PGt) (pe : PX) : PX := fun env k => pi env fun ds => noOwn env vs ∧ askP fin pg pe (wipeE env vs) ds k
theorem evo_tab {z : Zn} {H1 H2 : Hp} {P : Addr} (hP : P ∈ Tbs.tb) (ht : Tabs H1) (tb : Tabbed P H1 H2) : Evo z H1 H2 := by
  obtain ⟨ps, e, _⟩ := ht.g P hP
  refine ⟨fun a o q n => ?_, fun a q => ?_, fun a q => ?_, fun h => ⟨fun R hR => ?_, fun r hr => ?_⟩⟩
  · rw [tb.2 a (fun w => n (.inr (.inl (by rw [w]; exact hP))))]; exact q
  · by_cases w : a = P
    · obtain ⟨ps', e', _⟩ := tb.1
      rw [w, e']; intro q; cases q
    · rw [tb.2 a w]; exact q
  · obtain ⟨q1, q2, q3, q4⟩ := q
    obtain ⟨n1, n2⟩ := q3.notbl e
    exact ⟨q1, q2, q3.keep (fun o q => by rw [tb.2 _ n1]; exact q) (fun o q => by rw [tb.2 _ n2]; exact q), q4.keep fun o q => by rw [tb.2 _ n1]; exact q⟩
  · by_cases w : R = P
    · rw [w]; exact tb.1
    · obtain ⟨ps', e', t'⟩ := h.g R hR
      exact ⟨ps', by rw [tb.2 R w]; exact e', t'⟩
  · refine (h.l r hr).keep (fun ps' e' => by rw [tb.2 _ (fun w => Tbs.tn r hr (by rw [w]; exact hP))]; exact e') fun c o u q => ?_
    rw [tb.2 c (fun w => by rw [w, e] at q; cases q)]
    exact q
theorem re_ask {P : Addr} {fin : Bool} {wi : TI} {pi : PIt} {js vs : List Nat} {g : TG} {pg : PGt} {te : TE} {pe : PX} (hP : P ∈ Tbs.tb) (hi : RI wi pi) (hg : RG js g pg) (hj : ∀ i ∈ js, i ∈ vs) (he : RE .b te pe) : RE .e (tAskG P fin wi g te vs) (eAsk fin vs pi pg pe) := fun z X H0 H σ env Q k o c hp => by
  refine hi z X H0 H σ env _ _ o (fun ds J H1 e1 yl hx => ?_) hp
  obtain ⟨hn, hx⟩ := hx
  have o1 := o.go e1
  refine ⟨o1.tab.g P hP, fun H2 tb => ?_⟩
  have e2 : Evo z H1 H2 := evo_tab hP o1.tab tb
  refine ⟨fun i mm H' => mm = ds.length - i ∧ i ≤ ds.length ∧ Evo z H1 H' ∧ askP fin pg pe (wipeE env vs) (ds.drop i) k, ⟨ds.length, by simp, Nat.zero_le _, e2, by simpa using hx⟩, ?_⟩
  rintro i mm H' ⟨rfl, hil, e', hk⟩
  have oL := o1.go e'
  obtain ⟨y1, y2⟩ := yl _ _ (o1.fr e')
  by_cases hlt : i < ds.length
  · obtain ⟨go, y3⟩ := y2 i ds[i] (List.getElem?_eq_getElem hlt)
    rw [List.drop_eq_getElem_cons hlt] at hk
    refine .inr ⟨go, fun H2 => Evo z H1 H2 ∧ askP fin pg pe (wipeE env vs) (ds.drop (i + 1)) k, fun H2 h2 => ⟨ds.length - (i + 1), by omega, rfl, hlt, h2⟩, fun x H2 hy => ?_⟩
    obtain ⟨e3, is⟩ := y3 x H2 hy
    have oL2 := oL.go e3
    obtain ⟨oW, sub⟩ := oL2.wipe (vs := vs)
    refine hg z X H0 H2 _ _ x _ _ _ oW ((is (fun a q => .inl q) (fun b q => oL.notMs q)).weak sub) (fun env3 σ3 o3 f3 kp hx3 => ⟨wipe_eq kp hj, ?_⟩) hk
    refine he z X H0 H2 σ3 env3 _ _ o3 (fun r y H4 e4 r4 hx5 => ?_) hx3
    have e5 := e'.trans (e3.trans e4)
    cases r with
    | bl b =>
      cases (show Is z (Zx z X) H4 y (.bl b) from r4)
      refine ⟨b, rfl, ?_⟩
      replace hx5 : (if b = fin then askP fin pg pe (wipeE env vs) (ds.drop (i + 1)) k else k (.bl b)) := hx5
      by_cases hb : b = fin
      · exact .inl ⟨hb, e5, by rw [if_pos hb] at hx5; exact hx5⟩
      · exact .inr ⟨hb, c (.bl b) (.bl b) H4 (e1.trans e5) (.bl b) (by rw [if_neg hb] at hx5; exact hx5)⟩
    | _ => exact (show False from hx5).elim
  · have ei : i = ds.length := by omega
    subst ei
    rw [List.drop_length] at hk
    exact .inl ⟨y1, c (.bl fin) (.bl fin) H' (e1.trans e') (.bl fin) hk⟩
section
variable {C : Cx} {c P : Addr} {elt tg iter : Expr} {scope : Scope} {own : List (Str × Nat)} {p pos gpos : Pos} {pi : PIt} {js : List Nat} {g : TG} {pg : PGt} {pe : PX} {k : Nat}
/-- the scope of a generator expression: no cells, the walked thing at «.0» -/
def genC (scope : Scope) : Bool := (scope.names.all fun y => match y.2 with | .cell => false | _ => true) && (match scope.names.lookup (".0" : Str) with | some .local => true | _ => false) && !scope.isCoroutine
theorem genC_of (h : genC scope = true) : (∀ y ∈ scope.names, y.2 ≠ .cell) ∧ scope.names.lookup (".0" : Str) = some NameKind.local ∧ scope.isCoroutine = false := by
  unfold genC at h
  simp only [Bool.and_eq_true, List.all_eq_true, Bool.not_eq_true'] at h
  obtain ⟨⟨h1, h2⟩, h3⟩ := h
  refine ⟨fun y hy e => ?_, ?_, h3⟩
  · have := h1 y hy
    rw [e] at this
    cases this
  · split at h2
    · assumption
    · cases h2
theorem e_all (hr : Room (k + 1) C.A) (hi : I C tg iter pi) (hg : ∀ (s : Shared) (H : Hp) (Ca : Addr) (code : Value) (fp : List Addr) (pn : List (Addr × Obj)), G (genCx C s H (genE C scope Ca code) fp pn) tg js g pg)
    (he : ∀ (s : Shared) (H : Hp) (Ca : Addr) (code : Value) (fp : List Addr) (pn : List (Addr × Obj)), Room k (genCx C s H (genE C scope Ca code) fp pn).A → E .b (genCx C s H (genE C scope Ca code) fp pn) elt pe) (hc : C.calm = true) (hN : C.N.Nodup)
    (hgl : Gl C "all") (hm : C.mg "all" = none) (TB : TabB C.base C.mg c P) (hP : P ∈ Tbs.tb) (hcode : C.env.code = .ref c) (ok : BlkOk C.N C.env.scope scope own) (gc : genC scope = true) (hj : ∀ i ∈ js, i ∈ own.map (·.2)) (rg : RG js g pg) (hs : ∀ v, genFold iter C.env v = pure v := by intro _; rfl)
    (hst : starEach [.GeneratorExp elt [⟨tg, iter, [], 0⟩] scope gpos] C.env = (false, eval (.GeneratorExp elt [⟨tg, iter, [], 0⟩] scope gpos) C.env) :: starEach [] C.env := by rfl) :
    E .e C (.Call (.Name "all" p) [.GeneratorExp elt [⟨tg, iter, [], 0⟩] scope gpos] [] pos) (eAsk true (own.map (·.2)) pi pg pe) :=
  ⟨_, pe_allG hr hc hN hgl hm TB hcode ok (genC_of gc).1 (genC_of gc).2.1 (genC_of gc).2.2 hi.pi (fun s H Ca code fp pn => (hg s H Ca code fp pn).pg) (fun s H Ca code fp pn => (he s H Ca code fp pn (room_gen hr _)).pe) hs hst, re_ask hP ri_tP rg hj re_tP⟩
end
/-! // by a great divisor -/
/-! ### a def that holds a generator expression -/
section
variable {P : Program} {w : World} {K : PySem.W.Frag} {mg : Str → Option Value} {base : Heap}
theorem fn_okT {x qual : Str} {st : Stmt} {f c : Addr} {fd : FuncData} {N ps : List Str} {k : Nat} {fr : Bool} {p : PSt} (F : Fun K x qual st f fd) (hc : fd.code = .ref c) (S : FnScope N ps (defScope st))
    (hb : ∀ (A : Around) (outer : List Env) (s : Shared) (H : Hp) (E : XK), Room k (A.deeper (envOfC qual (defScope st) s.heap.objs.size f (.ref c))) → B fr (cxOf CX0 P w K mg base N qual (defScope st) f (.ref c) A outer s H E).nox (defBody st) p) :
    FnOk P w K mg base CX0 (k + 1) f fd ps (Sf fr ps.length (wpOf fr N.length p)) := by
  obtain ⟨oc, od, kV, doc, pm, an, cdv, ct, osl, rfl, lk, hcd⟩ := F.ex
  obtain rfl : cdv = .ref c := hc
  refine fn_of lk hcd S (fun vs H Q E h => ?_) fun A outer s H vs Q E hr h => ?_
  · obtain ⟨z, X, ds, kk, hl, _⟩ := h
    exact hl
  · obtain ⟨z, X, ds, kk, hl, hz, hx, hA, hw, c⟩ := h
    obtain ⟨t, b1, b2⟩ := hb A outer s H E hr
    refine ⟨t, b1.nox, b2 z X H H (L2.start N vs) _ _ { nx := fun _ => fr = false ∧ kk .non, rt := kk } (start_ok hz hx hA) ⟨fun env' σ' H' o' f' hk => ?_, fun d v H' e r fq hk => ?_, fun _ _ _ _ _ hk => hk.elim, fun _ _ _ _ _ hk => hk.elim, fun _ _ _ _ _ _ _ h => h.elim⟩ hw⟩
    · exact c .non .non H' o'.evo .non (fun q => by rw [hk.1] at q; cases q) hk.2
    · exact c d v H' e r fq hk
end
/-! ### readings -/
theorem eAsk_i {fin : Bool} {vs : List Nat} {pi : PIt} {pg : PGt} {pe : PX} {env : List SV} {k : D → Prop} (h : pi env fun ds => noOwn env vs ∧ askP fin pg pe (wipeE env vs) ds k) : eAsk fin vs pi pg pe env k := h
/-- each element's truth is known -/
theorem askP_i {fin : Bool} {pg : PGt} {pe : PX} {env : List SV} {k : D → Prop} {α : Type} (f : α → D) (b : α → Bool) : ∀ (l : List α), (∀ x ∈ l, ∀ k' : D → Prop, k' (.bl (b x)) → pg (f x) env fun env1 => pe env1 k') → k (.bl (if fin = true then l.all b else l.any b)) → askP fin pg pe env (l.map f) k
  | [], _, h => by cases fin <;> exact h
  | x :: l, hs, h => by
    refine hs x List.mem_cons_self _ ?_
    show (if b x = fin then askP fin pg pe env (l.map f) k else k (.bl (b x)))
    by_cases e : b x = fin
    · rw [if_pos e]
      refine askP_i f b l (fun y hy => hs y (List.mem_cons_of_mem _ hy)) ?_
      cases fin
      · rw [if_neg Bool.false_ne_true] at h ⊢
        rw [List.any_cons, e, Bool.false_or] at h
        exact h
      · rw [if_pos rfl] at h ⊢
        rw [List.all_cons, e, Bool.true_and] at h
        exact h
    · rw [if_neg e]
      cases fin
      · rw [if_neg Bool.false_ne_true, List.any_cons] at h
        have : b x = true := by cases q : b x <;> simp_all
        rw [this] at h ⊢
        exact h
      · rw [if_pos rfl, List.all_cons] at h
        have : b x = false := by cases q : b x <;> simp_all
        rw [this] at h ⊢
        exact h
/-! ### the law's end, with tables -/
omit [Tbs] in
theorem tabIn_mk {K : PySem.W.Frag} {x : Str} {f q p : Addr} {oc ec : Value} {od ed : Option Addr} {fd : FuncData} {sl es : Array (Option Value)} {ev : Array Value} (a : PySem.W.nsIn K mainGlobals x = some (some (.ref f))) (l : K.lookup f = some ⟨oc, od, .func fd, sl⟩) (hc : fd.code = .ref q)
    (u : K.lookup q = some ⟨ec, ed, .fields ev, es⟩) (w : ev[11]? = some (.ref p)) : PySem.W.tabIn K x = some (q, p) := by
  unfold PySem.W.tabIn
  simp only [a, l, hc, u, w]
omit [Tbs] in
theorem walkT {l : PySem.W.OpenLaw} {q : Program} {loose : List Str} {XP : (Str → Option Value) → Heap → Prop} {YP : World → Heap → Prop} {d : DefRec} {K : Params → PySem.W.Frag} {k : Nat} (hn : l.most = some 63) (hdf : d.params.defaults = []) (hr : Room k callerA)
    (hY : ∀ (w : World) (h : Heap), YP w h → (K w.params).In h) (names : List Str) (hrec : (names.all fun x => ((recsOf q).find? fun e => e.name == x).isSome) = true)
    (F : ∀ (w : World) (mg : Str → Option Value) (fa : Addr) (h : Heap), (K w.params).In h → h.Ns mainGlobals mg → mg d.name = some (.ref fa) →
      ∃ (fd : FuncData) (cs : List (Addr × Addr)), (∀ p ∈ cs, ∃ x ∈ names, PySem.W.tabIn (K w.params) x = some p) ∧ (∀ p ∈ cs, (K w.params).lookup p.2 = none) ∧ (∀ (s : Shared) (u : Value), BindsTo s fd ⟨[u], []⟩ [("_law_script", u)]) ∧
        ∀ base : Heap, (K w.params).In base → base.Ns mainGlobals mg → (∀ p ∈ cs, TabB base mg p.1 p.2) → FnOk l.prog w (K w.params) mg base CX0 k fa fd ["_law_script"] (sp_lawT (K w.params) (cs.map (·.2)))) :
    PySem.W.WalkO q loose XP YP l.row.toRowW d [] (fun f vs => PySem.call f vs) := by
  refine Att.attach_call hn hdf fun w s₀ s₁ mg mb fa o pm cd doc a vs ns G Y _ _ _ hmg hobj hints hlen hg => ?_
  have KX := hY w _ Y
  obtain ⟨fd, cs, hx, nT, hb, hF⟩ := F w mg fa _ KX G.T.g hmg
  have hT : ∀ p ∈ cs, PySem.W.CodeHd s₁.heap p.1 p.2 ∧ s₁.heap.get? p.2 = some (PySem.W.tabObj #[]) := fun p hp => by
    obtain ⟨x, hxn, e⟩ := hx p hp
    obtain ⟨d', hd'⟩ := Option.isSome_iff_exists.mp (List.all_eq_true.mp hrec x hxn)
    exact PySem.W.tab_of G.T KX hd' e
  refine LamX.law_callTs (CX := CX0) KX G.T.g G.T.b G.T.builtins G.T.nolimit hg (fun p hp => (hT p hp).2) nT (fun p hp => (hT p hp).1) G.T.bmain hobj hints (Nat.le_trans hlen (by decide)) hr (fun base b1 b2 TB => hF base b1 b2 fun p hp => ⟨(TB p hp).1, (TB p hp).2, (TB p hp).3⟩) hb (fun H hH hS => ⟨a, ns, rfl, hS, hlen, fun P hP => ?_, fun _ => rfl⟩) fun H e s' z => z
  obtain ⟨p, hp, rfl⟩ := List.mem_map.mp hP
  exact hH p hp
end Pu
namespace Pu
open PySem PySem.Spec PyProof.Rows L2
variable [Tbs]
/-! a comprehension whose elements are popped from a list of the def's own -/
def RMK (t : TE) (p : PMX) : Prop := ∀ (z : Zn) (X : AP) (H0 H : Hp) (σ : Sl) (env : List SV) (Q : VK) (k : List SV → D → Prop), Ok z X H0 H σ env → (∀ d v H' env', Ok z X H0 H' σ env' → Fr z X (Ms z X σ env) H (Ms z X σ env') H' → (∀ b, X b → H' b = H b) → Is z (Ms z X σ env') H' v d → k env' d → Q v H') → p env k → t σ H Q
structure MK (C : Cx) (e : Expr) (p : PMX) : Prop where
  ex : ∃ t, PE C e t ∧ RMK t p
theorem mk_pop {C : Cx} {e : Expr} {p : PX} {m : Mode} {pp : Pos} (i : Nat) {x : Str} {apos cpos : Pos} (h : E m C e p)
    (hb : ∀ to te, PE C (.Name x pp) to → PE C e te → PE C (.Call (.Attribute (.Name x pp) "pop" apos) [e] [] cpos) (tBM C.K "list" rPopAt to (tCons te tNil)))
    (hN : C.N[i]? = some x := by rfl) (hv : Vis C.env.scope x := by first | exact Or.inl rfl | exact Or.inr (Or.inl rfl) | exact Or.inr (Or.inr rfl)) (hd : (x == ("__debug__" : Str)) = false := by decide)
    (hcd : (x == ("__classdict__" : Str)) = false := by decide) : MK C (.Call (.Attribute (.Name x pp) "pop" apos) [e] [] cpos) (mPop i p) := by
  obtain ⟨t, h1, h2⟩ := h.toB
  refine ⟨_, hb _ _ (pe_var hN hv hd hcd) h1, fun z X H0 H σ env Q k o c hp => ?_⟩
  unfold mPop at hp
  split at hp
  · rename_i xs he
    obtain ⟨a, q1, ⟨vs, q5, q6⟩, q3, q4, q7⟩ := o.own i _ he
    refine ⟨_, q1, .inl ⟨rfl, vs, SqL.of q5⟩, h2 z X H0 H σ env _ _ o (fun d v H1 e1 r1 hx => ?_) hp⟩
    cases d with
    | int n =>
      cases Is.intI r1
      obtain ⟨hn, jj, yy, g1, g2, hk⟩ := hx
      have o1 := o.go e1
      have q5' := e1.old a _ q5 q3
      have q6' := IsA.evo (fun _ q => .inl q) e1 q6
      obtain ⟨w, w1, w2⟩ := q6'.get g2
      refine ⟨a, vs, n, jj, w, rfl, rfl, q5', by omega, by omega, by rw [q6.length]; exact g1, w1, ?_⟩
      obtain ⟨o2, f2⟩ := mutL o1 he q1 q3 (q6'.eraseIdx jj)
      refine c _ _ _ _ o2 ((o.fr e1).trans f2) (fun b hb => ?_) (f2.is w2) hk
      rw [upd_ne (fun q => q4 (by rw [← q]; exact hb))]
      cases hv : H b with
      | none => exact absurd hv (o.xal b hb).1
      | some u => exact e1.old b u hv (o.xal b hb).2
    | _ => exact (show False from hx).elim
  · exact hp.elim
/-- what is locked may be written -/
theorem Ok.mutX {z : Zn} {X : AP} {H0 H : Hp} {σ : Sl} {env : List SV} (o : Ok z X H0 H σ env) {a : Addr} {u : HO} (ha : X a) (h0 : H0 a = none) (hf : NoF H a) : Ok z X H0 (upd H a u) σ env ∧ Fr z X (Ms z X σ env) H (Ms z X σ env) (upd H a u) := by
  have hz : ¬ z.Z a := (o.xal a ha).2
  have al : ∀ b, H b ≠ none → upd H a u b ≠ none := fun b hb => by
    by_cases e : b = a
    · rw [e, upd_same]; intro q; cases q
    · rw [upd_ne e]; exact hb
  have old : ∀ b v, H b = some v → ¬ Ms z X σ env b → upd H a u b = some v ∧ ¬ Ms z X σ env b := fun b v hb n => ⟨by rw [upd_ne (fun e => n (by rw [e]; exact .inr (.inl ha)))]; exact hb, n⟩
  have dk : ∀ b, z.ok H b → z.ok (upd H a u) b := fun b hb => ok_mut hz hb
  refine ⟨⟨o.len, o.evo.mut h0 hz hf, fun b hb => al b (o.zal b hb), fun b hb => ⟨al b (o.xal b hb).1, (o.xal b hb).2⟩, fun i d h => ?_, fun i d h => ?_, o.inj, o.tab.mut hz hf⟩, ⟨old, dk, al⟩⟩
  · obtain ⟨v, h1, h2⟩ := o.val i d h
    exact ⟨v, h1, h2.gen old dk⟩
  · obtain ⟨b, h1, h2, h3, h4, h5⟩ := o.own i d h
    refine ⟨b, h1, h2.gen (fun v q => ?_) old dk, h3, h4, h5⟩
    rw [upd_ne (fun e => h4 (by rw [e]; exact ha))]
    exact q
def lcM (vs : List Nat) (pg : PGt) (pm : PMX) : List SV → List D → List D → (List SV → List D → Prop) → Prop
  | env, [], acc, k => k env acc
  | env, d :: ds, acc, k => pg d env fun env1 => pm env1 fun env2 y => acc.length ≤ 100000 ∧ lcM vs pg pm (wipeE env2 vs) ds (acc ++ [y]) k
def mLc (vs : List Nat) (pi : PIt) (pg : PGt) (pm : PMX) : PMX := fun env k => pi env fun ds => noOwn env vs ∧ lcM vs pg pm (wipeE env vs) ds [] fun env' r => k env' (.lst r)
theorem re_lcM {wi : TI} {pi : PIt} {js vs : List Nat} {g : TG} {pg : PGt} {tt : TT} {te : TE} {pm : PMX} (hi : RI wi pi) (hg : RG js g pg) (hj : ∀ i ∈ js, i ∈ vs) (ht : RT tt fun _ k => k true) (he : RMK te pm) : RMX (tLc wi g tt te vs) (mLc vs pi pg pm) := fun z X H0 H σ env Q k o c hp => by
  refine hi z X H0 H σ env _ _ o (fun ds J H1 e1 yl hx => ?_) hp
  obtain ⟨hn, hx⟩ := hx
  have o1 := o.go e1
  intro Da hD
  have hzD : ¬ z.Z Da := fun q => o1.zal Da q hD
  have h0D : H0 Da = none := o1.evo.fresh hD
  have ms2 : ∀ {σ' : Sl} {env' : List SV} (b : Addr), Ms z (X.or Da) σ' env' b → Ms z X σ' env' b ∨ b = Da := fun b h => by
    rcases h with h | (h | h) | h
    · exact .inl (.inl h)
    · exact .inl (.inr (.inl h))
    · exact .inr h
    · exact .inl (.inr (.inr h))
  have ms3 : ∀ {σ' : Sl} {env' : List SV} (b : Addr), Ms z X σ' env' b → Ms z (X.or Da) σ' env' b := fun b h => by
    rcases h with h | h | h
    · exact .inl h
    · exact .inr (.inl (.inl h))
    · exact .inr (.inr h)
  have ev0 : Evo z H1 (upd H1 Da (.lst [])) := (Evo.refl _ _).new hD
  obtain ⟨ow0, sub0⟩ := (o1.lock hD ev0 (by rw [upd_same]; intro q; cases q)).wipe (vs := vs)
  refine ⟨fun i mm H' => mm = ds.length - i ∧ i ≤ ds.length ∧ ∃ envw accV accD, Ok z (X.or Da) H0 H' (L2.wipe σ vs) envw ∧ (∀ j ∈ vs, envw[j]? = none ∨ envw[j]? = some .no) ∧ Fr z X (Ms z X σ env) H1 (Ms z (X.or Da) (L2.wipe σ vs) envw) H' ∧ H' Da = some (.lst accV) ∧ IsA z (Ms z (X.or Da) (L2.wipe σ vs) envw) H' accV accD ∧ lcM vs pg pm envw (ds.drop i) accD fun e r => k e (.lst r),
    ⟨ds.length, by simp, Nat.zero_le _, wipeE env vs, [], [], ow0, fun j hj' => wipeE_in hj', ⟨fun a u q n => ⟨ev0.old a u q fun y => n (.inl y), fun y => (ms2 a (sub0 a y)).elim n (ne_of_none q hD)⟩, ev0.dk, ev0.al⟩, upd_same, .nil, by simpa using hx⟩, ?_⟩
  rintro i mm H' ⟨rfl, hil, envw, accV, accD, oL, hwp, fr, hacc, hA, hk⟩
  obtain ⟨y1, y2⟩ := yl _ _ fr
  by_cases hlt : i < ds.length
  · obtain ⟨go, y3⟩ := y2 i ds[i] (List.getElem?_eq_getElem hlt)
    rw [List.drop_eq_getElem_cons hlt] at hk
    refine .inr ⟨go, fun H2 => ∃ envw accV accD, Ok z (X.or Da) H0 H2 (L2.wipe σ vs) envw ∧ (∀ j ∈ vs, envw[j]? = none ∨ envw[j]? = some .no) ∧ Fr z X (Ms z X σ env) H1 (Ms z (X.or Da) (L2.wipe σ vs) envw) H2 ∧ H2 Da = some (.lst accV) ∧ IsA z (Ms z (X.or Da) (L2.wipe σ vs) envw) H2 accV accD ∧ lcM vs pg pm envw (ds.drop (i + 1)) accD fun e r => k e (.lst r), fun H2 h2 => ⟨ds.length - (i + 1), by omega, rfl, hlt, h2⟩, fun x H2 hy => ?_⟩
    obtain ⟨e2, is⟩ := y3 x H2 hy
    have oL2 := oL.go e2
    refine hg z (X.or Da) H0 H2 _ _ x _ _ _ oL2 (is (fun a q => .inl q) (fun b q => oL.notMs q)) (fun env3 σ3 o3 f3 kp hx3 => ⟨wipe_eq kp hj, ?_⟩) hk
    refine ht z (X.or Da) H0 H2 σ3 env3 _ (fun b => b = true ∧ pm env3 fun env2 y => accD.length ≤ 100000 ∧ lcM vs pg pm (wipeE env2 vs) (ds.drop (i + 1)) (accD ++ [y]) fun e r => k e (.lst r)) o3 (fun b H3 e3 hx4 => ?_) ⟨rfl, hx3⟩
    obtain ⟨hb, hx4⟩ := hx4
    cases b with
    | false => exact absurd hb Bool.false_ne_true
    | true =>
      rw [if_pos rfl]
      refine he z (X.or Da) H0 H3 σ3 env3 _ _ (o3.go e3) (fun r y H4 env4 o4 f4 kx is4 hx5 => ?_) hx4
      have acc4 : H4 Da = some (.lst accV) := by
        rw [kx Da (.inr rfl)]
        exact e3.old _ _ (e2.old _ _ hacc hzD) hzD
      obtain ⟨o5, f5⟩ := o4.mutX (a := Da) (u := .lst (accV ++ [y])) (.inr rfl) h0D (.lst acc4)
      obtain ⟨o6, sub6⟩ := o5.wipe (vs := vs)
      rw [wipe_eq kp hj] at o6 sub6
      have f34 : Fr z (X.or Da) (Ms z (X.or Da) (L2.wipe σ vs) envw) H' (Ms z (X.or Da) σ3 env4) H4 := (((oL.fr e2).trans f3).trans (o3.fr e3)).trans f4
      have f36 : Fr z (X.or Da) (Ms z (X.or Da) (L2.wipe σ vs) envw) H' (Ms z (X.or Da) (L2.wipe σ vs) (wipeE env4 vs)) (upd H4 Da (.lst (accV ++ [y]))) := ⟨fun a u q n => by
        obtain ⟨q1, n1⟩ := f34.old a u q n
        obtain ⟨q2, n2⟩ := f5.old a u q1 n1
        exact ⟨q2, fun w => n2 (sub6 a w)⟩, fun a q => f5.dk a (f34.dk a q), fun a q => f5.al a (f34.al a q)⟩
      refine ⟨accV, acc4, by rw [hA.length]; exact szl hx5.1, wipeE env4 vs, accV ++ [y], accD ++ [r], o6, fun j hj' => wipeE_in hj', ⟨fun a u q n => f36.old a u (fr.old a u q n).1 (fr.old a u q n).2, fun a q => f36.dk a (fr.dk a q), fun a q => f36.al a (fr.al a q)⟩, upd_same, ?_, hx5.2⟩
      refine (f36.isA hA).append (.cons ?_ .nil)
      exact (f5.is is4).weak sub6
  · have ei : i = ds.length := by omega
    subst ei
    rw [List.drop_length] at hk
    have ow : ∀ {j : Nat} {d : SV}, envw[j]? = some d → d ≠ .no → j ∉ vs := fun {j d} h n hv => by
      rcases hwp j hv with q | q
      · rw [q] at h; cases h
      · rw [q] at h; cases h; exact n rfl
    have msb : ∀ b, Ms z X σ envw b → Ms z (X.or Da) (L2.wipe σ vs) envw b := fun b h => by
      rcases h with h | h | ⟨j, d, h1, h2⟩
      · exact .inl h
      · exact .inr (.inl (.inl h))
      · exact .inr (.inr ⟨j, d, h1, by rw [wipe_out' (ow h1 (fun q => by cases q))]; exact h2⟩)
    have oF : Ok z X H0 H' σ envw := by
      refine ⟨?_, oL.evo, oL.zal, fun a h => oL.xal a (.inl h), fun j d h => ?_, fun j d h => ?_, fun j j' a d e h h' q q' => ?_, oL.tab⟩
      · have := oL.len
        rwa [wipe_length] at this
      · obtain ⟨v, h1, h2⟩ := oL.val j d h
        rw [wipe_out' (ow h (fun q => by cases q))] at h1
        exact ⟨v, h1, h2.weak msb⟩
      · obtain ⟨a, h1, h2, h3, h4, h5⟩ := oL.own j d h
        rw [wipe_out' (ow h (fun q => by cases q))] at h1
        exact ⟨a, h1, h2.gen (fun _ q => q) (fun b u q n => ⟨q, fun w => n (msb b w)⟩) (fun _ q => q), h3, fun q => h4 (.inl q), h5⟩
      · exact oL.inj j j' a d e h h' (by rw [wipe_out' (ow h (fun q => by cases q))]; exact q) (by rw [wipe_out' (ow h' (fun q => by cases q))]; exact q')
    have nD : ¬ Ms z X σ envw Da := fun w => by
      rcases w with w | w | ⟨j, d, h1, h2⟩
      · exact hzD w
      · exact (o1.xal Da w).1 hD
      · obtain ⟨a, q1, q2, q3, q4, q5⟩ := oL.own j d h1
        rw [wipe_out' (ow h1 (fun q => by cases q)), h2] at q1
        cases q1
        exact q4 (.inr rfl)
    refine .inl ⟨y1, c (.lst accD) (.ref Da) H' envw oF ⟨fun a u q n => ?_, fun a q => fr.dk a (e1.dk a q), fun a q => fr.al a (e1.al a q)⟩ (.lst hacc nD (hA.weak msb)) hk⟩
    obtain ⟨q1, n1⟩ := fr.old a u (e1.old a u q fun y => n (.inl y)) n
    exact ⟨q1, fun w => n1 (msb a w)⟩
def tMK (p : PMX) : TE := fun σ H Q => ∃ (z : Zn) (X : AP) (H0 : Hp) (env : List SV) (k : List SV → D → Prop), Ok z X H0 H σ env ∧ (∀ d v H' env', Ok z X H0 H' σ env' → Fr z X (Ms z X σ env) H (Ms z X σ env') H' → (∀ b, X b → H' b = H b) → Is z (Ms z X σ env') H' v d → k env' d → Q v H') ∧ p env k
theorem MK.pe {C : Cx} {e : Expr} {p : PMX} (h : MK C e p) : PE C e (tMK p) := by
  obtain ⟨t, h1, h2⟩ := h
  exact ⟨fun pins s σ H Q I ⟨z, X, H0, env, k, o, c, hp⟩ => h1.run pins s σ H Q I (h2 z X H0 H σ env Q k o c hp)⟩
theorem rmk_tMK {p : PMX} : RMK (tMK p) p := fun z X H0 H σ env Q k o c hp => ⟨z, X, H0, env, k, o, c, hp⟩
section
variable {C : Cx} {fr : Bool} {tg iter elt : Expr} {pi : PIt} {js : List Nat} {g : TG} {pg : PGt} {pm : PMX} {scope : Scope} {own : List (Str × Nat)} {pos : Pos}
theorem s_setLcM {i : Nat} {y : Str} {py spos : Pos} (hi : I C tg iter pi) (hg : ∀ (s : Shared) (H : Hp) (Ca : Addr) (cl : List (Str × Addr)) (fp : List Addr), G (C.blk s H scope (compEnvC scope cl Ca C.env) fp) tg js g pg)
    (he : ∀ (s : Shared) (H : Hp) (Ca : Addr) (cl : List (Str × Addr)) (fp : List Addr), MK (C.blk s H scope (compEnvC scope cl Ca C.env) fp) elt pm) (hc : C.calm = true) (hN : C.N.Nodup) (hy : C.N[i]? = some y) (hyl : C.env.scope.names.lookup y = some .local)
    (hsw : swapsWith (.ListComp elt [⟨tg, iter, [], 0⟩] scope pos) (some (.Name y py)) spos.line C.env = pure true) (ok : BlkOk C.N C.env.scope scope own) (hj : ∀ i ∈ js, i ∈ own.map (·.2)) (rg : RG js g pg) (hs : ∀ x, foldedSetIterable iter C.env x = pure x := by intro _; rfl) :
    S fr C (.Assign [.Name y py] (.ListComp elt [⟨tg, iter, [], 0⟩] scope pos) spos) (sSetM i (mLc (own.map (·.2)) pi pg pm)) := by
  refine ⟨_, ps_setLc hc hN hy hyl hsw hi.pi ok (fun s H Ca cl fp => (hg s H Ca cl fp).pg) (fun s H Ca cl fp => (ts_nil (C := C.blk s H scope (compEnvC scope cl Ca C.env) fp)).ex) (fun s H Ca cl fp => (he s H Ca cl fp).pe) hs, fun z X H0 H σ env G k o s hp => re_lcM ri_tP rg hj rt_tP rmk_tMK z X H0 H σ env _ _ o (fun d v H1 env1 o1 f1 r1 hx => ?_) hp⟩
  obtain ⟨o2, f2⟩ := o1.set (i := i) r1
  exact s.nx _ _ H1 o2 (f1.trans f2) hx
end
/-! d.get(k, e), a dict by whole numbers -/
theorem mLc_i {vs : List Nat} {pi : PIt} {pg : PGt} {pm : PMX} {env : List SV} {k : List SV → D → Prop} (h : pi env fun ds => noOwn env vs ∧ lcM vs pg pm (wipeE env vs) ds [] fun env' r => k env' (.lst r)) : mLc vs pi pg pm env k := h
/-- by an invariant -/
theorem lcM_i {vs : List Nat} {pg : PGt} {pm : PMX} {k : List SV → List D → Prop} (Inv : Nat → List SV → List D → Prop) : ∀ (ds : List D) (n : Nat) {env : List SV} {acc : List D}, Inv n env acc →
    (∀ (i : Nat) (d : D) (env : List SV) (acc : List D), ds[i]? = some d → Inv (n + i) env acc → ∀ A : List SV → D → Prop, (∀ env2 y, acc.length ≤ 100000 ∧ Inv (n + i + 1) (wipeE env2 vs) (acc ++ [y]) → A env2 y) → pg d env fun env1 => pm env1 A) →
    (∀ env acc, Inv (n + ds.length) env acc → k env acc) → lcM vs pg pm env ds acc k
  | [], n, env, acc, h0, _, hk => hk env acc h0
  | d :: ds, n, env, acc, h0, hs, hk => by
    unfold lcM
    refine hs 0 d env acc rfl h0 _ fun env2 y h => ⟨h.1, lcM_i Inv ds (n + 1) h.2 (fun i d' env' acc' hd hI => ?_) fun env' acc' hI => hk env' acc' ?_⟩
    · have := hs (i + 1) d' env' acc' hd (by rw [show n + (i + 1) = n + 1 + i by omega]; exact hI)
      rw [show n + (i + 1) = n + 1 + i by omega] at this
      exact this
    · rw [List.length_cons, show n + (ds.length + 1) = n + 1 + ds.length by omega]
      exact hI
end Pu
/-! == and != with an empty list or tuple, whatever the other one holds -/
namespace Pu
open PySem PySem.Spec PyProof.Rows L2
end Pu
/-! sets of whole numbers of a def's own: set(), in, add -/
namespace Pu
open PySem PySem.Spec PyProof.Rows L2
end Pu
/-! x.extend(a tuple), range(i, j, -1) -/
namespace Pu
open PySem PySem.Spec PyProof.Rows L2
/-! range(i, j, -1) -/
end Pu
namespace Pu
open PySem PySem.Spec PyProof.Rows L2
variable [Tbs]
/-! ### a list that a def borrows and changes in place -/
def zb (z : Zn) (o : Option Addr) : Zn := { z with bo := o }
/-! ### calls that lend a list -/
end Pu
namespace Pu
open PySem PySem.Spec PyProof.Rows L2
variable [Tbs]
/-! ### sorted(xs), xs a list of tuples of whole numbers -/
abbrev rf (p : Addr × List Int) : V := V.ref p.1
end Pu
namespace Pu
open PySem PySem.Spec PyProof.Rows L2
/-! ### statements that raise: p env says that they do -/
/-! ### a def that raises -/
/-! ### isinstance of what an except clause holds, a tuple of classes -/
end Pu
namespace Pu
open PySem PySem.Spec PyProof.Rows L2
variable [Tbs]
section
variable {C : Cx} {z : Zn} {X : AP} {H0 H H' : Hp} {σ : Sl} {env : List SV}
/-! ### isinstance(e, ..), e what the clause holds, at a -/
def TB (p : Sl → Prop) (t : TE) (b : Bool) : Prop := ∀ (z : Zn) (σ : Sl) (H : Hp) (Q : VK), p σ → (∀ H', Evo z H H' → Q (.bl b) H') → t σ H Q
theorem TB.and {p : Sl → Prop} {t u : TE} {x y : Bool} (h : TB p t x) (g : TB p u y) : TB p (tAndV t u) (x && y) := fun z σ H Q hp c => by
  refine h z σ H _ hp fun H1 e1 => ⟨x, rfl, ?_⟩
  cases x with
  | true => exact g z σ H1 Q hp fun H2 e2 => c H2 (e1.trans e2)
  | false => exact c H1 e1
theorem TB.imp {p q : Sl → Prop} {t : TE} {b : Bool} (h : TB p t b) (i : ∀ σ, q σ → p σ) : TB q t b := fun z σ H Q hp c => h z σ H Q (i σ hp) c
theorem TB.snd {p q : Sl → Prop} {t : TE} {b : Bool} (h : TB q t b) : TB (fun σ => p σ ∧ q σ) t b := fun z σ H Q hp c => h z σ H Q hp.2 c
end
end Pu
namespace Pu
open PySem PySem.Spec PyProof.Rows L2
end Pu
/-! a try whose body may raise: either the body's plain reading (s_tryN), or the raising one (PuXr's s_try), joined by s_or -/
namespace Pu
open PySem PySem.Spec PyProof.Rows L2
variable [Tbs]
section
variable {C : Cx} {fr : Bool} {st : Stmt} {p q : PSt}
/-- what a reading says of itself -/
def tSelf (fr : Bool) (p : PSt) : TS := fun G σ H => ∃ (z : Zn) (X : AP) (H0 : Hp) (env : List SV) (k : PK'), Ok z X H0 H σ env ∧ Sim fr z X H0 (Ms z X σ env) H G k ∧ p env k
theorem B.self {body : List Stmt} (h : B fr C body p) : PSs C body (tSelf fr p) := by
  obtain ⟨t, h1, h2⟩ := h
  exact ⟨fun pins s σ H D I ⟨z, X, H0, env, k, o, sm, hp⟩ => h1.run pins s σ H D I (h2 z X H0 H σ env D k o sm hp)⟩
end
end Pu
/-! an exception class over classes over ValueError whose __init__ says super().__init__(a text) and keeps two fields -/
/-! what raises, told with the exception: its class, its two fields where it has them -/
namespace Pu
open PySem PySem.Spec PyProof.Rows L2
/-! ### a def that raises -/
end Pu
/-! isinstance of an exception that keeps fields -/
namespace Pu
open PySem PySem.Spec PyProof.Rows L2
variable [Tbs]
/-! ### the try: what may be raised, each class with its own reading of the suite -/
abbrev Alt := Nat × (Addr → Option Addr → PSt)
/-- each class that may be raised: the clause takes it, its suite is read -/
inductive AltOk (C : Cx) (fr : Bool) (c : Value) (st : List Stmt) : List Alt → Prop
  | nil : AltOk C fr c st []
  | cons {n : Nat} {D : Addr} {r : Addr → Option Addr → PSt} {al : List Alt} (hcv : Tbs.cv n = .ref D) (hm : PySem.W.exmOne C.K (.ref D) c = some true)
      (hsu : ∀ (a : Addr) (oe : Obj) (d : Option Addr) (pn : List (Addr × Obj)), Zc (.ref D) d oe → (∃ vs, oe.data = .fields vs) → B fr (C.suite a ((a, oe) :: pn)) st (r a d)) (h : AltOk C fr c st al) : AltOk C fr c st ((n, r) :: al)
theorem AltOk.at {C : Cx} {fr : Bool} {c : Value} {st : List Stmt} {al : List Alt} (h : AltOk C fr c st al) : ∀ l ∈ al, PySem.W.exmOne C.K (Tbs.cv l.1) c = some true ∧ ∀ (a : Addr) (oe : Obj) (d : Option Addr) (pn : List (Addr × Obj)), Zc (Tbs.cv l.1) d oe → (∃ vs, oe.data = .fields vs) → B fr (C.suite a ((a, oe) :: pn)) st (l.2 a d) := by
  induction h with
  | nil => intro l hl; cases hl
  | cons hcv hm hsu _ ih =>
    intro l hl
    rcases List.mem_cons.mp hl with e | e
    · subst e
      dsimp only
      rw [hcv]
      exact ⟨hm, hsu⟩
    · exact ih l e
end Pu
set_option maxHeartbeats 1000000
/-! all(.. for .. in .. if .. for .. in .. if ..), any(..): two clauses -/
namespace GnX
open PySem PySem.Spec PyProof.Rows L2 GenW GxR
end GnX
namespace Pu
open PySem PySem.Spec PyProof.Rows L2
variable [Tbs]
open GnX GxR
/-! ### readings -/
/-! a comprehension over an owned list into a plain name -/
section
variable {C : Cx} {fr : Bool} {tg elt : Expr} {ifs : List Expr} {js : List Nat} {g : TG} {pg : PGt} {pt : PTs'} {pe : PX} {scope : Scope} {own : List (Str × Nat)} {pos pq : Pos}
theorem s_setLcO {i q : Nat} {x y : Str} {py spos : Pos} (hg : ∀ (s : Shared) (H : Hp) (Ca : Addr) (cl : List (Str × Addr)) (fp : List Addr), G (C.blk s H scope (compEnvC scope cl Ca C.env) fp) tg js g pg) (ht : ∀ (s : Shared) (H : Hp) (Ca : Addr) (cl : List (Str × Addr)) (fp : List Addr), Ts (C.blk s H scope (compEnvC scope cl Ca C.env) fp) ifs pt)
    (he : ∀ (s : Shared) (H : Hp) (Ca : Addr) (cl : List (Str × Addr)) (fp : List Addr), E .e (C.blk s H scope (compEnvC scope cl Ca C.env) fp) elt pe) (hc : C.calm = true) (hN : C.N.Nodup) (hy : C.N[i]? = some y) (hyl : C.env.scope.names.lookup y = some .local)
    (hsw : swapsWith (.ListComp elt [⟨tg, .Name x pq, ifs, 0⟩] scope pos) (some (.Name y py)) spos.line C.env = pure true) (ok : BlkOk C.N C.env.scope scope own) (hj : ∀ i ∈ js, i ∈ own.map (·.2)) (rg : RG js g pg) (hs : ∀ v, foldedSetIterable (.Name x pq) C.env v = pure v := by intro _; rfl)
    (hNq : C.N[q]? = some x := by rfl) (hv : Vis C.env.scope x := by first | exact Or.inl rfl | exact Or.inr (Or.inl rfl) | exact Or.inr (Or.inr rfl)) (hd : (x == ("__debug__" : Str)) = false := by decide) (hcd : (x == ("__classdict__" : Str)) = false := by decide) :
    S fr C (.Assign [.Name y py] (.ListComp elt [⟨tg, .Name x pq, ifs, 0⟩] scope pos) spos) (sSet i (eLcO q (own.map (·.2)) pg pt pe)) :=
  ⟨_, ps_setLc hc hN hy hyl hsw (pi_list (pe_var hNq hv hd hcd)) ok (fun s H Ca cl fp => (hg s H Ca cl fp).pg) (fun s H Ca cl fp => (ht s H Ca cl fp).ex) (fun s H Ca cl fp => (he s H Ca cl fp).pe) hs, rs_set (RE.fe' (re_lcO rg hj rt_tP re_tP))⟩
end
end Pu
/-!
x in a tuple or list of texts; x in a list of anything plain
-/
namespace Pu
open PySem PySem.Spec PyProof.Rows L2
end Pu
namespace Pu
open PySem PySem.Spec PyProof.Rows L2
variable [Tbs]
/-! ### draws that are counted: a reading's cost n says how many draws it makes at most; the zone says how many there were -/
def lim : Nat := 4611686018427387904
def Zn.at (z : Zn) (c : Nat) : Zn := { z with ct := c }
/-- the deck stands, with its count -/
def Zn.live (z : Zn) (H : Hp) : Prop := z.ok H z.dk
structure EvoC (z : Zn) (c : Nat) (H H' : Hp) : Prop where
  old : ∀ a o, H a = some o → ¬ z.Z a → H' a = some o
  al : ∀ a, H a ≠ none → H' a ≠ none
  tab : Tabs H → Tabs H'
  live : (z.at c).live H'
section
variable {z : Zn} {c c' : Nat} {X : AP} {H0 H H1 H2 H' : Hp} {σ σ' : Sl} {env env' : List SV} {M M' : AP} {m : Mode} {v : V} {d : D}
theorem Evo.toC (e : Evo z H H') (l : z.live H) : EvoC z z.ct H H' := ⟨e.old, e.al, e.tab, e.dk _ l⟩
theorem EvoC.trans (a : EvoC z c H H1) (b : EvoC (z.at c) c' H1 H2) : EvoC z c' H H2 := ⟨fun x o h n => b.old x o (a.old x o h n) n, fun x h => b.al x (a.al x h), fun h => b.tab (a.tab h), b.live⟩
theorem EvoC.evo (a : EvoC z c H H') : Evo (z.at c) H H' := ⟨a.old, a.al, fun b h => by obtain rfl : b = (z.at c).dk := h.1; exact a.live, a.tab⟩
theorem EvoC.ok (a : EvoC z c H H') : ∀ b, z.ok H b → (z.at c).ok H' b := fun b h => by obtain rfl : b = (z.at c).dk := h.1; exact a.live
theorem EvoC.fresh (a : EvoC z c H H1) {p : Addr} (h : H1 p = none) : H p = none := a.evo.fresh h
mutual
theorem Is.at (h1 : ∀ a o, H a = some o → ¬ M a → H' a = some o ∧ ¬ M' a) (h2 : ∀ a, z.ok H a → (z.at c).ok H' a) : ∀ {v : V} {d : D}, Is z M H v d → Is (z.at c) M' H' v d
  | _, _, .non => .non
  | _, _, .bl b => .bl b
  | _, _, .int i => .int i
  | _, _, .str s => .str s
  | _, _, .ty n => .ty n
  | _, _, .tup e n r => .tup (h1 _ _ e n).1 (h1 _ _ e n).2 (IsA.at h1 h2 r)
  | _, _, .lst e n r => .lst (h1 _ _ e n).1 (h1 _ _ e n).2 (IsA.at h1 h2 r)
  | _, _, .dic e n r => .dic (h1 _ _ e n).1 (h1 _ _ e n).2 (IsK.at h1 h2 r)
  | _, _, .deck e => .deck (z := z.at c) (h2 _ e)
  | _, _, .dpr e n => .dpr (h1 _ _ e n).1 (h1 _ _ e n).2
  | _, _, .dfz e n => .dfz (h1 _ _ e n).1 (h1 _ _ e n).2
  | _, _, .st e l n => .st (h1 _ _ e n).1 l (h1 _ _ e n).2
  | _, _, .bor e n r => .bor (h1 _ _ e n).1 (h1 _ _ e n).2 (IsA.at h1 h2 r)
  | _, _, .opq v => .opq v
  | _, _, .xf v e n => .xf v (h1 _ _ e n).1 (h1 _ _ e n).2
  | _, _, .dpd e n q r => .dpd (h1 _ _ e n).1 (h1 _ _ e n).2 q (IsA.at h1 h2 r)
theorem IsA.at (h1 : ∀ a o, H a = some o → ¬ M a → H' a = some o ∧ ¬ M' a) (h2 : ∀ a, z.ok H a → (z.at c).ok H' a) : ∀ {v : List V} {d : List D}, IsA z M H v d → IsA (z.at c) M' H' v d
  | _, _, .nil => .nil
  | _, _, .cons h t => .cons (Is.at h1 h2 h) (IsA.at h1 h2 t)
theorem IsK.at (h1 : ∀ a o, H a = some o → ¬ M a → H' a = some o ∧ ¬ M' a) (h2 : ∀ a, z.ok H a → (z.at c).ok H' a) : ∀ {v : List (Key × V)} {d : List (Key × D)}, IsK z M H v d → IsK (z.at c) M' H' v d
  | _, _, .nil => .nil
  | _, _, .cons h t => .cons (Is.at h1 h2 h) (IsK.at h1 h2 t)
end
theorem Con.at {a : Addr} (ha : ∀ o, H a = Option.some o → H' a = Option.some o) (h1 : ∀ a o, H a = Option.some o → ¬ M a → H' a = Option.some o ∧ ¬ M' a) (h2 : ∀ a, z.ok H a → (z.at c).ok H' a) (h : Con z M H a d) : Con (z.at c) M' H' a d := by
  cases d with
  | tup ds => obtain ⟨vs, e, r⟩ := h; exact ⟨vs, ha _ e, r.at h1 h2⟩
  | lst ds => obtain ⟨vs, e, r⟩ := h; exact ⟨vs, ha _ e, r.at h1 h2⟩
  | dic ds => obtain ⟨vs, e, r⟩ := h; exact ⟨vs, ha _ e, r.at h1 h2⟩
  | dpr ds => exact ha _ h
  | dpd ds => obtain ⟨vs, e, q, r⟩ := h; exact ⟨vs, ha _ e, q, r.at h1 h2⟩
  | st ns => obtain ⟨n, e, l⟩ := h; exact ⟨n, ha _ e, l⟩
  | bor ds => obtain ⟨w, vs, e, r⟩ := h; exact ⟨w, vs, ha _ e, r.at h1 h2⟩
  | _ => exact h.elim
end
/-! ### expressions -/
def REc (n : Nat) (m : Mode) (t : TE) (p : PX) : Prop := ∀ (z : Zn) (X : AP) (H0 H : Hp) (σ : Sl) (env : List SV) (Q : VK) (k : D → Prop), Ok z X H0 H σ env → z.live H → z.ct + n ≤ lim →
  (∀ c d v H', c ≤ z.ct + n → EvoC z c H H' → Rel m (z.at c) X H H' σ env v d → k d → Q v H') → p env k → t σ H Q
def RTc (n : Nat) (t : TT) (p : PTs') : Prop := ∀ (z : Zn) (X : AP) (H0 H : Hp) (σ : Sl) (env : List SV) (Q : Bool → Hp → Prop) (k : Bool → Prop), Ok z X H0 H σ env → z.live H → z.ct + n ≤ lim →
  (∀ c b H', c ≤ z.ct + n → EvoC z c H H' → k b → Q b H') → p env k → t σ H Q
def RAc (n : Nat) (l : Bool) (t : TA) (p : PAs) : Prop := ∀ (z : Zn) (X : AP) (H0 H : Hp) (σ : Sl) (env : List SV) (Q : List V → Hp → Prop) (k : List D → Prop), Ok z X H0 H σ env → z.live H → z.ct + n ≤ lim →
  (∀ c ds vs H', c ≤ z.ct + n → EvoC z c H H' → IsA (z.at c) (if l = true then Ms z X σ env else Zx z X) H' vs ds → k ds → Q vs H') → p env k → t σ H Q
structure Ec (n : Nat) (m : Mode) (C : Cx) (e : Expr) (p : PX) : Prop where
  ex : ∃ t, PE C e t ∧ REc n m t p
structure Tc (n : Nat) (C : Cx) (e : Expr) (p : PTs') : Prop where
  ex : ∃ t, PT C e t ∧ RTc n t p
section
variable {C : Cx} {e a b : Expr} {es : List Expr} {p q : PX} {g : PAs} {m m' : Mode} {pos pp : Pos} {n na nb : Nat} {x : Str}
theorem RE.toC {t : TE} (h : RE m t p) : REc 0 m t p := fun z X H0 H σ env Q k o l _ c hp => h z X H0 H σ env Q k o (fun d v H' ev r kd => c z.ct d v H' (Nat.le_refl _) (ev.toC l) r kd) hp
theorem RT.toC {t : TT} {p : PTs'} (h : RT t p) : RTc 0 t p := fun z X H0 H σ env Q k o l _ c hp => h z X H0 H σ env Q k o (fun b H' ev kd => c z.ct b H' (Nat.le_refl _) (ev.toC l) kd) hp
theorem RA.toC {l : Bool} {t : TA} {p : PAs} (h : RA l t p) : RAc 0 l t p := fun z X H0 H σ env Q k o lv _ c hp => h z X H0 H σ env Q k o (fun ds vs H' ev r kd => c z.ct ds vs H' (Nat.le_refl _) (ev.toC lv) r kd) hp
theorem E.cd (h : E m C e p) : Ec 0 m C e p := let ⟨t, h1, h2⟩ := h; ⟨t, h1, h2.toC⟩
theorem T.cd {p : PTs'} (h : T C e p) : Tc 0 C e p := let ⟨t, h1, h2⟩ := h; ⟨t, h1, h2.toC⟩
theorem Rel.toBC {z : Zn} {c : Nat} {X : AP} {H0 H H' : Hp} {σ : Sl} {env : List SV} {v : V} {d : D} (k : Ok z X H0 H σ env) (h : Rel m (z.at c) X H H' σ env v d) : Rel .b (z.at c) X H H' σ env v d := by
  cases m with
  | f =>
    obtain ⟨a, rfl, hn, hc⟩ := h
    exact Rel.eb ((hc.gen (fun _ q => q) (fun b o q n => ⟨q, fun x => n x.orL⟩) fun _ h => h).is (k.notMs hn))
  | e => exact h.eb
  | c => exact h.cb
  | b => exact h
theorem Ec.toB (h : Ec n m C e p) : Ec n .b C e p := by
  obtain ⟨t, h1, h2⟩ := h
  exact ⟨t, h1, fun z X H0 H σ env Q k o l w c hp => h2 z X H0 H σ env Q k o l w (fun c' d v H' hc ev r kd => c c' d v H' hc ev (r.toBC o) kd) hp⟩
theorem Rel.feC {z : Zn} {c : Nat} {X : AP} {H0 H H' : Hp} {σ : Sl} {env : List SV} {v : V} {d : D} (k : Ok z X H0 H σ env) (h : Rel .f (z.at c) X H H' σ env v d) : Rel .e (z.at c) X H H' σ env v d := by
  obtain ⟨a, rfl, hn, hc⟩ := h
  exact (hc.gen (fun _ q => q) (fun b o q n => ⟨q, fun x => n x.orL⟩) fun _ h => h).is (k.notMs hn)
theorem Ec.fe (h : Ec n .f C e p) : Ec n .e C e p := by
  obtain ⟨t, h1, h2⟩ := h
  exact ⟨t, h1, fun z X H0 H σ env Q k o l w c hp => h2 z X H0 H σ env Q k o l w (fun c' d v H' hc ev r kd => c c' d v H' hc ev (r.feC o) kd) hp⟩
theorem Ec.ec (h : Ec n .e C e p) : Ec n .c C e p := by
  obtain ⟨t, h1, h2⟩ := h
  exact ⟨t, h1, fun z X H0 H σ env Q k o l w c hp => h2 z X H0 H σ env Q k o l w (fun c' d v H' hc ev r kd => c c' d v H' hc ev r.ec kd) hp⟩
end
end Pu
namespace Pu
open PySem PySem.Spec PyProof.Rows L2
variable [Tbs]
section
variable {C : Cx} {e a b : Expr} {es : List Expr} {p q pe : PX} {g : PAs} {m mo : Mode} {pos pp : Pos} {n na nb cost k : Nat} {x : Str} {l : Bool}
/-! ### arguments, displays -/
/-! ### calls -/
/-! ### tests -/
theorem RTc.of {t : TE} (h : REc n .b t p) : RTc n (tTest t) (tOf p) := fun z X H0 H σ env Q k o lv w c hp => by
  refine h z X H0 H σ env _ _ o lv w (fun c1 d v H' hc e r hd => ?_) hp
  cases d with
  | bl b =>
    cases (show Is (z.at c1) _ H' v (.bl b) from r)
    exact ⟨b, rfl, c c1 b H' hc e hd⟩
  | _ => exact (show False from hd).elim
variable {rest : List Expr} {tp tq : PTs'}
end
/-! ### statements -/
structure FrC (z : Zn) (c : Nat) (X : AP) (M : AP) (H : Hp) (M' : AP) (H' : Hp) : Prop where
  old : ∀ a o, H a = some o → ¬ M a → H' a = some o ∧ ¬ M' a
  al : ∀ a, H a ≠ none → H' a ≠ none
  live : (z.at c).live H'
section
variable {z : Zn} {c c' : Nat} {X : AP} {H0 H H' H1 H2 : Hp} {σ σ' : Sl} {env env' : List SV} {M M1 M2 M' : AP} {v : V} {d : D}
theorem FrC.ok (f : FrC z c X M H M' H') : ∀ a, z.ok H a → (z.at c).ok H' a := fun b h => by obtain rfl : b = (z.at c).dk := h.1; exact f.live
theorem FrC.is (f : FrC z c X M H M' H') (h : Is z M H v d) : Is (z.at c) M' H' v d := h.at f.old f.ok
theorem FrC.isA {vs : List V} {ds : List D} (f : FrC z c X M H M' H') (h : IsA z M H vs ds) : IsA (z.at c) M' H' vs ds := h.at f.old f.ok
theorem FrC.trans (a : FrC z c X M H M1 H1) (b : FrC (z.at c) c' X M1 H1 M2 H2) : FrC z c' X M H M2 H2 := ⟨fun x o h n => b.old x o (a.old x o h n).1 (a.old x o h n).2, fun x h => b.al x (a.al x h), b.live⟩
theorem Fr.toC (f : Fr z X M H M' H') (l : z.live H) : FrC z z.ct X M H M' H' := ⟨f.old, f.al, f.dk _ l⟩
end
structure SimC (A B : Nat) (fr : Bool) (z : Zn) (X : AP) (H0 : Hp) (M : AP) (H : Hp) (G : Ends) (k : PK') : Prop where
  nx : ∀ c env' σ' H', c ≤ A → Ok (z.at c) X H0 H' σ' env' → FrC z c X M H (Ms z X σ' env') H' → k.nx env' → G.nx σ' H'
  rt : ∀ c d v H', c ≤ B → Evo (z.at c) H0 H' → (z.at c).live H' → Is (z.at c) (Zx z X) H' v d → (fr = true → ∃ a, v = .ref a ∧ H0 a = none ∧ Con (z.at c) (Zx z (X.or a)) H' a d) → k.rt d → G.rt v H'
  bk : ∀ c env' σ' H', c ≤ B → Ok (z.at c) X H0 H' σ' env' → FrC z c X M H (Ms z X σ' env') H' → k.bk env' → G.bk σ' H'
  ct : ∀ c env' σ' H', c ≤ B → Ok (z.at c) X H0 H' σ' env' → FrC z c X M H (Ms z X σ' env') H' → k.ct env' → G.ct σ' H'
theorem SimC.go {A B : Nat} {fr : Bool} {z : Zn} {c : Nat} {X : AP} {H0 : Hp} {M M1 : AP} {H H1 : Hp} {G : Ends} {k : PK'} (s : SimC A B fr z X H0 M H G k) (f : FrC z c X M H M1 H1) : SimC A B fr (z.at c) X H0 M1 H1 G k :=
  ⟨fun c' e σ H' h o g hk => s.nx c' e σ H' h o (f.trans g) hk, s.rt, fun c' e σ H' h o g hk => s.bk c' e σ H' h o (f.trans g) hk, fun c' e σ H' h o g hk => s.ct c' e σ H' h o (f.trans g) hk⟩
def RSc (n : Nat) (fr : Bool) (t : TS) (p : PSt) : Prop := ∀ (z : Zn) (X : AP) (H0 H : Hp) (σ : Sl) (env : List SV) (G : Ends) (k : PK') (B : Nat), Ok z X H0 H σ env → z.live H → z.ct + n ≤ B → B ≤ lim → SimC (z.ct + n) B fr z X H0 (Ms z X σ env) H G k → p env k → t G σ H
structure Sc (n : Nat) (fr : Bool) (C : Cx) (st : Stmt) (p : PSt) : Prop where
  ex : ∃ t, PS C st t ∧ RSc n fr t p
structure Bc (n : Nat) (fr : Bool) (C : Cx) (st : List Stmt) (p : PSt) : Prop where
  ex : ∃ t, PSs C st t ∧ RSc n fr t p
section
variable {C : Cx} {fr : Bool} {st : Stmt} {rest : List Stmt} {p q : PSt} {e : Expr} {pe : PX} {m : Mode} {pos pp : Pos} {n na nb : Nat} {x : Str}
/-- a plain statement that only goes on -/
theorem S.cd (h : S fr C st p) (hn : ∀ env k, p env k → p env { nx := k.nx, rt := fun _ => False, bk := fun _ => False, ct := fun _ => False, re := fun _ _ => False } := by exact fun _ _ h => h) : Sc 0 fr C st p := by
  obtain ⟨t, h1, h2⟩ := h
  refine ⟨t, h1, fun z X H0 H σ env G k B o lv w wl s hp => h2 z X H0 H σ env G { nx := k.nx, rt := fun _ => False, bk := fun _ => False, ct := fun _ => False, re := fun _ _ => False } o ⟨fun env' σ' H' o' f' hk => s.nx z.ct env' σ' H' (Nat.le_refl _) o' (f'.toC lv) hk, fun _ _ _ _ _ _ h => h.elim, fun _ _ _ _ _ h => h.elim, fun _ _ _ _ _ h => h.elim, fun _ _ _ _ _ _ _ h => h.elim⟩ (hn _ _ hp)⟩
end
end Pu
namespace Pu
open PySem PySem.Spec PyProof.Rows L2
variable [Tbs]
/-! ### loops -/
/-! ### defs that draw, the law -/
def tPSc (n : Nat) (fr : Bool) (p : PSt) : TS := fun G σ H => ∃ z X H0 env k B, Ok z X H0 H σ env ∧ z.live H ∧ z.ct + n ≤ B ∧ B ≤ lim ∧ SimC (z.ct + n) B fr z X H0 (Ms z X σ env) H G k ∧ p env k
theorem Bc.pss {n : Nat} {fr : Bool} {C : Cx} {sts : List Stmt} {p : PSt} (h : Bc n fr C sts p) : PSs C sts (tPSc n fr p) := by
  obtain ⟨t, h1, h2⟩ := h
  exact ⟨fun pins s σ H G I ⟨z, X, H0, env, k, B, o, lv, w, wl, c, hp⟩ => h1.run pins s σ H G I (h2 z X H0 H σ env G k B o lv w wl c hp)⟩
end Pu
namespace Pu
open PySem PySem.Spec PyProof.Rows L2
end Pu
namespace Pu
open PySem PySem.Spec PyProof.Rows L2
/-! ### comprehensions whose element draws -/
end Pu
namespace Pu
open PySem PySem.Spec PyProof.Rows L2
/-! ### a while without draws, in a def that draws -/
end Pu
namespace Pu
open PySem PySem.Spec PyProof.Rows L2
/-! ### dicts by whole numbers that are walked: changed no more, their object known -/
/-! a sum of two lists, a new one of one's own -/
/-! readings -/
end Pu
/-! dict comprehensions: keys whole numbers, or tuples of them -/
namespace DcG
open PySem PySem.Spec PyProof.Rows L2
end DcG
/-! tables: bits of numbers, dicts by tuples of any length, copies of dicts -/
namespace Pu
open PySem PySem.Spec PyProof.Rows L2
end Pu
/-! dicts by tuples of whole numbers, of anything (D.dpd) -/
namespace Pu
open PySem PySem.Spec PyProof.Rows L2
variable [Tbs]
def valX (ds : List (List Int × D)) (k : List Int) : Option D := (ds.find? fun q => decide (q.1 = k)).map (·.2)
def putX (ds : List (List Int × D)) (k : List Int) (d : D) : List (List Int × D) :=
  if (ds.any fun q => decide (q.1 = k)) = true then ds.map (fun q => if q.1 = k then (q.1, d) else q) else ds ++ [(k, d)]
abbrev inK' (ns : List Int) : List Key := ns.map (Sum.inl : Int → Key)
theorem inK_inj {a b : List Int} : inK' a = inK' b ↔ a = b := List.map_inj_right (fun _ _ w => Sum.inl.inj w)
section
variable {z : Zn} {M : AP} {H : Hp}
inductive KDR (z : Zn) (M : AP) (H : Hp) : List (List Key × V) → List (List Int × D) → Prop
  | nil : KDR z M H [] []
  | cons {ns : List Int} {v : V} {d : D} {vs : List (List Key × V)} {ds : List (List Int × D)} : Is z M H v d → KDR z M H vs ds → KDR z M H ((inK' ns, v) :: vs) ((ns, d) :: ds)
theorem KDR.of : ∀ {vs : List (List Key × V)} {ds : List (List Int × D)}, vs.map (·.1) = ds.map (fun p => p.1.map Sum.inl) → IsA z M H (vs.map (·.2)) (ds.map (·.2)) → KDR z M H vs ds
  | [], [], _, _ => .nil
  | [], _ :: _, h, _ => by cases h
  | _ :: _, [], h, _ => by cases h
  | (k, v) :: vs, (ns, d) :: ds, h, .cons r t => by
    rw [List.map_cons, List.map_cons] at h
    obtain ⟨h1, h2⟩ := List.cons.inj h
    have h1 : k = inK' ns := h1
    subst h1
    exact .cons r (KDR.of h2 t)
theorem KDR.len : ∀ {vs : List (List Key × V)} {ds : List (List Int × D)}, KDR z M H vs ds → vs.length = ds.length
  | _, _, .nil => rfl
  | _, _, .cons _ t => congrArg Nat.succ (KDR.len t)
theorem KDR.gen {M' : AP} {H' : Hp} (h1 : ∀ a o, H a = some o → ¬ M a → H' a = some o ∧ ¬ M' a) (h2 : ∀ a, z.ok H a → z.ok H' a) : ∀ {vs : List (List Key × V)} {ds : List (List Int × D)}, KDR z M H vs ds → KDR z M' H' vs ds
  | _, _, .nil => .nil
  | _, _, .cons h t => .cons (h.gen h1 h2) (KDR.gen h1 h2 t)
theorem KDR.val (k : List Int) : ∀ {vs : List (List Key × V)} {ds : List (List Int × D)} {d : D}, KDR z M H vs ds → valX ds k = some d → ∃ v, valV vs (inK' k) = some v ∧ Is z M H v d
  | _, _, _, .nil, h => by cases h
  | _, _, d', .cons (ns := ns) (v := v) (d := d) (vs := vs) (ds := ds) h t, q => by
    by_cases e : ns = k
    · subst e
      rw [show valX ((ns, d) :: ds) ns = some d by simp [valX, List.find?_cons]] at q
      cases q
      exact ⟨v, valV_pos (p := (inK' ns, v)) (r := vs) rfl, h⟩
    · rw [show valX ((ns, d) :: ds) k = valX ds k by simp [valX, List.find?_cons, e]] at q
      obtain ⟨w, h1, h2⟩ := KDR.val k t q
      exact ⟨w, by rw [valV_neg (p := (inK' ns, v)) (r := vs) (fun u => e (inK_inj.mp u))]; exact h1, h2⟩
theorem KDR.any (k : List Int) : ∀ {vs : List (List Key × V)} {ds : List (List Int × D)}, KDR z M H vs ds → (vs.any fun kv => decide (kv.1 = inK' k)) = ds.any fun q => decide (q.1 = k)
  | _, _, .nil => rfl
  | _, _, .cons h t => by
    rw [List.any_cons, List.any_cons, KDR.any k t]
    congr 1
    rw [decide_eq_decide]
    exact inK_inj
theorem KDR.mapP {k : List Int} {v : V} {d : D} (hv : Is z M H v d) : ∀ {vs : List (List Key × V)} {ds : List (List Int × D)}, KDR z M H vs ds → KDR z M H (vs.map fun kv => if kv.1 = inK' k then (kv.1, v) else kv) (ds.map fun q => if q.1 = k then (q.1, d) else q)
  | _, _, .nil => .nil
  | _, _, .cons (ns := ns) h t => by
    rw [List.map_cons, List.map_cons]
    by_cases e : ns = k
    · rw [if_pos (inK_inj.mpr e), if_pos e]
      exact .cons hv (KDR.mapP hv t)
    · rw [if_neg (fun u => e (inK_inj.mp u)), if_neg e]
      exact .cons h (KDR.mapP hv t)
theorem KDR.snoc {k : List Int} {v : V} {d : D} (hv : Is z M H v d) : ∀ {vs : List (List Key × V)} {ds : List (List Int × D)}, KDR z M H vs ds → KDR z M H (vs ++ [(inK' k, v)]) (ds ++ [(k, d)])
  | _, _, .nil => .cons hv .nil
  | _, _, .cons h t => .cons h (KDR.snoc hv t)
theorem KDR.put {k : List Int} {v : V} {d : D} {vs : List (List Key × V)} {ds : List (List Int × D)} (h : KDR z M H vs ds) (hv : Is z M H v d) : KDR z M H (putK vs (inK' k) v) (putX ds k d) := by
  unfold putK putX
  rw [h.any k]
  split
  · exact h.mapP hv
  · exact h.snoc hv
end
end Pu
/-! y = {k: v for ..}: keys whole numbers (.dic), or tuples of them with whole numbers as values (.dpr) -/
namespace Pu
open PySem PySem.Spec PyProof.Rows L2 DcG
/-! pure rules -/
end Pu
/-! small things: a look of which a truth, a number, a text or None comes; all of a list of truths -/
namespace Pu
open PySem PySem.Spec PyProof.Rows L2
variable [Tbs]
def gAllL : List D → (D → Prop) → Prop := fun ds k => ∃ bs : List Bool, ds = [.lst (bs.map D.bl)] ∧ k (.bl (bs.all id))
theorem isa_bls2 {z : Zn} {M : AP} {H : Hp} : ∀ {bs : List Bool} {vs : List V}, IsA z M H vs (bs.map D.bl) → vs = bs.map V.bl
  | [], _, h => by cases h; rfl
  | b :: bs, _, h => by
    cases h with
    | cons h t =>
      cases h
      rw [isa_bls2 t]
      rfl
theorem cd_allL {l : Bool} {K : PySem.W.Frag} : CallD l .e (rAll K) gAllL := fun z X H0 H σ env vs ds Q k o h c hp => by
  obtain ⟨bs, rfl, hk⟩ := hp
  obtain ⟨v, rfl, hv⟩ := h.one
  cases hv with
  | lst e n r =>
    rw [isa_bls2 r] at e
    exact ⟨_, bs, rfl, SqL.of e, c _ _ H (Evo.refl _ _) (Is.bl _) hk⟩
theorem gAllL_i {bs : List Bool} {k : D → Prop} (h : k (.bl (bs.all id))) : gAllL [.lst (bs.map D.bl)] k := ⟨bs, rfl, h⟩
end Pu
set_option maxHeartbeats 2000000
/-! max(xs, key=lambda x: ..): the lambda is made, its code told by the table; each call of it in a frame of its own -/
namespace Pu
open PySem PySem.Spec PyProof.Rows L2
variable [Tbs]
/-- a lambda of one parameter x, captured names and globals besides -/
structure LamP (sc scope : Scope) (x : Str) : Prop where
  kind : scope.kind = .function
  co : scope.isCoroutine = false
  gen : scope.isGenerator = false
  nocell : ∀ y ∈ scope.names, y.2 ≠ .cell
  loc : ∀ y ∈ scope.names, y.2 = .local → y.1 = x
  par : scope.names.lookup x = some .local
  free : ∀ y ∈ scope.names, y.2 = .free → sc.names.lookup y.1 = some .cell ∨ sc.names.lookup y.1 = some .free
section
variable {X : Cx} {pins : List (Addr × Obj)} {σ : L2.St} {H : Hp} {s : Shared}
theorem LamP.has {scope : Scope} {x : Str} (L : LamP X.env.scope scope x) (ok : X.Ok) {y : Str × NameKind} (hy : y ∈ scope.names) (e : y.2 = .free) : ∃ c, X.env.cells.lookup y.1 = some c :=
  (L.free y hy e).elim (fun k => ok.has _ (.inl k)) fun k => ok.has _ (.inr k)
end
/-! ### the walk of a list, its items told without their signs -/
end Pu
namespace Pu
open PySem PySem.Spec PyProof.Rows L2
/-! ### readings -/
end Pu
set_option maxHeartbeats 1000000
/-! two lists of whole numbers of a def's own, told in one tuple; the caller owns the second one -/
namespace Pu
open PySem PySem.Spec PyProof.Rows L2
end Pu
set_option maxHeartbeats 1000000
/-! reversed(range(a, b)); list.index of a whole number -/
namespace Pu
open PySem PySem.Spec PyProof.Rows L2
variable [Tbs]
section
variable {C : Cx} {tg : Expr} {p q : PX} {m m' : Mode} {pp pos : Pos}
theorem ix_first : ∀ {ns : List Int} {n : Int}, n ∈ ns → ∃ j : Nat, ns[j]? = some n ∧ ∀ l, l < j → ns[l]? ≠ some n
  | m :: ns, n, h => by
    by_cases e : m = n
    · exact ⟨0, by rw [e]; rfl, fun l hl => absurd hl (Nat.not_lt_zero _)⟩
    · obtain ⟨j, h1, h2⟩ := ix_first ((List.mem_cons.mp h).resolve_left fun q => e q.symm)
      refine ⟨j + 1, by simpa using h1, fun l hl => ?_⟩
      cases l with
      | zero => simpa using e
      | succ l => simpa using h2 l (by omega)
end
end Pu
set_option maxHeartbeats 1000000
/-! an expression that looks at an owned thing as at a plain one; it tells a number, a truth or a text -/
namespace Pu
open PySem PySem.Spec PyProof.Rows L2
end Pu
set_option maxHeartbeats 1000000
/-! xs.remove(n): an own list of whole numbers, n is there -/
namespace Pu
open PySem PySem.Spec PyProof.Rows L2
variable [Tbs]
def rmK (xs : List D) (d : D) (k : List D → Prop) : Prop := ∃ (ns : List Int) (n : Int), xs = ns.map D.int ∧ d = .int n ∧ n ∈ ns ∧ k ((ns.erase n).map D.int)
def sRemove (i : Nat) (p : PX) : PSt := fun env k => match env[i]? with
  | some (.own (.lst xs)) => p env fun d => rmK xs d fun ys => k.nx (env.set i (.own (.lst ys)))
  | _ => False
theorem erase_at : ∀ {ns : List Int} {n : Int} {j : Nat}, ns[j]? = some n → (∀ l, l < j → ns[l]? ≠ some n) → ns.eraseIdx j = ns.erase n
  | m :: ns, n, 0, h, _ => by
    have e : m = n := by simpa using h
    rw [e, List.erase_cons_head]
    rfl
  | m :: ns, n, j + 1, h, hno => by
    have e : ¬ (m == n) = true := by
      have := hno 0 (by omega)
      simpa using this
    rw [List.erase_cons_tail e, List.eraseIdx_cons_succ, erase_at (by simpa using h) fun l hl => by
      have := hno (l + 1) (by omega)
      simpa using this]
theorem rm_ints {z : Zn} {M : AP} {H : Hp} : ∀ l : List Int, IsA z M H (l.map V.int) (l.map D.int)
  | [] => .nil
  | x :: l => .cons (Is.int _) (rm_ints l)
section
variable {C : Cx} {fr : Bool} {e : Expr} {pe : PX} {pos : Pos}
theorem s_remove (i : Nat) {x : Str} {pp apos cpos : Pos} (h : E .e C e pe) (hN : C.N[i]? = some x := by rfl) (hv : Vis C.env.scope x := by first | exact Or.inl rfl | exact Or.inr (Or.inl rfl) | exact Or.inr (Or.inr rfl)) (hd : (x == ("__debug__" : Str)) = false := by decide)
    (hcd : (x == ("__classdict__" : Str)) = false := by decide)
    (hb : ∀ to te, PE C (.Name x pp) to → PE C e te → PE C (.Call (.Attribute (.Name x pp) "remove" apos) [e] [] cpos) (tBM C.K "list" rRemI to (tCons te tNil)))
    (hs : swapsWith (.Call (.Attribute (.Name x pp) "remove" apos) [e] [] cpos) none pos.line C.env = pure false := by rfl) :
    S fr C (.Expr (.Call (.Attribute (.Name x pp) "remove" apos) [e] [] cpos) pos) (sRemove i pe) := by
  obtain ⟨t, h1, h2⟩ := h
  refine ⟨_, ps_expr (hb _ _ (pe_var hN hv hd hcd) h1) hs, fun z X H0 H σ env G k o s hp => ?_⟩
  unfold sRemove at hp
  split at hp
  · rename_i xs he
    obtain ⟨a, q1, q2, q3, q4⟩ := o.own i _ he
    obtain ⟨vs, q5, q6⟩ := q2
    refine ⟨_, q1, .inl ⟨rfl, vs, SqL.of q5⟩, h2 z X H0 H σ env _ _ o (fun d v H1 e1 r1 hx => ?_) hp⟩
    have o1 := o.go e1
    have q5' := e1.old a _ q5 q3
    obtain ⟨ns, n, rfl, rfl, hn, hk⟩ := hx
    cases Is.intI r1
    rw [IsA.ints q6] at q5'
    obtain ⟨j, j1, j2⟩ := ix_first hn
    refine ⟨a, ns, n, j, rfl, rfl, q5', j1, j2, ?_⟩
    have ia : Ms z X σ env a := .inr (.inr ⟨i, _, he, q1⟩)
    obtain ⟨o2, f2⟩ := o1.mut (o := .lst ((ns.eraseIdx j).map V.int)) he q1 (d' := .lst ((ns.erase n).map D.int)) ⟨(ns.eraseIdx j).map V.int, upd_same, by
      rw [erase_at j1 j2]
      exact rm_ints _⟩
    exact s.nx _ _ _ o2 ((o.fr e1).trans f2) hk
  · exact hp.elim
end
theorem sRemove_v {i j : Nat} {env : List SV} {K : PK'} {ns : List Int} {n : Int} (e : env[i]? = some (.own (.lst (ns.map D.int)))) (f : env[j]? = some (.val (.int n))) (hn : n ∈ ns) (h : K.nx (env.set i (.own (.lst ((ns.erase n).map D.int))))) : sRemove i (eV j) env K := by
  unfold sRemove
  rw [e]
  exact eV_i f ⟨ns, n, rfl, rfl, hn, h⟩
end Pu
namespace Ew
open PySem PySem.Spec PyProof.Rows L2 Pu
variable [Tbs]
def wp__law_draw : List D → (D → Prop) → Prop := fun ds k => match ds with
  | [.deck 3, .int m] => (0 < m ∧ m < 1073741824) ∧ ∀ t : Int, 0 ≤ t → t < m → k (.int t)
  | _ => False
def P_chain : PSt := (sSeq (sOwn 3 (eLst (aCons (eV 2) aNil)))
    (sSeq (sFor (Pu.iEnumS (eV 1) (eV 0)) (gtTup 2 (gtCons (gtName 4) (gtCons (gtName 5) gtNil)))
    (sIf (tOf (eOp (dIn false) (eOp dIx (eO 3) (eUn dNeg (eC (.int 1)))) (eV 5))) (sAppend 3 (eV 4)) sNext))
    (sFrz 3 (sRet (eUn dTuple (eV 3))))))
def wp_chain : List D → (D → Prop) → Prop := wpOf false 6 P_chain
def P_beneath : PSt := (sRet (eUn dTuple (eLc [3] (iRange1 (aCons (eV 0) aNil)) (gtName 3) (tOf (eOp (dIn false) (eV 2) (eCall (fun ds k => ds.length = 3 ∧ wp_chain ds k) (aCons (eV 0) (aCons (eV 1) (aCons (eV 3) aNil)))))) (eV 3))))
def wp_beneath : List D → (D → Prop) → Prop := wpOf false 4 P_beneath
def P_joints_above : PSt := (sSeq (sSet 1 (eOp dAdd (eCall gLen (aCons (eV 0) aNil)) (eC (.int 1))))
    (sSeq (sOwn 2 (eOp dRep (eLst (aCons (eC (.int 0)) aNil)) (eOp dMul (eC (.int 2)) (eCall gLen (aCons (eV 0) aNil)))))
    (sSeq (sFor (Pu.iEnumS (eV 0) (eV 1)) (gtTup 2 (gtCons (gtName 3) (gtCons (gtName 4) gtNil)))
    (sFor (iSeq (eV 4)) (gtName 5)
    (sPut 2 (eV 5) (eV 3))))
    (sFrz 2 (sRet (eUn dTuple (eV 2)))))))
def wp_joints_above : List D → (D → Prop) → Prop := wpOf false 6 P_joints_above
def P_spot_of : PSt := (sRet (eTup (aCons (eOp dMul (eV 0) (eOp dAdd (eV 1) (eV 2))) (aCons (eOp dMul (eV 0) (eOp dSub (eV 1) (eV 2))) aNil))))
def wp_spot_of : List D → (D → Prop) → Prop := wpOf false 3 P_spot_of
def P_grown : PSt := (sSeq (sAsg (eV 0) (gtTup 4 (gtCons (gtName 2) (gtCons (gtName 3) (gtCons (gtName 4) (gtCons (gtName 5) gtNil))))))
    (sRet (eTup (aCons (eOp dSub (eV 2) (eV 1)) (aCons (eOp dAdd (eV 3) (eV 1)) (aCons (eOp dSub (eV 4) (eV 1)) (aCons (eOp dAdd (eV 5) (eV 1)) aNil)))))))
def wp_grown : List D → (D → Prop) → Prop := wpOf false 6 P_grown
def P_met : PSt := (sSeq (sSet 2 (eCall gMaxN (aCons (eOp dIx (eV 0) (eC (.int 0))) (aCons (eOp dIx (eV 1) (eC (.int 0))) aNil))))
    (sSeq (sSet 3 (eCall gMinN (aCons (eOp dIx (eV 0) (eC (.int 1))) (aCons (eOp dIx (eV 1) (eC (.int 1))) aNil))))
    (sSeq (sSet 4 (eCall gMaxN (aCons (eOp dIx (eV 0) (eC (.int 2))) (aCons (eOp dIx (eV 1) (eC (.int 2))) aNil))))
    (sSeq (sSet 5 (eCall gMinN (aCons (eOp dIx (eV 0) (eC (.int 3))) (aCons (eOp dIx (eV 1) (eC (.int 3))) aNil))))
    (sSeq (sIf (tOrP (tOf (eOp dGt (eV 2) (eV 3))) (tOf (eOp dGt (eV 4) (eV 5)))) (sRet (eC .non)) sNext)
    (sRet (eTup (aCons (eV 2) (aCons (eV 3) (aCons (eV 4) (aCons (eV 5) aNil)))))))))))
def wp_met : List D → (D → Prop) → Prop := wpOf false 6 P_met
def P_apart : PSt := (sRet (eCall gMaxN (aCons (eC (.int 0)) (aCons (eOp dSub (eOp dIx (eV 0) (eC (.int 0))) (eOp dIx (eV 1) (eC (.int 1)))) (aCons (eOp dSub (eOp dIx (eV 1) (eC (.int 0))) (eOp dIx (eV 0) (eC (.int 1)))) (aCons (eOp dSub (eOp dIx (eV 0) (eC (.int 2))) (eOp dIx (eV 1) (eC (.int 3)))) (aCons (eOp dSub (eOp dIx (eV 1) (eC (.int 2))) (eOp dIx (eV 0) (eC (.int 3)))) aNil)))))))
def wp_apart : List D → (D → Prop) → Prop := wpOf false 2 P_apart
def P_within : PSt := (sRet (eCall gMaxN (aCons (eV 0) (aCons (eCall gMinN (aCons (eV 1) (aCons (eV 2) aNil))) aNil))))
def wp_within : List D → (D → Prop) → Prop := wpOf false 3 P_within
def P_nearest : PSt := (sSeq (sAsg (eV 0) (gtTup 4 (gtCons (gtName 2) (gtCons (gtName 3) (gtCons (gtName 4) (gtCons (gtName 5) gtNil))))))
    (sRet (eTup (aCons (eCall (fun ds k => ds.length = 3 ∧ wp_within ds k) (aCons (eV 2) (aCons (eV 3) (aCons (eOp dIx (eV 1) (eC (.int 0))) aNil)))) (aCons (eCall (fun ds k => ds.length = 3 ∧ wp_within ds k) (aCons (eV 4) (aCons (eV 5) (aCons (eOp dIx (eV 1) (eC (.int 1))) aNil)))) aNil)))))
def wp_nearest : List D → (D → Prop) → Prop := wpOf false 6 P_nearest
def P_corner : PSt := (sRet (eTup (aCons (eOp dIx (eV 0) (eC (.int 0))) (aCons (eOp dIx (eV 0) (eC (.int 2))) aNil))))
def wp_corner : List D → (D → Prop) → Prop := wpOf false 1 P_corner
def P_has : PSt := (sRet (eAnd (eChain dLe dLe (eOp dIx (eV 0) (eC (.int 0))) (eOp dIx (eV 1) (eC (.int 0))) (eOp dIx (eV 0) (eC (.int 1)))) (eChain dLe dLe (eOp dIx (eV 0) (eC (.int 2))) (eOp dIx (eV 1) (eC (.int 1))) (eOp dIx (eV 0) (eC (.int 3))))))
def wp_has : List D → (D → Prop) → Prop := wpOf false 2 P_has
def P_steps : PSt := (sRet (eOp dAdd (eCall gAbs (aCons (eOp dSub (eOp dIx (eV 0) (eC (.int 0))) (eOp dIx (eV 1) (eC (.int 0)))) aNil)) (eCall gAbs (aCons (eOp dSub (eOp dIx (eV 0) (eC (.int 1))) (eOp dIx (eV 1) (eC (.int 1)))) aNil))))
def wp_steps : List D → (D → Prop) → Prop := wpOf false 2 P_steps
def P_wanted : PSt := (sSeq (sSet 3 (eOp dIx (eV 0) (eV 1)))
    (sSeq (sSet 4 (eOp dIx (eV 0) (eV 2)))
    (sRet (eOp dAdd (eOp dAdd (eOp dIx (eV 3) (eC (.int 2))) (eOp dIx (eV 4) (eC (.int 2)))) (eCall (fun ds k => ds.length = 2 ∧ wp_steps ds k) (aCons (eSl (eV 3) oNo (oPart (eC (.int 2)))) (aCons (eSl (eV 4) oNo (oPart (eC (.int 2)))) aNil)))))))
def wp_wanted : List D → (D → Prop) → Prop := wpOf false 5 P_wanted
def P_started : PSt := (sRet (eOp dMul (eC (.int 2)) (eCall gSum (aCons (eLc [1, 2, 3, 4] (iSeq (eV 0)) (gtTup 4 (gtCons (gtName 1) (gtCons (gtName 2) (gtCons (gtName 3) (gtCons (gtName 4) gtNil))))) (fun _ k => k true) (eV 3)) aNil))))
def wp_started : List D → (D → Prop) → Prop := wpOf false 5 P_started
def P_height_of : PSt := (sRet (eCall gMaxL (aCons (eLc2 [2, 3] [3] (iSeq (eV 1)) (gtName 2) (fun _ k => k true) (iSeq (eV 1)) (gtName 3) (fun _ k => k true) (eCall (fun ds k => ds.length = 3 ∧ wp_wanted ds k) (aCons (eV 0) (aCons (eV 2) (aCons (eV 3) aNil))))) aNil)))
def wp_height_of : List D → (D → Prop) → Prop := wpOf false 4 P_height_of
def P_reached : PSt := (sSeq (sAsg (eCall (fun ds k => ds.length = 3 ∧ wp_spot_of ds k) (aCons (eC (.int 2)) (aCons (eOp dIx (eV 0) (eC (.int 0))) (aCons (eOp dIx (eV 0) (eC (.int 1))) aNil)))) (gtTup 2 (gtCons (gtName 2) (gtCons (gtName 3) gtNil))))
    (sRet (eCall (fun ds k => ds.length = 2 ∧ wp_grown ds k) (aCons (eTup (aCons (eV 2) (aCons (eV 2) (aCons (eV 3) (aCons (eV 3) aNil))))) (aCons (eOp dSub (eV 1) (eOp dMul (eC (.int 2)) (eOp dIx (eV 0) (eC (.int 2))))) aNil)))))
def wp_reached : List D → (D → Prop) → Prop := wpOf false 4 P_reached
def P_row_of : PSt := (sSeq (sSet 2 (eCall (fun ds k => ds.length = 2 ∧ wp_height_of ds k) (aCons (eV 0) (aCons (eV 1) aNil))))
    (sSeq (sSet 3 (eCall (fun ds k => ds.length = 2 ∧ wp_reached ds k) (aCons (eOp dIx (eV 0) (eOp dIx (eV 1) (eC (.int 0)))) (aCons (eV 2) aNil))))
    (sSeq (sFor (iSeq (eSl (eV 1) (oPart (eC (.int 1))) oNo)) (gtName 4)
    (sSet 3 (eCall (fun ds k => ds.length = 2 ∧ wp_met ds k) (aCons (eV 3) (aCons (eCall (fun ds k => ds.length = 2 ∧ wp_reached ds k) (aCons (eOp dIx (eV 0) (eV 4)) (aCons (eV 2) aNil))) aNil)))))
    (sRet (eTup (aCons (eV 2) (aCons (eV 3) aNil)))))))
def wp_row_of : List D → (D → Prop) → Prop := wpOf false 5 P_row_of
def P_joined : PSt := (sSeq (sAsg (eV 0) (gtTup 2 (gtCons (gtName 2) (gtCons (gtName 3) gtNil))))
    (sSeq (sAsg (eV 1) (gtTup 2 (gtCons (gtName 4) (gtCons (gtName 5) gtNil))))
    (sSeq (sSet 6 (eCall (fun ds k => ds.length = 2 ∧ wp_apart ds k) (aCons (eV 3) (aCons (eV 5) aNil))))
    (sSeq (sSet 7 (eCall gMaxN (aCons (eV 2) (aCons (eV 4) (aCons (eOp dDiv (eOp dAdd (eOp dAdd (eV 2) (eV 4)) (eV 6)) (eC (.int 2))) aNil)))))
    (sSeq (sSet 8 (eOp dSub (eV 7) (eV 2)))
    (sSeq (sSet 9 (eOp dSub (eV 7) (eV 4)))
    (sRet (eTup (aCons (eV 7) (aCons (eCall (fun ds k => ds.length = 2 ∧ wp_met ds k) (aCons (eCall (fun ds k => ds.length = 2 ∧ wp_grown ds k) (aCons (eV 3) (aCons (eV 8) aNil))) (aCons (eCall (fun ds k => ds.length = 2 ∧ wp_grown ds k) (aCons (eV 5) (aCons (eV 9) aNil))) aNil))) (aCons (eV 8) (aCons (eV 9) aNil))))))))))))
def wp_joined : List D → (D → Prop) → Prop := wpOf false 10 P_joined
def P_rows_of : PSt := (sSeq (sOwn 2 (eLc [3] (iRange1 (aCons (eCall gLen (aCons (eV 0) aNil)) aNil)) (gtName 3) (fun _ k => k true) (eCall (fun ds k => ds.length = 2 ∧ wp_row_of ds k) (aCons (eV 0) (aCons (eTup (aCons (eV 3) aNil)) aNil)))))
    (sSeq (sFor (iSeq (eV 1)) (gtTup 2 (gtCons (gtName 4) (gtCons (gtName 5) gtNil)))
    (sAppend 2 (eSl (eCall (fun ds k => ds.length = 2 ∧ wp_joined ds k) (aCons (eOp dIx (eO 2) (eV 4)) (aCons (eOp dIx (eO 2) (eV 5)) aNil))) oNo (oPart (eC (.int 2))))))
    (sFrz 2 (sRet (eUn dTuple (eV 2))))))
def wp_rows_of : List D → (D → Prop) → Prop := wpOf false 6 P_rows_of
def P_root_spot : PSt := (sSeq (sIf (tOf (eOp (dIs false) (eV 1) (eC .non))) (sRet (eCall (fun ds k => ds.length = 1 ∧ wp_corner ds k) (aCons (eV 0) aNil))) sNext)
    (sSeq (sIf (tNotP (tOf (eCall (fun ds k => ds.length = 2 ∧ wp_has ds k) (aCons (eV 0) (aCons (eV 1) aNil))))) sNever sNext)
    (sRet (eV 1))))
def wp_root_spot : List D → (D → Prop) → Prop := wpOf false 2 P_root_spot
def P_stood : PSt := (sSeq (sOwn 3 (eOp dRep (eLst (aCons (eCall (fun ds k => ds.length = 2 ∧ wp_root_spot ds k) (aCons (eOp dIx (eV 1) (eUn dNeg (eC (.int 1)))) (aCons (eV 2) aNil))) aNil)) (eCall gLen (aCons (eV 1) aNil))))
    (sSeq (sSet 4 (eCall (fun ds k => ds.length = 1 ∧ wp_joints_above ds k) (aCons (eV 0) aNil)))
    (sSeq (sFor (iRev1 (eCall gLen (aCons (eV 4) aNil))) (gtName 5)
    (sPut 3 (eV 5) (eCall (fun ds k => ds.length = 2 ∧ wp_nearest ds k) (aCons (eOp dIx (eV 1) (eV 5)) (aCons (eOp dIx (eO 3) (eOp dIx (eV 4) (eV 5))) aNil)))))
    (sFrz 3 (sRet (eUn dTuple (eV 3)))))))
def wp_stood : List D → (D → Prop) → Prop := wpOf false 6 P_stood
def P_even_wire : PSt := (sSeq (sSet 2 (eLc [3, 4] (iSeq (eCall (fun ds k => ds.length = 2 ∧ wp_rows_of ds k) (aCons (eV 0) (aCons (eV 1) aNil)))) (gtTup 2 (gtCons (gtName 3) (gtCons (gtName 4) gtNil))) (fun _ k => k true) (eV 3)))
    (sRet (eOp dSub (eOp dAdd (eCall gSum (aCons (eSl (eV 2) (oPart (eCall gLen (aCons (eV 0) aNil))) oNo) aNil)) (eOp dIx (eV 2) (eUn dNeg (eC (.int 1))))) (eCall (fun ds k => ds.length = 1 ∧ wp_started ds k) (aCons (eV 0) aNil)))))
def wp_even_wire : List D → (D → Prop) → Prop := wpOf false 5 P_even_wire
def P_even_tree : PSt := (sSeq (sSet 3 (eCall (fun ds k => ds.length = 2 ∧ wp_rows_of ds k) (aCons (eV 0) (aCons (eV 1) aNil))))
    (sSeq (sSet 4 (eCall (fun ds k => ds.length = 3 ∧ wp_stood ds k) (aCons (eV 1) (aCons (eLc [5, 6] (iSeq (eV 3)) (gtTup 2 (gtCons (gtName 5) (gtCons (gtName 6) gtNil))) (fun _ k => k true) (eV 6)) (aCons (eV 2) aNil)))))
    (sSeq (sSet 7 (eLc [8, 9] (iEnum0 (eCall (fun ds k => ds.length = 1 ∧ wp_joints_above ds k) (aCons (eV 1) aNil))) (gtTup 2 (gtCons (gtName 8) (gtCons (gtName 9) gtNil))) (fun _ k => k true) (eOp dSub (eOp dIx (eOp dIx (eV 3) (eV 9)) (eC (.int 0))) (eOp dIx (eOp dIx (eV 3) (eV 8)) (eC (.int 0))))))
    (sRet (eTup (aCons (eC (.int 2)) (aCons (eV 4) (aCons (eUn dTuple (eV 7)) aNil))))))))
def wp_even_tree : List D → (D → Prop) → Prop := wpOf false 10 P_even_tree
def P_is_whole : PSt := (sRet (eAnd (eCall gIsi (aCons (eV 0) (aCons (eC (.ty "int")) aNil))) (eUn dNot (eCall gIsi (aCons (eV 0) (aCons (eC (.ty "bool")) aNil))))))
def wp_is_whole : List D → (D → Prop) → Prop := wpOf false 1 P_is_whole
def P_are_wholes : PSt := (sSeq (sIf (tOrP (tNotP (tOf (eCall gIsi (aCons (eV 0) (aCons (eC (.ty "tuple")) aNil))))) (tOf (eOp dNe (eCall gLen (aCons (eV 0) aNil)) (eV 1)))) (sRet (eC (.bl false))) sNext)
    (sRet (eAsk true [2] (iSeq (eV 0)) (gtName 2) (eCall (fun ds k => ds.length = 1 ∧ wp_is_whole ds k) (aCons (eV 2) aNil)))))
def wp_are_wholes : List D → (D → Prop) → Prop := wpOf false 3 P_are_wholes
def P_first_pair : PSt := (sRet (eCall gMinTup (aCons (eLc2 [3, 4] [4] (iSeq (eV 1)) (gtName 3) (fun _ k => k true) (iSeq (eV 1)) (gtName 4) (tOf (eOp dEq (eCall (fun ds k => ds.length = 3 ∧ wp_wanted ds k) (aCons (eV 0) (aCons (eV 3) (aCons (eV 4) aNil)))) (eV 2))) (eTup (aCons (eV 3) (aCons (eV 4) aNil)))) aNil)))
def wp_first_pair : List D → (D → Prop) → Prop := wpOf false 5 P_first_pair
def P_pairs_for : PSt := (sSeq (sSet 2 (eCall gLen (aCons (eV 0) aNil)))
    (sSeq (sSet 3 (eLc [4, 5] (iSeq (eCall (fun ds k => ds.length = 2 ∧ wp_rows_of ds k) (aCons (eV 0) (aCons (eV 1) aNil)))) (gtTup 2 (gtCons (gtName 4) (gtCons (gtName 5) gtNil))) (fun _ k => k true) (eV 4)))
    (sRet (eUn dTuple (eLc [6] (iRange2 (aCons (eV 2) (aCons (eCall gLen (aCons (eV 3) aNil)) aNil))) (gtName 6) (fun _ k => k true) (eCall (fun ds k => ds.length = 3 ∧ wp_first_pair ds k) (aCons (eV 0) (aCons (eCall (fun ds k => ds.length = 3 ∧ wp_beneath ds k) (aCons (eV 2) (aCons (eV 1) (aCons (eV 6) aNil)))) (aCons (eOp dIx (eV 3) (eV 6)) aNil)))))))))
def wp_pairs_for : List D → (D → Prop) → Prop := wpOf false 7 P_pairs_for
def P_is_pair : PSt := (sSeq (sIf (tNotP (tOf (eCall (fun ds k => ds.length = 2 ∧ wp_are_wholes ds k) (aCons (eV 1) (aCons (eC (.int 2)) aNil))))) (sRet (eC (.bl false))) sNext)
    (sSeq (sAsg (eV 1) (gtTup 2 (gtCons (gtName 2) (gtCons (gtName 3) gtNil))))
    (sRet (eAnd (eOp dLe (eV 2) (eV 3)) (eAnd (eOp (dIn false) (eV 2) (eV 0)) (eOp (dIn false) (eV 3) (eV 0)))))))
def wp_is_pair : List D → (D → Prop) → Prop := wpOf false 4 P_is_pair
def P_is_paper : PSt := (sSeq (sIf (tOrP (tNotP (tOf (eCall gIsi (aCons (eV 2) (aCons (eC (.ty "tuple")) aNil))))) (tOf (eOp dNe (eCall gLen (aCons (eV 2) aNil)) (eCall gLen (aCons (eV 1) aNil))))) (sRet (eC (.bl false))) sNext)
    (sRet (eAsk true [3, 4] (Pu.iEnumS (eV 2) (eV 0)) (gtTup 2 (gtCons (gtName 3) (gtCons (gtName 4) gtNil))) (eCall (fun ds k => ds.length = 2 ∧ wp_is_pair ds k) (aCons (eCall (fun ds k => ds.length = 3 ∧ wp_beneath ds k) (aCons (eV 0) (aCons (eV 1) (aCons (eV 3) aNil)))) (aCons (eV 4) aNil))))))
def wp_is_paper : List D → (D → Prop) → Prop := wpOf false 5 P_is_paper
def P_pairs_shown : PSt := (sSeq (sIf (tNotP (tOf (eCall (fun ds k => ds.length = 3 ∧ wp_is_paper ds k) (aCons (eCall gLen (aCons (eV 0) aNil)) (aCons (eV 1) (aCons (eV 2) aNil)))))) (sRet (eC .non)) sNext)
    (sSeq (sIf (tOf (eOp dEq (eCall gLen (aCons (eV 0) aNil)) (eC (.int 1)))) (sRet (eC (.int 0))) sNext)
    (sSeq (sSet 3 (eLc [4, 5] (iSeq (eV 2)) (gtTup 2 (gtCons (gtName 4) (gtCons (gtName 5) gtNil))) (fun _ k => k true) (eCall (fun ds k => ds.length = 3 ∧ wp_wanted ds k) (aCons (eV 0) (aCons (eV 4) (aCons (eV 5) aNil))))))
    (sRet (eOp dSub (eOp dAdd (eCall gSum (aCons (eV 3) aNil)) (eOp dIx (eV 3) (eUn dNeg (eC (.int 1))))) (eCall (fun ds k => ds.length = 1 ∧ wp_started ds k) (aCons (eV 0) aNil)))))))
def wp_pairs_shown : List D → (D → Prop) → Prop := wpOf false 6 P_pairs_shown
def P__law_place : PSt := (sSeq (sIf (tOf (eOp dEq (eV 1) (eC (.int 1)))) (sRet (eTup (aCons (eOp dSub (eCall (fun ds k => ds.length = 2 ∧ wp__law_draw ds k) (aCons (eV 0) (aCons (eC (.int 13)) aNil))) (eC (.int 6))) (aCons (eV 2) aNil)))) sNext)
    (sSeq (sIf (tOf (eOp dEq (eV 1) (eC (.int 2)))) (sSeq (sSet 3 (eOp dSub (eCall (fun ds k => ds.length = 2 ∧ wp__law_draw ds k) (aCons (eV 0) (aCons (eC (.int 13)) aNil))) (eC (.int 6))))
    (sRet (eTup (aCons (eV 3) (aCons (eOp dSub (eV 2) (eV 3)) aNil))))) sNext)
    (sSeq (sIf (tOf (eOp dEq (eV 1) (eC (.int 3)))) (sRet (eUn dTuple (eLc [4] (iRange1 (aCons (eC (.int 2)) aNil)) (gtName 4) (fun _ k => k true) (eOp dIx (eLst (aCons (eC (.int 1000000)) (aCons (eUn dNeg (eC (.int 1000000))) (aCons (eOp dSub (eC (.int 1000000)) (eC (.int 1))) (aCons (eOp dSub (eC (.int 1)) (eC (.int 1000000))) aNil))))) (eCall (fun ds k => ds.length = 2 ∧ wp__law_draw ds k) (aCons (eV 0) (aCons (eC (.int 4)) aNil))))))) sNext)
    (sSeq (sIf (tOf (eOp dEq (eV 1) (eC (.int 4)))) (sRet (eUn dTuple (eLc [4] (iRange1 (aCons (eC (.int 2)) aNil)) (gtName 4) (fun _ k => k true) (eOp dSub (eCall (fun ds k => ds.length = 2 ∧ wp__law_draw ds k) (aCons (eV 0) (aCons (eOp dAdd (eOp dMul (eC (.int 2)) (eC (.int 1000000))) (eC (.int 1))) aNil))) (eC (.int 1000000)))))) sNext)
    (sRet (eTup (aCons (eCall (fun ds k => ds.length = 2 ∧ wp__law_draw ds k) (aCons (eV 0) (aCons (eC (.int 7)) aNil))) (aCons (eCall (fun ds k => ds.length = 2 ∧ wp__law_draw ds k) (aCons (eV 0) (aCons (eC (.int 7)) aNil))) aNil))))))))
def wp__law_place : List D → (D → Prop) → Prop := wpOf false 5 P__law_place
def P__law_start : PSt := (sSeq (sIf (tOf (eOp dLt (eV 1) (eC (.int 2)))) (sRet (eC (.int 0))) sNext)
    (sSeq (sIf (tOf (eOp dEq (eV 1) (eC (.int 2)))) (sRet (eCall (fun ds k => ds.length = 2 ∧ wp__law_draw ds k) (aCons (eV 0) (aCons (eC (.int 6)) aNil)))) sNext)
    (sSeq (sSet 2 (eCall (fun ds k => ds.length = 2 ∧ wp__law_draw ds k) (aCons (eV 0) (aCons (eC (.int 4)) aNil))))
    (sSeq (sIf (tOf (eOp dEq (eV 2) (eC (.int 3)))) (sRet (eCall (fun ds k => ds.length = 2 ∧ wp__law_draw ds k) (aCons (eV 0) (aCons (eOp dAdd (eC (.int 1000000)) (eC (.int 1))) aNil)))) sNext)
    (sRet (eOp dIx (eLst (aCons (eC (.int 0)) (aCons (eC (.int 1)) (aCons (eC (.int 1000000)) aNil)))) (eV 2)))))))
def wp__law_start : List D → (D → Prop) → Prop := wpOf false 3 P__law_start
def P__law_ends : PSt := (sSeq (sSet 2 (eCall (fun ds k => ds.length = 2 ∧ wp__law_draw ds k) (aCons (eV 0) (aCons (eC (.int 6)) aNil))))
    (sSeq (sSet 3 (eCall (fun ds k => ds.length = 2 ∧ wp__law_draw ds k) (aCons (eV 0) (aCons (eC (.int 4)) aNil))))
    (sSeq (sSet 4 (eV 1))
    (sSeq (sIf (tOf (eOp dNe (eCall (fun ds k => ds.length = 2 ∧ wp__law_draw ds k) (aCons (eV 0) (aCons (eC (.int 8)) aNil))) (eC (.int 5)))) (sSet 4 (eOp dAdd (eC (.int 1)) (eCall (fun ds k => ds.length = 2 ∧ wp__law_draw ds k) (aCons (eV 0) (aCons (eC (.int 6)) aNil))))) sNext)
    (sSeq (sSet 5 (eOp dSub (eCall (fun ds k => ds.length = 2 ∧ wp__law_draw ds k) (aCons (eV 0) (aCons (eC (.int 7)) aNil))) (eC (.int 3))))
    (sSeq (sOwn 6 (eLst aNil))
    (sSeq (sFor (iRange1 (aCons (eV 4) aNil)) (gtName 7)
    (sSeq (sSet 8 (eAnd (eOp dEq (eCall (fun ds k => ds.length = 2 ∧ wp__law_draw ds k) (aCons (eV 0) (aCons (eC (.int 4)) aNil))) (eC (.int 0))) (eOp dNe (eO 6) (eLst aNil))))
    (sSeq (sSet 9 (eCall (fun ds k => ds.length = 3 ∧ wp__law_place ds k) (aCons (eV 0) (aCons (eV 2) (aCons (eV 5) aNil)))))
    (sSeq (sIf (tOf (eV 8)) (sSet 9 (eSl (eOp dIx (eO 6) (eCall (fun ds k => ds.length = 2 ∧ wp__law_draw ds k) (aCons (eV 0) (aCons (eCall gLen (aCons (eO 6) aNil)) aNil)))) oNo (oPart (eC (.int 2))))) sNext)
    (sAppend 6 (eOp dAdd (eV 9) (eTup (aCons (eCall (fun ds k => ds.length = 2 ∧ wp__law_start ds k) (aCons (eV 0) (aCons (eV 3) aNil))) (aCons (eOp dIx (eLst (aCons (eC (.int 0)) (aCons (eC (.int 1)) (aCons (eC (.int 7)) (aCons (eC (.int 1000000)) aNil))))) (eCall (fun ds k => ds.length = 2 ∧ wp__law_draw ds k) (aCons (eV 0) (aCons (eC (.int 4)) aNil)))) aNil)))))))))
    (sFrz 6 (sRet (eUn dTuple (eV 6)))))))))))
def wp__law_ends : List D → (D → Prop) → Prop := wpOf false 10 P__law_ends
def P__law_joining : PSt := (sSeq (sSet 2 (eOp dEq (eCall (fun ds k => ds.length = 2 ∧ wp__law_draw ds k) (aCons (eV 0) (aCons (eC (.int 8)) aNil))) (eC (.int 5))))
    (sSeq (sOwn 3 (eRg1 .lst (eV 1)))
    (sSeq (sOwn 4 (eLst aNil))
    (sSeq (sFor (iRange1 (aCons (eOp dSub (eV 1) (eC (.int 1))) aNil)) (gtName 5)
    (sSeq (sSet 6 (eOp dEq (eCall (fun ds k => ds.length = 2 ∧ wp__law_draw ds k) (aCons (eV 0) (aCons (eC (.int 2)) aNil))) (eC (.int 1))))
    (sSeq (sPopAt 7 3 (eOp dIx (eLst (aCons (eCall (fun ds k => ds.length = 2 ∧ wp__law_draw ds k) (aCons (eV 0) (aCons (eCall gLen (aCons (eO 3) aNil)) aNil))) (aCons (eOp dSub (eCall gLen (aCons (eO 3) aNil)) (eC (.int 1))) aNil))) (eCall gInt (aCons (eV 2) aNil))))
    (sSeq (sPopAt 8 3 (eOp dIx (eLst (aCons (eCall (fun ds k => ds.length = 2 ∧ wp__law_draw ds k) (aCons (eV 0) (aCons (eCall gLen (aCons (eO 3) aNil)) aNil))) (aCons (eC (.int 0)) aNil))) (eCall gInt (aCons (eV 2) aNil))))
    (sSeq (sAppend 4 (eOp dIx (eLst (aCons (eTup (aCons (eV 7) (aCons (eV 8) aNil))) (aCons (eTup (aCons (eV 8) (aCons (eV 7) aNil))) aNil))) (eCall gInt (aCons (eV 6) aNil))))
    (sAppend 3 (eOp dAdd (eV 1) (eV 5))))))))
    (sFrz 3 (sFrz 4 (sRet (eUn dTuple (eV 4)))))))))
def wp__law_joining : List D → (D → Prop) → Prop := wpOf false 9 P__law_joining
def P__law_beneath : PSt := (sSeq (sOwn 2 (eLc [3] (iRange1 (aCons (eV 0) aNil)) (gtName 3) (fun _ k => k true) (eLst (aCons (eV 3) aNil))))
    (sSeq (sFor (iSeq (eV 1)) (gtTup 2 (gtCons (gtName 4) (gtCons (gtName 5) gtNil)))
    (sAppend 2 (eCall gSorted (aCons (eOp dAdd (eOp dIx (eO 2) (eV 4)) (eOp dIx (eO 2) (eV 5))) aNil))))
    (sRetO 2)))
def wp__law_beneath : List D → (D → Prop) → Prop := wpOf false 6 P__law_beneath
def P__law_wants : PSt := (sSeq (sSet 3 (eOp dIx (eV 0) (eV 1)))
    (sSeq (sSet 4 (eOp dIx (eV 0) (eV 2)))
    (sRet (eOp dAdd (eOp dAdd (eOp dAdd (eCall gAbs (aCons (eOp dSub (eOp dIx (eV 3) (eC (.int 0))) (eOp dIx (eV 4) (eC (.int 0)))) aNil)) (eCall gAbs (aCons (eOp dSub (eOp dIx (eV 3) (eC (.int 1))) (eOp dIx (eV 4) (eC (.int 1)))) aNil))) (eOp dIx (eV 3) (eC (.int 2)))) (eOp dIx (eV 4) (eC (.int 2)))))))
def wp__law_wants : List D → (D → Prop) → Prop := wpOf false 5 P__law_wants
def P__law_height : PSt := (sRet (eCall gMaxL (aCons (eLc [3] (iSeq (eV 1)) (gtName 3) (fun _ k => k true) (eCall gMaxL (aCons (eLc [2] (iSeq (eV 1)) (gtName 2) (fun _ k => k true) (eCall (fun ds k => ds.length = 3 ∧ wp__law_wants ds k) (aCons (eV 0) (aCons (eV 3) (aCons (eV 2) aNil))))) aNil))) aNil)))
def wp__law_height : List D → (D → Prop) → Prop := wpOf false 4 P__law_height
def P__law_off : PSt := (sRet (eCall gMaxN (aCons (eCall gAbs (aCons (eOp dSub (eOp dIx (eV 0) (eC (.int 0))) (eOp dIx (eV 1) (eC (.int 0)))) aNil)) (aCons (eCall gAbs (aCons (eOp dSub (eOp dIx (eV 0) (eC (.int 1))) (eOp dIx (eV 1) (eC (.int 1)))) aNil)) aNil))))
def wp__law_off : List D → (D → Prop) → Prop := wpOf false 2 P__law_off
def P__law_spot : PSt := (sRet (eTup (aCons (eOp dMul (eV 0) (eOp dAdd (eOp dIx (eV 1) (eC (.int 0))) (eOp dIx (eV 1) (eC (.int 1))))) (aCons (eOp dMul (eV 0) (eOp dSub (eOp dIx (eV 1) (eC (.int 0))) (eOp dIx (eV 1) (eC (.int 1))))) aNil))))
def wp__law_spot : List D → (D → Prop) → Prop := wpOf false 2 P__law_spot
def P__law_over : PSt := (sSeq (sOwn 2 (eOp dRep (eLst (aCons (eC (.int 0)) aNil)) (eOp dSub (eOp dAdd (eV 0) (eCall gLen (aCons (eV 1) aNil))) (eC (.int 1)))))
    (sSeq (sFor (iEnum0 (eV 1)) (gtTup 2 (gtCons (gtName 3) (gtCons (gtName 4) gtNil)))
    (sFor (iSeq (eV 4)) (gtName 5)
    (sPut 2 (eV 5) (eOp dAdd (eV 0) (eV 3)))))
    (sRetO 2)))
def wp__law_over : List D → (D → Prop) → Prop := wpOf false 6 P__law_over
def P__law_sums : PSt := (sSeq (sSet 4 (eCall (fun ds k => ds.length = 2 ∧ wp__law_over ds k) (aCons (eCall gLen (aCons (eV 0) aNil)) (aCons (eV 1) aNil))))
    (sSeq (sOwn 5 (eLst aNil))
    (sSeq (sFor (iEnum0 (eV 0)) (gtTup 2 (gtCons (gtName 6) (gtCons (gtName 7) gtNil)))
    (sSeq (sSet 8 (eOp dMul (eOp dIx (eV 7) (eC (.int 2))) (eV 2)))
    (sSeq (sWhile (tOf (eOp dLt (eV 6) (eCall gLen (aCons (eV 4) aNil))))
    (sSeq (sSet 8 (eOp dAdd (eV 8) (eOp dIx (eV 3) (eV 6))))
    (sSet 6 (eOp dIx (eV 4) (eV 6)))))
    (sAppend 5 (eV 8)))))
    (sRetO 5))))
def wp__law_sums : List D → (D → Prop) → Prop := wpOf false 9 P__law_sums
def P__law_whole : PSt := (sRet (eAnd (eCall gIsi (aCons (eV 0) (aCons (eC (.ty "int")) aNil))) (eUn dNot (eCall gIsi (aCons (eV 0) (aCons (eC (.ty "bool")) aNil))))))
def wp__law_whole : List D → (D → Prop) → Prop := wpOf false 1 P__law_whole
def P__law_pair : PSt := (sRet (eAnd (eCall gIsi (aCons (eV 0) (aCons (eC (.ty "tuple")) aNil))) (eAnd (eOp dEq (eCall gLen (aCons (eV 0) aNil)) (eC (.int 2))) (eAnd (eCall (fun ds k => ds.length = 1 ∧ wp__law_whole ds k) (aCons (eOp dIx (eV 0) (eC (.int 0))) aNil)) (eCall (fun ds k => ds.length = 1 ∧ wp__law_whole ds k) (aCons (eOp dIx (eV 0) (eC (.int 1))) aNil))))))
def wp__law_pair : List D → (D → Prop) → Prop := wpOf false 1 P__law_pair
def P__law_is_tree : PSt := (sSeq (sIf (tOrP (tNotP (tOf (eCall gIsi (aCons (eV 3) (aCons (eC (.ty "tuple")) aNil))))) (tOrP (tOf (eOp dNe (eCall gLen (aCons (eV 3) aNil)) (eC (.int 3)))) (tOrP (tNotP (tOf (eCall (fun ds k => ds.length = 1 ∧ wp__law_whole ds k) (aCons (eOp dIx (eV 3) (eC (.int 0))) aNil)))) (tOf (eOp dLt (eOp dIx (eV 3) (eC (.int 0))) (eC (.int 1))))))) (sRet (eC (.bl false))) sNext)
    (sSeq (sAsg (eV 3) (gtTup 3 (gtCons (gtName 4) (gtCons (gtName 5) (gtCons (gtName 6) gtNil)))))
    (sSeq (sSet 7 (eOp dAdd (eCall gLen (aCons (eV 0) aNil)) (eCall gLen (aCons (eV 1) aNil))))
    (sSeq (sIf (tOrP (tNotP (tOf (eCall gIsi (aCons (eV 5) (aCons (eC (.ty "tuple")) aNil))))) (tOrP (tOf (eOp dNe (eCall gLen (aCons (eV 5) aNil)) (eV 7))) (tOf (eOp dNe (eLc [8] (iSeq (eV 5)) (gtName 8) (tNotP (tOf (eCall (fun ds k => ds.length = 1 ∧ wp__law_pair ds k) (aCons (eV 8) aNil)))) (eV 8)) (eLst aNil))))) (sRet (eC (.bl false))) sNext)
    (sSeq (sIf (tOrP (tNotP (tOf (eCall gIsi (aCons (eV 6) (aCons (eC (.ty "tuple")) aNil))))) (tOf (eOp dNe (eCall gLen (aCons (eV 6) aNil)) (eOp dSub (eV 7) (eC (.int 1)))))) (sRet (eC (.bl false))) sNext)
    (sSeq (sIf (tOf (eOp dNe (eLc [9] (iSeq (eV 6)) (gtName 9) (tOrP (tNotP (tOf (eCall (fun ds k => ds.length = 1 ∧ wp__law_whole ds k) (aCons (eV 9) aNil)))) (tOf (eOp dLt (eV 9) (eC (.int 0))))) (eV 9)) (eLst aNil))) (sRet (eC (.bl false))) sNext)
    (sSeq (sIf (tOf (eOp dNe (eUn dList (eSl (eV 5) oNo (oPart (eCall gLen (aCons (eV 0) aNil))))) (eLc [10] (iSeq (eV 0)) (gtName 10) (fun _ k => k true) (eCall (fun ds k => ds.length = 2 ∧ wp__law_spot ds k) (aCons (eV 4) (aCons (eV 10) aNil)))))) (sRet (eC (.bl false))) sNext)
    (sSeq (sSet 11 (eCall (fun ds k => ds.length = 2 ∧ wp__law_over ds k) (aCons (eCall gLen (aCons (eV 0) aNil)) (aCons (eV 1) aNil))))
    (sSeq (sIf (tOf (eOp dNe (eLc [12, 13] (iEnum0 (eV 11)) (gtTup 2 (gtCons (gtName 12) (gtCons (gtName 13) gtNil))) (tOf (eOp dLt (eOp dIx (eV 6) (eV 12)) (eCall (fun ds k => ds.length = 2 ∧ wp__law_off ds k) (aCons (eOp dIx (eV 5) (eV 12)) (aCons (eOp dIx (eV 5) (eV 13)) aNil))))) (eV 12)) (eLst aNil))) (sRet (eC (.bl false))) sNext)
    (sSeq (sSet 14 (eCall (fun ds k => ds.length = 4 ∧ wp__law_sums ds k) (aCons (eV 0) (aCons (eV 1) (aCons (eV 4) (aCons (eV 6) aNil))))))
    (sRet (eOr (eOp (dIs false) (eV 2) (eC .non)) (eOp dLe (eOp dSub (eCall gMaxL (aCons (eV 14) aNil)) (eCall gMinL (aCons (eV 14) aNil))) (eOp dMul (eV 2) (eV 4)))))))))))))))
def wp__law_is_tree : List D → (D → Prop) → Prop := wpOf false 15 P__law_is_tree
def P__law_box : PSt := (sSeq (sSet 3 (eLc [4] (iSeq (eV 1)) (gtName 4) (fun _ k => k true) (eCall (fun ds k => ds.length = 2 ∧ wp__law_spot ds k) (aCons (eC (.int 2)) (aCons (eOp dIx (eV 0) (eV 4)) aNil)))))
    (sSeq (sSet 5 (eLc [4] (iSeq (eV 1)) (gtName 4) (fun _ k => k true) (eOp dSub (eV 2) (eOp dMul (eC (.int 2)) (eOp dIx (eOp dIx (eV 0) (eV 4)) (eC (.int 2)))))))
    (sSeq (sOwn 6 (eLst aNil))
    (sSeq (sFor (iRange1 (aCons (eC (.int 2)) aNil)) (gtName 7)
    (sSeq (sAppend 6 (eCall gMaxL (aCons (eLc [8, 9] (iZipP (eV 3) (eV 5)) (gtTup 2 (gtCons (gtName 8) (gtCons (gtName 9) gtNil))) (fun _ k => k true) (eOp dSub (eOp dIx (eV 8) (eV 7)) (eV 9))) aNil)))
    (sAppend 6 (eCall gMinL (aCons (eLc [8, 9] (iZipP (eV 3) (eV 5)) (gtTup 2 (gtCons (gtName 8) (gtCons (gtName 9) gtNil))) (fun _ k => k true) (eOp dAdd (eOp dIx (eV 8) (eV 7)) (eV 9))) aNil)))))
    (sFrz 6 (sRet (eUn dTuple (eV 6))))))))
def wp__law_box : List D → (D → Prop) → Prop := wpOf false 10 P__law_box
def P__law_numbered : PSt := (sSeq (sSet 3 (eCall gLen (aCons (eV 1) aNil)))
    (sSeq (sOwn 4 (eRg1 .lst (eV 3)))
    (sSeq (sSetM 5 (mLc [6] (iRange1 (aCons (eV 3) aNil)) (gtName 6) (mPop 4 (eCall (fun ds k => ds.length = 2 ∧ wp__law_draw ds k) (aCons (eV 0) (aCons (eCall gLen (aCons (eO 4) aNil)) aNil))))))
    (sFrz 4 (sSeq (sOwn 7 eDic0)
    (sSeq (sFor (iEnum0 (eV 5)) (gtTup 2 (gtCons (gtName 8) (gtCons (gtName 9) gtNil)))
    (sDput 7 (eV 9) (eV 8)))
    (sSeq (sOwn 10 (eRg1 .lst (eCall gLen (aCons (eV 2) aNil))))
    (sSeq (sOwn 11 (eLst aNil))
    (sSeq (sWhile (tOf (eOp dNe (eO 10) (eLst aNil)))
    (sSeq (sSet 12 (eLcO 10 [6] (gtName 6) (tAndP (tOf (eOp dDin (eOp dIx (eOp dIx (eV 2) (eV 6)) (eC (.int 0))) (eO 7))) (tOf (eOp dDin (eOp dIx (eOp dIx (eV 2) (eV 6)) (eC (.int 1))) (eO 7)))) (eV 6)))
    (sSeq (sSet 6 (eOp dIx (eV 12) (eCall (fun ds k => ds.length = 2 ∧ wp__law_draw ds k) (aCons (eV 0) (aCons (eCall gLen (aCons (eV 12) aNil)) aNil)))))
    (sSeq (sRemove 10 (eV 6))
    (sSeq (sSet 13 (eTup (aCons (eOp dDget (eO 7) (eOp dIx (eOp dIx (eV 2) (eV 6)) (eC (.int 0)))) (aCons (eOp dDget (eO 7) (eOp dIx (eOp dIx (eV 2) (eV 6)) (eC (.int 1)))) aNil))))
    (sSeq (sAppend 11 (eOp dIx (eLst (aCons (eV 13) (aCons (eTup (aCons (eOp dIx (eV 13) (eC (.int 1))) (aCons (eOp dIx (eV 13) (eC (.int 0))) aNil))) aNil))) (eCall (fun ds k => ds.length = 2 ∧ wp__law_draw ds k) (aCons (eV 0) (aCons (eC (.int 2)) aNil)))))
    (sDput 7 (eOp dAdd (eV 3) (eV 6)) (eOp dSub (eOp dAdd (eV 3) (eCall gLen (aCons (eO 11) aNil))) (eC (.int 1))))))))))
    (sFrz 7 (sFrz 10 (sFrz 11 (sRet (eTup (aCons (eUn dTuple (eLc [9] (iSeq (eV 5)) (gtName 9) (fun _ k => k true) (eOp dIx (eV 1) (eV 9)))) (aCons (eUn dTuple (eV 11)) aNil))))))))))))))))
def wp__law_numbered : List D → (D → Prop) → Prop := wpOf false 14 P__law_numbered
def P__law_doubled : PSt := (sSeq (sSet 3 (eCall gLen (aCons (eV 1) aNil)))
    (sSeq (sSet 4 (eCall (fun ds k => ds.length = 2 ∧ wp__law_draw ds k) (aCons (eV 0) (aCons (eV 3) aNil))))
    (sSeq (sOwn 5 (eLst (aCons (eTup (aCons (eV 4) (aCons (eV 3) aNil))) aNil)))
    (sSeq (sFor (iSeq (eV 2)) (gtName 6)
    (sSeq (sSet 7 (eLc [8] (iSeq (eV 6)) (gtName 8) (fun _ k => k true) (eOp dAdd (eV 8) (eOp dMul (eC (.int 2)) (eCall gInt (aCons (eOp dGe (eV 8) (eV 3)) aNil))))))
    (sAppend 5 (eUn dTuple (eLc [8] (iSeq (eV 7)) (gtName 8) (fun _ k => k true) (eOp dIx (eLst (aCons (eV 8) (aCons (eOp dAdd (eV 3) (eC (.int 1))) aNil))) (eCall gInt (aCons (eOp dEq (eV 8) (eV 4)) aNil))))))))
    (sFrz 5 (sRet (eTup (aCons (eOp dAdd (eV 1) (eTup (aCons (eOp dIx (eV 1) (eV 4)) aNil))) (aCons (eUn dTuple (eV 5)) aNil)))))))))
def wp__law_doubled : List D → (D → Prop) → Prop := wpOf false 9 P__law_doubled
def P__law_side : PSt := (sSeq (sSet 3 (eCall gLen (aCons (eV 0) aNil)))
    (sSeq (sSet 4 (eCall (fun ds k => ds.length = 2 ∧ wp__law_beneath ds k) (aCons (eV 3) (aCons (eV 1) aNil))))
    (sSeq (sOwn 5 eDic0)
    (sSeq (sFor (iEnum0 (eOp dIx (eV 4) (eV 2))) (gtTup 2 (gtCons (gtName 6) (gtCons (gtName 7) gtNil)))
    (sDput 5 (eV 7) (eV 6)))
    (sSeq (sOwn 8 (eLst aNil))
    (sSeq (sFor (iEnum0 (eV 1)) (gtTup 2 (gtCons (gtName 9) (gtCons (gtName 10) gtNil)))
    (sIf (tOf (eCall gAllL (aCons (eLc [7] (iSeq (eOp dIx (eV 4) (eOp dAdd (eV 3) (eV 9)))) (gtName 7) (fun _ k => k true) (eOp (dIn false) (eV 7) (eOp dIx (eV 4) (eV 2)))) aNil))) (sSeq (sAppend 8 (eTup (aCons (eOp dDget (eO 5) (eOp dIx (eV 10) (eC (.int 0)))) (aCons (eOp dDget (eO 5) (eOp dIx (eV 10) (eC (.int 1)))) aNil))))
    (sDput 5 (eOp dAdd (eV 3) (eV 9)) (eOp dSub (eOp dAdd (eCall gLen (aCons (eOp dIx (eV 4) (eV 2)) aNil)) (eCall gLen (aCons (eO 8) aNil))) (eC (.int 1))))) sNext))
    (sFrz 5 (sFrz 8 (sRet (eTup (aCons (eUn dTuple (eLc [7] (iSeq (eOp dIx (eV 4) (eV 2))) (gtName 7) (fun _ k => k true) (eOp dIx (eV 0) (eV 7)))) (aCons (eUn dTuple (eV 8)) aNil))))))))))))
def wp__law_side : List D → (D → Prop) → Prop := wpOf false 11 P__law_side
def P__law_told : PSt := (sSeq (sSet 3 (eCall (fun ds k => ds.length = 2 ∧ wp_even_tree (ds ++ [.non]) k) (aCons (eV 0) (aCons (eV 1) aNil))))
    (sSeq (sIf (tOrP (tNotP (tOf (eCall (fun ds k => ds.length = 4 ∧ wp__law_is_tree ds k) (aCons (eV 0) (aCons (eV 1) (aCons (eC (.int 0)) (aCons (eV 3) aNil))))))) (tOrP (tOf (eOp dNe (eCall gSumA (aCons (eOp dIx (eV 3) (eC (.int 2))) aNil)) (eV 2))) (tOf (eOp dNe (eCall (fun ds k => ds.length = 2 ∧ wp_even_wire ds k) (aCons (eV 0) (aCons (eV 1) aNil))) (eV 2))))) (sRet (eC (.bl false))) sNext)
    (sRet (eOp dEq (eCall (fun ds k => ds.length = 3 ∧ wp_pairs_shown ds k) (aCons (eV 0) (aCons (eV 1) (aCons (eCall (fun ds k => ds.length = 2 ∧ wp_pairs_for ds k) (aCons (eV 0) (aCons (eV 1) aNil))) aNil)))) (eV 2)))))
def wp__law_told : List D → (D → Prop) → Prop := wpOf false 4 P__law_told
def P__law_sides_right : PSt := (sSeq (sIf (tOf (eOp dEq (eV 1) (eTup aNil))) (sRet (eOp dEq (eV 2) (eC (.int 0)))) sNext)
    (sSeq (sSet 3 (eOp dMul (eC (.int 2)) (eCall (fun ds k => ds.length = 2 ∧ wp__law_height ds k) (aCons (eV 0) (aCons (eRg1 .lst (eCall gLen (aCons (eV 0) aNil))) aNil)))))
    (sSeq (sFor (iSeq (eOp dIx (eV 1) (eUn dNeg (eC (.int 1))))) (gtName 4)
    (sSeq (sAsg (eCall (fun ds k => ds.length = 3 ∧ wp__law_side ds k) (aCons (eV 0) (aCons (eV 1) (aCons (eV 4) aNil)))) (gtTup 2 (gtCons (gtName 5) (gtCons (gtName 6) gtNil))))
    (sSet 3 (eOp dSub (eOp dAdd (eV 3) (eCall (fun ds k => ds.length = 2 ∧ wp_even_wire ds k) (aCons (eV 5) (aCons (eV 6) aNil)))) (eCall (fun ds k => ds.length = 2 ∧ wp__law_height ds k) (aCons (eV 5) (aCons (eRg1 .lst (eCall gLen (aCons (eV 5) aNil))) aNil)))))))
    (sRet (eOp dEq (eV 3) (eV 2))))))
def wp__law_sides_right : List D → (D → Prop) → Prop := wpOf false 7 P__law_sides_right
def P__law_roots_right : PSt := (sSeq (sSet 3 (eCall (fun ds k => ds.length = 3 ∧ wp__law_box ds k) (aCons (eV 0) (aCons (eRg1 .lst (eCall gLen (aCons (eV 0) aNil))) (aCons (eCall (fun ds k => ds.length = 2 ∧ wp__law_height ds k) (aCons (eV 0) (aCons (eRg1 .lst (eCall gLen (aCons (eV 0) aNil))) aNil))) aNil)))))
    (sSeq (sSet 4 (eTup (aCons (eOp dDiv (eOp dAdd (eOp dIx (eV 3) (eC (.int 0))) (eOp dIx (eV 3) (eC (.int 1)))) (eC (.int 2))) (aCons (eOp dDiv (eOp dAdd (eOp dIx (eV 3) (eC (.int 2))) (eOp dIx (eV 3) (eC (.int 3)))) (eC (.int 2))) aNil))))
    (sSeq (sFor (iSeq (eLst (aCons (eTup (aCons (eOp dIx (eV 3) (eC (.int 0))) (aCons (eOp dIx (eV 3) (eC (.int 2))) aNil))) (aCons (eTup (aCons (eOp dIx (eV 3) (eC (.int 0))) (aCons (eOp dIx (eV 3) (eC (.int 3))) aNil))) (aCons (eTup (aCons (eOp dIx (eV 3) (eC (.int 1))) (aCons (eOp dIx (eV 3) (eC (.int 2))) aNil))) (aCons (eV 4) aNil)))))) (gtName 5)
    (sIf (tOf (eOp dNe (eCall gSumA (aCons (eOp dIx (eCall (fun ds k => ds.length = 3 ∧ wp_even_tree ds k) (aCons (eV 0) (aCons (eV 1) (aCons (eV 5) aNil)))) (eC (.int 2))) aNil)) (eV 2))) (sRet (eC (.bl false))) sNext))
    (sRet (eC (.bl true))))))
def wp__law_roots_right : List D → (D → Prop) → Prop := wpOf false 6 P__law_roots_right
def P_law : PSt := (sSeq (sSet 2 (eCall (fun ds k => ds.length = 2 ∧ wp__law_ends ds k) (aCons (eV 1) (aCons (eC (.int 23)) aNil))))
    (sSeq (sSet 3 (eCall (fun ds k => ds.length = 2 ∧ wp__law_joining ds k) (aCons (eV 1) (aCons (eCall gLen (aCons (eV 2) aNil)) aNil))))
    (sSeq (sSet 4 (eCall (fun ds k => ds.length = 2 ∧ wp_even_wire ds k) (aCons (eV 2) (aCons (eV 3) aNil))))
    (sSeq (sSet 5 (eCall gSortedT (aCons (eOp dIx (eCall (fun ds k => ds.length = 2 ∧ wp_even_tree (ds ++ [.non]) k) (aCons (eV 2) (aCons (eV 3) aNil))) (eC (.int 2))) aNil)))
    (sSeq (sFor (iRange1 (aCons (eC (.int 2)) aNil)) (gtName 6)
    (sSeq (sAsg (eCall (fun ds k => ds.length = 3 ∧ wp__law_numbered ds k) (aCons (eV 1) (aCons (eV 2) (aCons (eV 3) aNil)))) (gtTup 2 (gtCons (gtName 7) (gtCons (gtName 8) gtNil))))
    (sIf (tOrP (tNotP (tOf (eCall (fun ds k => ds.length = 3 ∧ wp__law_told ds k) (aCons (eV 7) (aCons (eV 8) (aCons (eV 4) aNil)))))) (tOf (eOp dNe (eCall gSortedT (aCons (eOp dIx (eCall (fun ds k => ds.length = 2 ∧ wp_even_tree (ds ++ [.non]) k) (aCons (eV 7) (aCons (eV 8) aNil))) (eC (.int 2))) aNil)) (eV 5)))) (sRet (eC (.bl false))) sNext)))
    (sSeq (sSet 9 (eCall (fun ds k => ds.length = 2 ∧ wp__law_draw ds k) (aCons (eV 1) (aCons (eOp dSub (eOp dAdd (eC (.int 1000000)) (eC (.int 1))) (eCall gMaxL (aCons (eLc [10] (iSeq (eV 2)) (gtName 10) (fun _ k => k true) (eOp dIx (eV 10) (eC (.int 2)))) aNil))) aNil))))
    (sSeq (sSet 11 (eUn dTuple (eLc [10] (iSeq (eV 2)) (gtName 10) (fun _ k => k true) (eTup (aCons (eOp dIx (eV 10) (eC (.int 0))) (aCons (eOp dIx (eV 10) (eC (.int 1))) (aCons (eOp dAdd (eOp dIx (eV 10) (eC (.int 2))) (eV 9)) (aCons (eOp dIx (eV 10) (eC (.int 3))) aNil))))))))
    (sSeq (sIf (tOrP (tNotP (tOf (eCall (fun ds k => ds.length = 3 ∧ wp__law_told ds k) (aCons (eV 11) (aCons (eV 3) (aCons (eV 4) aNil)))))) (tNotP (tOf (eCall (fun ds k => ds.length = 3 ∧ wp__law_told ds k) (aCons (eV 2) (aCons (eV 3) (aCons (eV 4) aNil))))))) (sRet (eC (.bl false))) sNext)
    (sSeq (sAsg (eCall (fun ds k => ds.length = 3 ∧ wp__law_doubled ds k) (aCons (eV 1) (aCons (eV 2) (aCons (eV 3) aNil)))) (gtTup 2 (gtCons (gtName 7) (gtCons (gtName 8) gtNil))))
    (sSeq (sIf (tNotP (tOf (eCall (fun ds k => ds.length = 3 ∧ wp__law_told ds k) (aCons (eV 7) (aCons (eV 8) (aCons (eV 4) aNil)))))) (sRet (eC (.bl false))) sNext)
    (sRet (eAnd (eCall (fun ds k => ds.length = 3 ∧ wp__law_sides_right ds k) (aCons (eV 2) (aCons (eV 3) (aCons (eV 4) aNil)))) (eCall (fun ds k => ds.length = 3 ∧ wp__law_roots_right ds k) (aCons (eV 2) (aCons (eV 3) (aCons (eV 4) aNil))))))))))))))))
end Ew
namespace Ew
open PySem PySem.Spec PyProof.Rows L2 Pu
variable [Tbs]
section
local macro_rules | `(tactic| walk_at "pscall") => `(tactic| fail)
local macro_rules | `(tactic| walk_at "psside") => `(tactic| first
  | exact Or.inl ⟨by decide, by decide⟩
  | exact Or.inr ⟨by decide, by decide⟩
  | exact ⟨by decide, by decide, by decide⟩
  | exact ⟨by decide, by decide⟩
  | decide
  | omega
  | (unfold CMul; omega)
  | (unfold CDiv; omega))
local macro_rules | `(tactic| walk_at "ps") => `(tactic| first
  | with_reducible refine nx_i ?_
  | ((with_reducible refine' eV_i ?ps1 ?_); (case ps1 => exact rfl))
  | with_reducible refine aCons_i ?_
  | with_reducible refine eOp_i ?_
  | with_reducible refine aNil_i ?_
  | with_reducible refine eC_i ?_
  | with_reducible refine eCall_i ?_
  | with_reducible refine rt_i ?_
  | with_reducible refine gtName_i ?_
  | ((with_reducible refine' and_rfl ?ps1 ?_); (case ps1 => exact rfl))
  | with_reducible refine gtCons_i ?_
  | with_reducible refine blK_i ?_
  | with_reducible refine sSet_i ?_
  | with_reducible refine tOf_i ?_
  | with_reducible refine sSeq_set ?_
  | ((with_reducible refine' and_le ?ps1 ?_); (case ps1 => exact rfl))
  | with_reducible refine sRet_i ?_
  | with_reducible refine sSeq_setM ?_
  | with_reducible refine sSetM_i ?_
  | ((with_reducible refine' sDput_i ?ps1 ?_); (case ps1 => exact rfl))
  | ((with_reducible refine' eO_d ?ps1 ?_); (case ps1 => exact rfl))
  | with_reducible refine dDin_i ?_
  | with_reducible refine mE_i ?_
  | with_reducible refine mLst_i ?_
  | with_reducible refine mTup_i ?_
  | with_reducible refine mCons_i ?_
  | with_reducible refine mNil_i ?_
  | ((with_reducible refine' mPop_i ?ps1 ?_); (case ps1 => exact rfl))
  | ((with_reducible refine' mPop0_i ?ps1 ?_); (case ps1 => exact rfl))
  | with_reducible refine sSeq_ifr ?_
  | with_reducible refine sSeq_asg ?_
  | with_reducible refine sSeq_own ?_
  | with_reducible refine sSeq_app ?_
  | with_reducible refine sSeq_for ?_
  | with_reducible refine sSeq_par ?_
  | with_reducible refine sSeq_drop ?_
  | with_reducible refine sSeq_put ?_
  | with_reducible refine sSeq_pop ?_
  | with_reducible refine sSeq_ifn ?_
  | ((with_reducible refine' dIx_t ?ps1 ?_); (case ps1 => exact rfl))
  | with_reducible refine dI0_i ?_
  | with_reducible refine dAdd_i ?_
  | with_reducible refine dEq_int ?_
  | with_reducible refine dNe_int ?_
  | walk_at "pscall"
  | with_reducible refine sNext_i ?_
  | with_reducible refine eTup_i ?_
  | with_reducible refine sIf_i ?_
  | with_reducible refine tAndP_i ?_
  | with_reducible refine tOrP_i ?_
  | with_reducible refine tNotP_i ?_
  | with_reducible refine gMax_2 ?_
  | with_reducible refine gMin_2 ?_
  | with_reducible refine gMax_3 ?_
  | with_reducible refine gMin_3 ?_
  | with_reducible refine gMax_4 ?_
  | with_reducible refine gMin_4 ?_
  | with_reducible refine gMax_5 ?_
  | with_reducible refine gAbs_i ?_
  | with_reducible refine gLen_t ?_
  | with_reducible refine gLen_l ?_
  | with_reducible refine gInt_i ?_
  | with_reducible refine gInt_b ?_
  | ((with_reducible refine' gIsi_i ?ps1 ?ps2 ?_); (case ps1 => exact rfl); (case ps2 => exact rfl))
  | with_reducible refine sAsg_i ?_
  | ((with_reducible refine' gtTup_i ?ps1 ?_); (case ps1 => exact rfl))
  | with_reducible refine gtNil_i ?_
  | with_reducible refine sPar_i ?_
  | with_reducible refine prK_i ?_
  | with_reducible refine inK_i ?_
  | with_reducible refine sqK_t ?_
  | with_reducible refine sqK_l ?_
  | with_reducible refine bk_i ?_
  | with_reducible refine ct_i ?_
  | with_reducible refine eUn_i ?_
  | with_reducible refine dNeg_i ?_
  | with_reducible refine dNot_i ?_
  | with_reducible refine eAnd_i ?_
  | with_reducible refine eOr_i ?_
  | with_reducible refine eChain_i ?_
  | with_reducible refine eIf_i ?_
  | ((with_reducible refine' dIx_l ?ps1 ?_); (case ps1 => exact rfl))
  | with_reducible refine eLst_i ?_
  | with_reducible refine dTuple_l ?_
  | with_reducible refine dTuple_t ?_
  | with_reducible refine dList_l ?_
  | with_reducible refine dList_t ?_
  | ((with_reducible refine' eO_i ?ps1 ?_); (case ps1 => exact rfl))
  | with_reducible refine sOwn_i ?_
  | ((with_reducible refine' and_lt ?ps1 ?_); (case ps1 => exact rfl))
  | ((with_reducible refine' sAppend_i ?ps1 ?_); (case ps1 => exact rfl))
  | ((with_reducible refine' sFrz_i ?ps1 ?_); (case ps1 => exact rfl))
  | ((with_reducible refine' sRetO_i ?ps1 ?_); (case ps1 => exact rfl))
  | with_reducible refine sRetN_i ?_
  | with_reducible refine sDrop_i ?_
  | with_reducible refine sFor_i ?_
  | with_reducible refine iRange1_i ?_
  | with_reducible refine iRange2_i ?_
  | with_reducible refine iSeq_i ?_
  | with_reducible refine iEnumS_i ?_
  | with_reducible refine iEnum0_i ?_
  | with_reducible refine en0K_t ?_
  | with_reducible refine en0K_l ?_
  | with_reducible refine iRev1_i ?_
  | with_reducible refine sSeq_ins ?_
  | with_reducible refine sSeq_aug ?_
  | ((with_reducible refine' sAug_i ?ps1 ?_); (case ps1 => exact rfl))
  | ((with_reducible refine' sInsert_i ?ps1 ?_); (case ps1 => exact rfl))
  | ((with_reducible refine' sPopAt_i ?ps1 ?_); (case ps1 => exact rfl))
  | with_reducible refine eSl_i ?_
  | with_reducible refine eLc_i ?_
  | with_reducible refine eLc2_i ?_
  | with_reducible refine oNo_i ?_
  | with_reducible refine oPart_i ?_
  | with_reducible refine dSl_t ?_
  | with_reducible refine dSl_l ?_
  | with_reducible refine dRevL_i ?_
  | with_reducible refine eRg1_i ?_
  | with_reducible refine bCase_t ?_
  | with_reducible refine bCase_f ?_
  | with_reducible refine ite_t ?_
  | with_reducible refine ite_f ?_
  | with_reducible refine ite_nt ?_
  | with_reducible refine ite_nf ?_
  | ((with_reducible refine' dII_i ?ps1 ?_); (case ps1 => walk_at "psside")))
local macro_rules | `(tactic| walk_at "psenv") => `(tactic| simp only [List.map_cons, List.map_nil, List.cons_append, List.nil_append, List.length_cons, List.length_nil, Nat.reduceAdd, Nat.reduceSub, List.replicate])
structure En where
  (x y s l : Int)
abbrev enD (e : En) : D := .tup [.int e.x, .int e.y, .int e.s, .int e.l]
def OkI (x : Int) : Prop := -1000000 ≤ x ∧ x ≤ 1000000
def OkE (e : En) : Prop := OkI e.x ∧ OkI e.y ∧ 0 ≤ e.s ∧ e.s ≤ 1000000 ∧ 0 ≤ e.l ∧ e.l ≤ 1000000
theorem draw_i {m : Int} {k : D → Prop} (m0 : 0 < m) (m1 : m < 1073741824) (h : ∀ t : Int, 0 ≤ t → t < m → k (.int t)) : wp__law_draw [.deck 3, .int m] k := ⟨⟨m0, m1⟩, h⟩
theorem pick4 {a b c d t : Int} {k : D → Prop} (h0 : 0 ≤ t) (h1 : t < 4) (h : ∀ x, (x = a ∨ x = b ∨ x = c ∨ x = d) → k (.int x)) : dIx (.lst [.int a, .int b, .int c, .int d]) (.int t) k :=
  dIx_in h0 h1 fun x hx => by
    simp only [List.mem_cons, List.not_mem_nil, or_false] at hx
    rcases hx with rfl | rfl | rfl | rfl
    · exact h _ (.inl rfl)
    · exact h _ (.inr (.inl rfl))
    · exact h _ (.inr (.inr (.inl rfl)))
    · exact h _ (.inr (.inr (.inr rfl)))
/-- a list of two drawn numbers -/
theorem lc_two {pg : PGt} {pt : PTs'} {pe : PX} {env : List SV} {k : List D → Prop} {a b : D} (R : Int → Prop)
    (hs : ∀ (d : D) (A : D → Prop) (B : Prop), d = a ∨ d = b → (∀ x, R x → A (.int x)) → pg d env fun env1 => pt env1 fun b => if b = true then pe env1 A else B)
    (hk : ∀ x y, R x → R y → k [.int x, .int y]) : lcP pg pt pe env [a, b] [] k := by
  refine lcP_i (fun i acc => (i = 0 ∧ acc = []) ∨ (i = 1 ∧ ∃ x, R x ∧ acc = [.int x]) ∨ (i = 2 ∧ ∃ x y, R x ∧ R y ∧ acc = [.int x, .int y])) _ 0 (.inl ⟨rfl, rfl⟩) ?_ ?_
  · intro i d acc hd hI
    have hm : d = a ∨ d = b := by
      have := List.mem_of_getElem? hd
      simpa using this
    have hi : i < 2 := (List.getElem?_eq_some_iff.mp hd).1
    refine ⟨?_, fun A B hA hB => hs d A B hm fun x hx => hA _ ?_⟩
    · rcases hI with ⟨_, rfl⟩ | ⟨_, x, _, rfl⟩ | ⟨_, x, y, _, _, rfl⟩ <;> exact Nat.le_of_ble_eq_true rfl
    · rcases hI with ⟨q, rfl⟩ | ⟨q, y, hy, rfl⟩ | ⟨q, _⟩
      · exact .inr (.inl ⟨by omega, x, hx, rfl⟩)
      · exact .inr (.inr ⟨by omega, y, x, hy, hx, rfl⟩)
      · omega
  · rintro acc (⟨q, _⟩ | ⟨q, _⟩ | ⟨_, x, y, hx, hy, rfl⟩)
    · simp at q
    · simp at q
    · exact hk x y hx hy
theorem rg2 : rangeD 0 (2 : Int).toNat = [.int 0, .int 1] := rfl
theorem place_i {way edge : Int} {k : D → Prop} (he : -3 ≤ edge ∧ edge ≤ 3) (h : ∀ x y, OkI x → OkI y → k (.tup [.int x, .int y])) : wp__law_place [.deck 3, .int way, .int edge] k := by
  unfold wp__law_place wpOf
  walk_at "psenv"
  unfold P__law_place
  repeat walk_at "ps"
  refine ite_d (fun _ => ?_) (fun _ => ?_)
  · repeat walk_at "ps"
    refine draw_i (by decide) (by decide) fun t t0 t1 => ?_
    repeat walk_at "ps"
    exact h _ _ ⟨by omega, by omega⟩ ⟨by omega, by omega⟩
  repeat walk_at "ps"
  refine sSeq_i ?_
  repeat walk_at "ps"
  refine ite_d (fun _ => ?_) (fun _ => ?_)
  · repeat walk_at "ps"
    refine draw_i (by decide) (by decide) fun t t0 t1 => ?_
    repeat walk_at "ps"
    exact h _ _ ⟨by omega, by omega⟩ ⟨by omega, by omega⟩
  repeat walk_at "ps"
  refine ite_d (fun _ => ?_) (fun _ => ?_)
  · repeat walk_at "ps"
    refine rgK1_i (by decide) (by decide) ⟨by simp [noOwn], ?_⟩
    rw [rg2]
    refine lc_two OkI (fun d A B _ hA => ?_) fun x y hx hy => ?_
    · repeat walk_at "ps"
      refine draw_i (by decide) (by decide) fun t t0 t1 => ?_
      refine pick4 t0 t1 fun x hx => hA x ?_
      rcases hx with rfl | rfl | rfl | rfl <;> exact ⟨by decide, by decide⟩
    · repeat walk_at "ps"
      exact h x y hx hy
  repeat walk_at "ps"
  refine ite_d (fun _ => ?_) (fun _ => ?_)
  · repeat walk_at "ps"
    refine rgK1_i (by decide) (by decide) ⟨by simp [noOwn], ?_⟩
    rw [rg2]
    refine lc_two OkI (fun d A B _ hA => ?_) fun x y hx hy => ?_
    · repeat walk_at "ps"
      refine draw_i (by decide) (by decide) fun t t0 t1 => ?_
      repeat walk_at "ps"
      exact hA _ ⟨by omega, by omega⟩
    · repeat walk_at "ps"
      exact h x y hx hy
  repeat walk_at "ps"
  refine draw_i (by decide) (by decide) fun t t0 t1 => ?_
  repeat walk_at "ps"
  refine draw_i (by decide) (by decide) fun u u0 u1 => ?_
  repeat walk_at "ps"
  exact h _ _ ⟨by omega, by omega⟩ ⟨by omega, by omega⟩
theorem start_i {way : Int} {k : D → Prop} (h : ∀ t, 0 ≤ t → t ≤ 1000000 → k (.int t)) : wp__law_start [.deck 3, .int way] k := by
  unfold wp__law_start wpOf
  walk_at "psenv"
  unfold P__law_start
  repeat walk_at "ps"
  refine ite_d (fun _ => ?_) (fun _ => ?_)
  · repeat walk_at "ps"
    exact h _ (by decide) (by decide)
  repeat walk_at "ps"
  refine ite_d (fun _ => ?_) (fun _ => ?_)
  · repeat walk_at "ps"
    exact draw_i (by decide) (by decide) fun t t0 t1 => h t (by omega) (by omega)
  repeat walk_at "ps"
  refine draw_i (by decide) (by decide) fun t t0 t1 => ?_
  repeat walk_at "ps"
  refine ite_d (fun _ => ?_) (fun q => ?_)
  · repeat walk_at "ps"
    exact draw_i (by decide) (by decide) fun t t0 t1 => h t (by omega) (by omega)
  repeat walk_at "ps"
  refine dIx_in t0 (by simp; omega) fun d hd => ?_
  simp only [List.mem_cons, List.not_mem_nil, or_false] at hd
  rcases hd with rfl | rfl | rfl <;> exact h _ (by decide) (by decide)
theorem plnInt2 {e : En} {n : Nat} : pln (n + 1) (enD e) = true := by simp [pln, plnA]
theorem plnEn {n : Nat} (es : List En) : plnA (n + 1) (es.map enD) = true := by
  rw [plnA_iff]
  intro x hx
  obtain ⟨e, _, rfl⟩ := List.mem_map.mp hx
  exact plnInt2
theorem rangeD_at {lo : Int} {n i : Nat} {d : D} (h : (rangeD lo n)[i]? = some d) : d = .int (lo + (i : Nat)) ∧ i < n := by
  have hl := (List.getElem?_eq_some_iff.mp h).1
  have hi : i < n := by simpa [rangeD] using hl
  refine ⟨?_, hi⟩
  simpa [rangeD, hi, List.getElem?_map, List.getElem?_range] using h.symm
theorem rangeD_len {lo : Int} {n : Nat} : (rangeD lo n).length = n := by simp [rangeD]
abbrev Jn := List (Int × Int)
abbrev jD (r : Int × Int) : D := .tup [.int r.1, .int r.2]
theorem perm_er {α : Type} : ∀ {W : List α} {i : Nat} {x : α}, W[i]? = some x → W.Perm (x :: W.eraseIdx i)
  | [], i, x, h => by simp at h
  | w :: W, 0, x, h => by simp at h; subst h; exact List.Perm.refl _
  | w :: W, i + 1, x, h => by
    have := perm_er (W := W) (i := i) (x := x) (by simpa using h)
    exact (this.cons w).trans (List.Perm.swap x w _)
theorem er_map {α β : Type} (f : α → β) : ∀ (W : List α) (i : Nat), (W.map f).eraseIdx i = (W.eraseIdx i).map f
  | [], i => by simp
  | w :: W, 0 => by simp
  | w :: W, i + 1 => by simp [er_map f W i]
def rgI (n : Nat) : List Int := (List.range n).map fun i : Nat => ((i : Nat) : Int)
theorem rgI_succ (n : Nat) : rgI (n + 1) = rgI n ++ [(n : Int)] := by
  unfold rgI
  rw [List.range_succ, List.map_append]
  rfl
def at? {α : Type} (L : List (List α)) (i : Int) : List α := (L[i.toNat]?).getD []
def ext {α : Type} (L : List (List α)) : Jn → List (List α)
  | [] => L
  | r :: J => ext (L ++ [at? L r.1 ++ at? L r.2]) J
def JV : Nat → Jn → Prop
  | _, [] => True
  | n, r :: J => (0 ≤ r.1 ∧ r.1 < n ∧ 0 ≤ r.2 ∧ r.2 < n) ∧ JV (n + 1) J
def sds (J : Jn) : List Int := J.flatMap fun r => [r.1, r.2]
structure JInv (n i : Nat) (W : List Int) (J : Jn) : Prop where
  wl : W.length + i = n
  jl : J.length = i
  v : JV n J
  use : (sds J ++ W).Perm (rgI (n + i))
  few : ∀ {α : Type} (L : List (List α)), L.length = n → ∀ i, (at? (ext L J) i).length ≤ L.flatten.length
  all : ∀ {α : Type} (L : List (List α)), L.length = n → (W.flatMap fun w => at? (ext L J) w).Perm L.flatten
/-- a joining of n ends, each knot but the last one in just one row -/
structure JOk (n : Nat) (J : Jn) : Prop where
  v : JV n J
  len : J.length + 1 = n
  use : (sds J ++ [(n : Int) + J.length - 1]).Perm (rgI (n + J.length))
  all : ∀ {α : Type} (L : List (List α)), L.length = n → (at? (ext L J) ((n : Int) + J.length - 1)).Perm L.flatten
  few : ∀ {α : Type} (L : List (List α)), L.length = n → ∀ i, (at? (ext L J) i).length ≤ L.flatten.length
theorem len_fl {α : Type} : ∀ {L : List (List α)} {l : List α}, l ∈ L → l.length ≤ L.flatten.length
  | a :: L, l, h => by
    rw [List.flatten_cons, List.length_append]
    rcases List.mem_cons.mp h with q | q
    · rw [q]; omega
    · have := len_fl q; omega
theorem at_len {α : Type} {L : List (List α)} {i : Int} : (at? L i).length ≤ L.flatten.length := by
  unfold at?
  cases q : L[i.toNat]? with
  | none => simp
  | some l => exact len_fl (List.mem_of_getElem? q)
theorem rgI_len (n : Nat) : (rgI n).length = n := by simp [rgI]
def lenAt (ls : List Int) (w : Int) : Int := (ls[w.toNat]?).getD 0
structure OvOk (n : Nat) (J : Jn) (O : List Int) : Prop where
  len : (O.length : Int) = (n : Int) + J.length - 1
  hit : ∀ (i : Nat) (r : Int × Int), J[i]? = some r → O[r.1.toNat]? = some ((n + i : Nat) : Int) ∧ O[r.2.toNat]? = some ((n + i : Nat) : Int)
abbrev Lx (es : List En) (J : Jn) : List (List En) := ext (es.map fun e => [e]) J
theorem jv_at : ∀ (J : Jn) (m i : Nat) (r : Int × Int), JV m J → J[i]? = some r → 0 ≤ r.1 ∧ r.1 < (m + i : Nat) ∧ 0 ≤ r.2 ∧ r.2 < (m + i : Nat)
  | r0 :: J, m, 0, r, hv, h => by
    cases h
    exact hv.1
  | r0 :: J, m, i + 1, r, hv, h => by
    have := jv_at J (m + 1) i r hv.2 (by simpa using h)
    omega
theorem mem_sds {J : Jn} {x : Int} : x ∈ sds J ↔ ∃ (i : Nat) (r : Int × Int), J[i]? = some r ∧ (x = r.1 ∨ x = r.2) := by
  unfold sds
  rw [List.mem_flatMap]
  constructor
  · rintro ⟨r, hr, hx⟩
    obtain ⟨i, hi⟩ := List.getElem?_of_mem hr
    exact ⟨i, r, hi, by simpa using hx⟩
  · rintro ⟨i, r, hi, hx⟩
    exact ⟨r, List.mem_of_getElem? hi, by simpa using hx⟩
theorem rgI_mem {n : Nat} {w : Int} : w ∈ rgI n ↔ 0 ≤ w ∧ w < n := by
  unfold rgI
  rw [List.mem_map]
  constructor
  · rintro ⟨i, hi, rfl⟩
    have := List.mem_range.mp hi
    omega
  · rintro ⟨h0, h1⟩
    exact ⟨w.toNat, List.mem_range.mpr (by omega), by omega⟩
theorem root_only {n : Nat} {J : Jn} (h : JOk n J) {x : Int} (x0 : 0 ≤ x) (x1 : x < (n + J.length : Nat)) (hx : x ∉ sds J) : x = (n : Int) + J.length - 1 := by
  have := h.use.mem_iff.mpr (rgI_mem.mpr ⟨x0, x1⟩)
  rcases List.mem_append.mp this with q | q
  · exact absurd q hx
  · exact List.mem_singleton.mp q
theorem OvOk.at {n : Nat} {J : Jn} {O : List Int} (h : OvOk n J O) (hJ : JOk n J) {x : Int} (x0 : 0 ≤ x) (x1 : x < O.length) : x ∈ sds J ∧ ∃ (i : Nat) (r : Int × Int), J[i]? = some r ∧ (x = r.1 ∨ x = r.2) ∧ i < J.length ∧ O[x.toNat]? = some ((n + i : Nat) : Int) := by
  have hl := h.len
  have hx : x ∈ sds J := by
    by_cases q : x ∈ sds J
    · exact q
    · have := root_only hJ x0 (by omega) q
      omega
  obtain ⟨i, r, hr, hy⟩ := mem_sds.mp hx
  refine ⟨hx, i, r, hr, hy, (List.getElem?_eq_some_iff.mp hr).1, ?_⟩
  rcases hy with e | e
  · rw [e]; exact (h.hit i r hr).1
  · rw [e]; exact (h.hit i r hr).2
theorem OvOk.nx {n : Nat} {J : Jn} {O : List Int} (h : OvOk n J O) (hJ : JOk n J) {x : Int} (x0 : 0 ≤ x) (x1 : x < O.length) : ∃ (i : Nat) (r : Int × Int), J[i]? = some r ∧ (x = r.1 ∨ x = r.2) ∧ lenAt O x = ((n + i : Nat) : Int) ∧ x < lenAt O x ∧ i < J.length := by
  obtain ⟨_, i, r, hr, hy, hi, ho⟩ := h.at hJ x0 x1
  have e : lenAt O x = ((n + i : Nat) : Int) := by unfold lenAt; rw [ho]; rfl
  have hv := jv_at J n i r hJ.v hr
  refine ⟨i, r, hr, hy, e, ?_, hi⟩
  rw [e]
  rcases hy with q | q <;> omega
def jAt (S : Jn) (w : Int) : Int × Int := (S[w.toNat]?).getD (0, 0)
theorem jAt_rep {m : Nat} {t : Int × Int} {x : Int} (x0 : 0 ≤ x) (x1 : x < m) : jAt (List.replicate m t) x = t := by
  unfold jAt
  rw [List.getElem?_replicate, if_pos (by omega)]
  rfl
def U (e : En) : Int := 2 * (e.x + e.y)
def loU (h : Int) (l : List En) : Int := maxI (l.map fun p => U p - (h - 2 * p.s))
def hiU (h : Int) (l : List En) : Int := minI (l.map fun p => U p + (h - 2 * p.s))
def Vv (e : En) : Int := 2 * (e.x - e.y)
def loV (h : Int) (l : List En) : Int := maxI (l.map fun p => Vv p - (h - 2 * p.s))
def hiV (h : Int) (l : List En) : Int := minI (l.map fun p => Vv p + (h - 2 * p.s))
structure InH (h : Int) (l : List En) (t : Int × Int) : Prop where
  a : loU h l ≤ t.1
  b : t.1 ≤ hiU h l
  c : loV h l ≤ t.2
  d : t.2 ≤ hiV h l
def offP (a b : Int × Int) : Int := max (max (a.1 - b.1) (-(a.1 - b.1))) (max (a.2 - b.2) (-(a.2 - b.2)))
/-- the joints from m on have been gone through -/
structure Kn (es : List En) (J : Jn) (O G : List Int) (m : Int) (X : List D) (S : Jn) : Prop where
  xl : X.length = es.length + J.length
  sl : S.length = es.length + J.length
  at' : ∀ x : Int, 0 ≤ x → x < (es.length + J.length : Nat) → (x = (es.length : Int) + J.length - 1 ∨ m ≤ lenAt O x) → X[x.toNat]? = some (jD (jAt S x)) ∧ InH (lenAt G x) (at? (Lx es J) x) (jAt S x)
  far : ∀ x : Int, 0 ≤ x → x < O.length → m ≤ lenAt O x → offP (jAt S x) (jAt S (lenAt O x)) ≤ lenAt G (lenAt O x) - lenAt G x
theorem lenAt_out {O : List Int} {x : Int} (h : (O.length : Int) ≤ x) : lenAt O x = 0 := by
  unfold lenAt
  rw [List.getElem?_eq_none (by omega)]
  rfl
theorem Kn.start {es : List En} {J : Jn} {O G : List Int} {X : List D} {t : Int × Int} (h1 : 1 ≤ es.length) (hJ : JOk es.length J) (hO : OvOk es.length J O) (hX : X.length = es.length + J.length) (ht : InH (lenAt G ((es.length : Int) + J.length - 1)) (at? (Lx es J) ((es.length : Int) + J.length - 1)) t) :
    Kn es J O G ((es.length + J.length : Nat) : Int) (X.set (es.length + J.length - 1) (jD t)) (List.replicate (es.length + J.length) t) := by
  have hol := hO.len
  have no : ∀ x : Int, 0 ≤ x → x < O.length → ¬ ((es.length + J.length : Nat) : Int) ≤ lenAt O x := fun x x0 x1 q => by
    obtain ⟨i, r, hr, hy, e, lt, hi⟩ := hO.nx hJ x0 x1
    omega
  refine ⟨by rw [List.length_set, hX], by simp, fun x x0 x1 hx => ?_, fun x x0 x1 hx => absurd hx (no x x0 x1)⟩
  have e : x = (es.length : Int) + J.length - 1 := by
    rcases hx with q | q
    · exact q
    · by_cases w : x < O.length
      · exact absurd q (no x x0 w)
      · rw [lenAt_out (by omega)] at q
        omega
  rw [jAt_rep x0 (by omega), e, show ((es.length : Int) + J.length - 1).toNat = es.length + J.length - 1 by omega, List.getElem?_set_self (by omega)]
  exact ⟨rfl, ht⟩
theorem JInv.start (n : Nat) : JInv n 0 (rgI n) [] := by
  refine ⟨by rw [rgI_len]; rfl, rfl, trivial, List.Perm.refl _, fun L _ i => at_len, ?_⟩
  intro α L hL
  have : (rgI n).flatMap (fun w => at? (ext L []) w) = L.flatten := by
    unfold rgI
    rw [List.flatMap_map, ← hL]
    show (List.range L.length).flatMap (fun i => at? L ((i : Nat) : Int)) = _
    have e : L = (List.range L.length).map fun i => at? L ((i : Nat) : Int) := by
      apply List.ext_getElem?
      intro i
      by_cases hi : i < L.length
      · rw [List.getElem?_map, List.getElem?_range hi]
        show _ = some (at? L (i : Int))
        unfold at?
        rw [Int.toNat_natCast, List.getElem?_eq_getElem hi]
        rfl
      · rw [List.getElem?_eq_none (by omega), List.getElem?_eq_none (by simp; omega)]
    rw [List.flatMap_def, ← e]
  rw [this]
theorem ext_len {α : Type} : ∀ (J : Jn) (L : List (List α)), (ext L J).length = L.length + J.length
  | [], L => rfl
  | r :: J, L => by unfold ext; rw [ext_len J]; simp; omega
theorem ext_snoc {α : Type} : ∀ (J : Jn) (L : List (List α)) (r : Int × Int), ext L (J ++ [r]) = ext L J ++ [at? (ext L J) r.1 ++ at? (ext L J) r.2]
  | [], L, r => rfl
  | q :: J, L, r => by
    show ext (L ++ [at? L q.1 ++ at? L q.2]) (J ++ [r]) = _
    rw [ext_snoc J]
    rfl
theorem jv_snoc : ∀ (J : Jn) (n : Nat) (r : Int × Int), JV n J → 0 ≤ r.1 → r.1 < (n + J.length : Nat) → 0 ≤ r.2 → r.2 < (n + J.length : Nat) → JV n (J ++ [r])
  | [], n, r, _, h1, h2, h3, h4 => ⟨⟨h1, by simpa using h2, h3, by simpa using h4⟩, trivial⟩
  | q :: J, n, r, hv, h1, h2, h3, h4 => ⟨hv.1, jv_snoc J (n + 1) r hv.2 h1 (by simp at h2 ⊢; omega) h3 (by simp at h4 ⊢; omega)⟩
theorem JInv.bnd {n i : Nat} {W : List Int} {J : Jn} (h : JInv n i W J) {w : Int} (hw : w ∈ W) : 0 ≤ w ∧ w < (n + i : Nat) := rgI_mem.mp (h.use.mem_iff.mp (List.mem_append_right _ hw))
theorem jAt_set {S : Jn} {j : Nat} {x : Int} {t : Int × Int} (x0 : 0 ≤ x) (hj : j < S.length) : jAt (S.set j t) x = if x = j then t else jAt S x := by
  unfold jAt
  split
  · rename_i q
    rw [q, Int.toNat_natCast, List.getElem?_set_self hj]
    rfl
  · rw [List.getElem?_set_ne (by omega)]
def want (p q : En) : Int := p.s + q.s + (max (p.x - q.x) (-(p.x - q.x)) + max (p.y - q.y) (-(p.y - q.y)))
def hF (l : List En) : Int := maxI (l.flatMap fun p => l.map fun q => want p q)
theorem want_le {l : List En} {p q : En} (hp : p ∈ l) (hq : q ∈ l) : want p q ≤ hF l := maxI_le (List.mem_flatMap.mpr ⟨p, hp, List.mem_map.mpr ⟨q, hq, rfl⟩⟩)
theorem hF_mem {l : List En} (h : l ≠ []) : ∃ p ∈ l, ∃ q ∈ l, hF l = want p q := by
  have hne : (l.flatMap fun p => l.map fun q => want p q) ≠ [] := by
    cases l with
    | nil => exact absurd rfl h
    | cons a r => simp
  obtain ⟨p, hp, hx⟩ := List.mem_flatMap.mp (maxI_mem hne)
  obtain ⟨q, hq, e⟩ := List.mem_map.mp hx
  exact ⟨p, hp, q, hq, e.symm⟩
theorem uu {p q : En} {h : Int} (hw : want p q ≤ h) : U p - (h - 2 * p.s) ≤ U q + (h - 2 * q.s) ∧ Vv p - (h - 2 * p.s) ≤ Vv q + (h - 2 * q.s) := by
  unfold want at hw
  unfold U Vv
  omega
theorem mm {l : List En} {f g : En → Int} (hl : l ≠ []) (h : ∀ p ∈ l, ∀ q ∈ l, f p ≤ g q) : maxI (l.map f) ≤ minI (l.map g) := by
  have h1 := maxI_mem (ns := l.map f) (by simpa using hl)
  have h2 := minI_mem (ns := l.map g) (by simpa using hl)
  obtain ⟨p, hp, e1⟩ := List.mem_map.mp h1
  obtain ⟨q, hq, e2⟩ := List.mem_map.mp h2
  rw [← e1, ← e2]
  exact h p hp q hq
structure Bok (l : List En) (h a b c d : Int) : Prop where
  ab : a ≤ b
  cd : c ≤ d
  flat : min (b - a) (d - c) ≤ 0
  a_le : ∀ e ∈ l, U e - (h - 2 * e.s) ≤ a
  b_le : ∀ e ∈ l, b ≤ U e + (h - 2 * e.s)
  c_le : ∀ e ∈ l, Vv e - (h - 2 * e.s) ≤ c
  d_le : ∀ e ∈ l, d ≤ Vv e + (h - 2 * e.s)
  a_at : ∃ e ∈ l, U e - (h - 2 * e.s) = a
  b_at : ∃ e ∈ l, U e + (h - 2 * e.s) = b
  c_at : ∃ e ∈ l, Vv e - (h - 2 * e.s) = c
  d_at : ∃ e ∈ l, Vv e + (h - 2 * e.s) = d
theorem bok {l : List En} (h0 : l ≠ []) : Bok l (hF l) (loU (hF l) l) (hiU (hF l) l) (loV (hF l) l) (hiV (hF l) l) := by
  have ne : ∀ f : En → Int, l.map f ≠ [] := fun f => by simpa using h0
  have at1 : ∀ f : En → Int, ∃ e ∈ l, f e = maxI (l.map f) := fun f => by
    obtain ⟨e, he, q⟩ := List.mem_map.mp (maxI_mem (ne f)); exact ⟨e, he, q⟩
  have at2 : ∀ f : En → Int, ∃ e ∈ l, f e = minI (l.map f) := fun f => by
    obtain ⟨e, he, q⟩ := List.mem_map.mp (minI_mem (ne f)); exact ⟨e, he, q⟩
  have le1 : ∀ (f : En → Int), ∀ e ∈ l, f e ≤ maxI (l.map f) := fun f e he => maxI_le (List.mem_map.mpr ⟨e, he, rfl⟩)
  have le2 : ∀ (f : En → Int), ∀ e ∈ l, minI (l.map f) ≤ f e := fun f e he => minI_le (List.mem_map.mpr ⟨e, he, rfl⟩)
  have hab : loU (hF l) l ≤ hiU (hF l) l := mm h0 fun p hp q hq => (uu (want_le hp hq)).1
  have hcd : loV (hF l) l ≤ hiV (hF l) l := mm h0 fun p hp q hq => (uu (want_le hp hq)).2
  refine ⟨hab, hcd, ?_, le1 _, le2 _, le1 _, le2 _, at1 _, at2 _, at1 _, at2 _⟩
  obtain ⟨p, hp, q, hq, e⟩ := hF_mem h0
  have a1 : U p - (hF l - 2 * p.s) ≤ loU (hF l) l := le1 (fun p => U p - (hF l - 2 * p.s)) p hp
  have a2 : U q - (hF l - 2 * q.s) ≤ loU (hF l) l := le1 (fun p => U p - (hF l - 2 * p.s)) q hq
  have b1 : hiU (hF l) l ≤ U p + (hF l - 2 * p.s) := le2 (fun p => U p + (hF l - 2 * p.s)) p hp
  have b2 : hiU (hF l) l ≤ U q + (hF l - 2 * q.s) := le2 (fun p => U p + (hF l - 2 * p.s)) q hq
  have c1 : Vv p - (hF l - 2 * p.s) ≤ loV (hF l) l := le1 (fun p => Vv p - (hF l - 2 * p.s)) p hp
  have c2 : Vv q - (hF l - 2 * q.s) ≤ loV (hF l) l := le1 (fun p => Vv p - (hF l - 2 * p.s)) q hq
  have d1 : hiV (hF l) l ≤ Vv p + (hF l - 2 * p.s) := le2 (fun p => Vv p + (hF l - 2 * p.s)) p hp
  have d2 : hiV (hF l) l ≤ Vv q + (hF l - 2 * q.s) := le2 (fun p => Vv p + (hF l - 2 * p.s)) q hq
  generalize hF l = h at *
  generalize loU h l = a at *
  generalize hiU h l = b at *
  generalize loV h l = c at *
  generalize hiV h l = d at *
  unfold want at e
  unfold U Vv at *
  omega
def Hh (L : List (List En)) (w : Int) : Int := hF (at? L w)
def lsF (L : List (List En)) (O : List Int) : List Int := (rgI O.length).map fun x => Hh L (lenAt O x) - Hh L x
def nearP (l : List En) (t : Int × Int) : Int × Int := (max (loU (hF l) l) (min (hiU (hF l) l) t.1), max (loV (hF l) l) (min (hiV (hF l) l) t.2))
structure SpOk (T : Int × Int) (L : List (List En)) (O : List Int) (S : Jn) : Prop where
  len : S.length = L.length
  root : jAt S ((L.length : Int) - 1) = T
  nx : ∀ x : Int, 0 ≤ x → x < O.length → jAt S x = nearP (at? L x) (jAt S (lenAt O x))
theorem ext_ne {α : Type} : ∀ (J : Jn) (L : List (List α)), JV L.length J → (∀ l ∈ L, l ≠ []) → ∀ l ∈ ext L J, l ≠ []
  | [], L, _, h => h
  | r :: J, L, hv, h => by
    unfold ext
    refine ext_ne J _ (by rw [List.length_append]; exact hv.2) fun l hl => ?_
    rcases List.mem_append.mp hl with q | q
    · exact h l q
    · rw [List.mem_singleton.mp q]
      obtain ⟨h1, h2, _⟩ := hv.1
      have hl : r.1.toNat < L.length := by omega
      unfold at?
      rw [List.getElem?_eq_getElem hl]
      have := h _ (List.getElem_mem hl)
      simp [this]
theorem at_mem {α : Type} {L : List (List α)} {i : Int} (h0 : 0 ≤ i) (h1 : i < L.length) : at? L i ∈ L ∧ L[i.toNat]? = some (at? L i) := by
  have hl : i.toNat < L.length := by omega
  unfold at?
  rw [List.getElem?_eq_getElem hl]
  exact ⟨List.getElem_mem hl, rfl⟩
theorem lx_len (es : List En) (J : Jn) : (Lx es J).length = es.length + J.length := by rw [ext_len, List.length_map]
theorem lx_ne {es : List En} {J : Jn} (hv : JV es.length J) {x : Int} (x0 : 0 ≤ x) (x1 : x < (es.length + J.length : Nat)) : at? (Lx es J) x ≠ [] := by
  refine ext_ne J _ (by rw [List.length_map]; exact hv) (fun l hl => ?_) _ (at_mem x0 (by rw [lx_len]; exact x1)).1
  obtain ⟨e, _, rfl⟩ := List.mem_map.mp hl
  simp
theorem rgI_get {n i : Nat} (h : i < n) : (rgI n)[i]? = some (i : Int) := by
  unfold rgI
  rw [List.getElem?_map, List.getElem?_range h]
  rfl
theorem lenAt_rg {n : Nat} {f : Int → Int} {x : Int} (x0 : 0 ≤ x) (x1 : x < n) : lenAt ((rgI n).map f) x = f x := by
  unfold lenAt
  rw [List.getElem?_map, rgI_get (show x.toNat < n by omega), Int.toNat_of_nonneg x0]
  rfl
theorem lenAt_ls {L : List (List En)} {O : List Int} {x : Int} (x0 : 0 ≤ x) (x1 : x < O.length) : lenAt (lsF L O) x = Hh L (lenAt O x) - Hh L x := lenAt_rg x0 x1
structure InB (l : List En) (t : Int × Int) : Prop where
  a : loU (hF l) l ≤ t.1
  b : t.1 ≤ hiU (hF l) l
  c : loV (hF l) l ≤ t.2
  d : t.2 ≤ hiV (hF l) l
theorem SpOk.inb {T : Int × Int} {es : List En} {J : Jn} {O : List Int} {S : Jn} (h : SpOk T (Lx es J) O S) (hT : InB (at? (Lx es J) ((es.length : Int) + J.length - 1)) T) (hO : OvOk es.length J O) (hJ : JOk es.length J) {x : Int} (x0 : 0 ≤ x) (x1 : x < (es.length + J.length : Nat)) : InB (at? (Lx es J) x) (jAt S x) := by
  have hol := hO.len
  have hll := lx_len es J
  have B := bok (lx_ne hJ.v x0 x1)
  have b1 := B.ab
  have b2 := B.cd
  by_cases q : x = ((Lx es J).length : Int) - 1
  · rw [q, h.root, show ((Lx es J).length : Int) - 1 = (es.length : Int) + J.length - 1 by omega]
    exact hT
  · rw [h.nx x x0 (by omega)]
    unfold nearP
    generalize jAt S (lenAt O x) = t
    refine ⟨?_, ?_, ?_, ?_⟩ <;> dsimp only <;> omega
theorem maxI_sh {l : List En} {f g : En → Int} {c : Int} (h0 : l ≠ []) (h : ∀ e, g e = f e + c) : maxI (l.map g) = maxI (l.map f) + c := by
  symm
  apply maxI_eq
  · obtain ⟨e, he, q⟩ := List.mem_map.mp (maxI_mem (ns := l.map f) (by simpa using h0))
    exact List.mem_map.mpr ⟨e, he, by rw [h, q]⟩
  · intro y hy
    obtain ⟨e, he, rfl⟩ := List.mem_map.mp hy
    have := maxI_le (ns := l.map f) (List.mem_map.mpr ⟨e, he, rfl⟩)
    rw [h]; omega
theorem loU_sh {l : List En} {h h' : Int} (h0 : l ≠ []) : loU h' l = loU h l - (h' - h) := by
  unfold loU; rw [maxI_sh (f := fun p => U p - (h - 2 * p.s)) (c := -(h' - h)) h0 (fun e => by omega)]; omega
theorem minI_sh {l : List En} {f g : En → Int} {c : Int} (h0 : l ≠ []) (h : ∀ e, g e = f e + c) : minI (l.map g) = minI (l.map f) + c := by
  symm
  apply minI_eq
  · obtain ⟨e, he, q⟩ := List.mem_map.mp (minI_mem (ns := l.map f) (by simpa using h0))
    exact List.mem_map.mpr ⟨e, he, by rw [h, q]⟩
  · intro y hy
    obtain ⟨e, he, rfl⟩ := List.mem_map.mp hy
    have := minI_le (ns := l.map f) (List.mem_map.mpr ⟨e, he, rfl⟩)
    rw [h]; omega
theorem hiU_sh {l : List En} {h h' : Int} (h0 : l ≠ []) : hiU h' l = hiU h l + (h' - h) := by
  unfold hiU; rw [minI_sh (f := fun p => U p + (h - 2 * p.s)) (c := h' - h) h0 (fun e => by omega)]
theorem loV_sh {l : List En} {h h' : Int} (h0 : l ≠ []) : loV h' l = loV h l - (h' - h) := by
  unfold loV; rw [maxI_sh (f := fun p => Vv p - (h - 2 * p.s)) (c := -(h' - h)) h0 (fun e => by omega)]; omega
theorem hiV_sh {l : List En} {h h' : Int} (h0 : l ≠ []) : hiV h' l = hiV h l + (h' - h) := by
  unfold hiV; rw [minI_sh (f := fun p => Vv p + (h - 2 * p.s)) (c := h' - h) h0 (fun e => by omega)]
theorem maxI_app {xs ys : List Int} (hx : xs ≠ []) (hy : ys ≠ []) : maxI (xs ++ ys) = max (maxI xs) (maxI ys) := by
  symm
  apply maxI_eq
  · rcases Int.le_total (maxI xs) (maxI ys) with q | q
    · rw [Int.max_eq_right q]; exact List.mem_append_right _ (maxI_mem hy)
    · rw [Int.max_eq_left q]; exact List.mem_append_left _ (maxI_mem hx)
  · intro y h
    rcases List.mem_append.mp h with q | q
    · exact Int.le_trans (maxI_le q) (Int.le_max_left ..)
    · exact Int.le_trans (maxI_le q) (Int.le_max_right ..)
theorem minI_app {xs ys : List Int} (hx : xs ≠ []) (hy : ys ≠ []) : minI (xs ++ ys) = min (minI xs) (minI ys) := by
  symm
  apply minI_eq
  · rcases Int.le_total (minI xs) (minI ys) with q | q
    · rw [Int.min_eq_left q]; exact List.mem_append_left _ (minI_mem hx)
    · rw [Int.min_eq_right q]; exact List.mem_append_right _ (minI_mem hy)
  · intro y h
    rcases List.mem_append.mp h with q | q
    · exact Int.le_trans (Int.min_le_left ..) (minI_le q)
    · exact Int.le_trans (Int.min_le_right ..) (minI_le q)
theorem lo_app {A B : List En} {h : Int} (hA : A ≠ []) (hB : B ≠ []) : loU h (A ++ B) = max (loU h A) (loU h B) ∧ hiU h (A ++ B) = min (hiU h A) (hiU h B) ∧ loV h (A ++ B) = max (loV h A) (loV h B) ∧ hiV h (A ++ B) = min (hiV h A) (hiV h B) := by
  unfold loU hiU loV hiV
  refine ⟨?_, ?_, ?_, ?_⟩
  · rw [List.map_append]; exact maxI_app (by simpa using hA) (by simpa using hB)
  · rw [List.map_append]; exact minI_app (by simpa using hA) (by simpa using hB)
  · rw [List.map_append]; exact maxI_app (by simpa using hA) (by simpa using hB)
  · rw [List.map_append]; exact minI_app (by simpa using hA) (by simpa using hB)
theorem ext_old {α : Type} : ∀ (J : Jn) (L : List (List α)) (i : Nat), i < L.length → (ext L J)[i]? = L[i]?
  | [], L, i, _ => rfl
  | r :: J, L, i, h => by unfold ext; rw [ext_old J _ i (by simp; omega), List.getElem?_append_left h]
theorem ext_at {α : Type} : ∀ (J : Jn) (L : List (List α)) (i : Nat) (r : Int × Int), JV L.length J → J[i]? = some r → (ext L J)[L.length + i]? = some (at? (ext L J) r.1 ++ at? (ext L J) r.2) ∧ 0 ≤ r.1 ∧ r.1 < (L.length + i : Nat) ∧ 0 ≤ r.2 ∧ r.2 < (L.length + i : Nat)
  | q :: J, L, 0, r, hv, h => by
    cases h
    obtain ⟨⟨h1, h2, h3, h4⟩, _⟩ := hv
    refine ⟨?_, h1, by simpa using h2, h3, by simpa using h4⟩
    have o : ∀ i : Int, 0 ≤ i → i < L.length → at? (ext L (q :: J)) i = at? L i := fun i i0 i1 => by
      unfold at?
      rw [ext_old _ _ _ (by omega)]
    rw [o _ h1 h2, o _ h3 h4]
    show (ext (L ++ [at? L q.1 ++ at? L q.2]) J)[L.length + 0]? = _
    rw [ext_old _ _ _ (by simp)]
    simp
  | q :: J, L, i + 1, r, hv, h => by
    have := ext_at J (L ++ [at? L q.1 ++ at? L q.2]) i r (by rw [List.length_append]; exact hv.2) h
    rw [List.length_append, List.length_singleton] at this
    rw [show L.length + (i + 1) = L.length + 1 + i by omega]
    exact this
/-- a side lies in its joint -/
theorem side {es : List En} {J : Jn} {O : List Int} (hO : OvOk es.length J O) (hJ : JOk es.length J) {x : Int} (x0 : 0 ≤ x) (x1 : x < O.length) :
    Hh (Lx es J) x ≤ Hh (Lx es J) (lenAt O x) ∧ ∀ t, InB (at? (Lx es J) (lenAt O x)) t → loU (Hh (Lx es J) x) (at? (Lx es J) x) - (Hh (Lx es J) (lenAt O x) - Hh (Lx es J) x) ≤ t.1 ∧ t.1 ≤ hiU (Hh (Lx es J) x) (at? (Lx es J) x) + (Hh (Lx es J) (lenAt O x) - Hh (Lx es J) x) ∧
      loV (Hh (Lx es J) x) (at? (Lx es J) x) - (Hh (Lx es J) (lenAt O x) - Hh (Lx es J) x) ≤ t.2 ∧ t.2 ≤ hiV (Hh (Lx es J) x) (at? (Lx es J) x) + (Hh (Lx es J) (lenAt O x) - Hh (Lx es J) x) := by
  have hol := hO.len
  obtain ⟨i, r, hr, hy, e, hlt, hi⟩ := hO.nx hJ x0 x1
  have hat := ext_at J (es.map fun e => [e]) i r (by rw [List.length_map]; exact hJ.v) hr
  rw [List.length_map] at hat
  obtain ⟨a1, a2, a3, a4, a5⟩ := hat
  have n1 := lx_ne hJ.v a2 (by omega)
  have n2 := lx_ne hJ.v a4 (by omega)
  have eA : at? (Lx es J) (lenAt O x) = at? (Lx es J) r.1 ++ at? (Lx es J) r.2 := by
    rw [e]
    show ((Lx es J)[_]?).getD [] = _
    rw [Int.toNat_natCast, a1]
    rfl
  obtain ⟨e1, e2, e3, e4⟩ := lo_app (h := hF (at? (Lx es J) r.1 ++ at? (Lx es J) r.2)) n1 n2
  have hx0 := lx_ne hJ.v x0 (by omega)
  have key : loU (Hh (Lx es J) (lenAt O x)) (at? (Lx es J) x) ≤ loU (Hh (Lx es J) (lenAt O x)) (at? (Lx es J) (lenAt O x)) ∧ hiU (Hh (Lx es J) (lenAt O x)) (at? (Lx es J) (lenAt O x)) ≤ hiU (Hh (Lx es J) (lenAt O x)) (at? (Lx es J) x) ∧
      loV (Hh (Lx es J) (lenAt O x)) (at? (Lx es J) x) ≤ loV (Hh (Lx es J) (lenAt O x)) (at? (Lx es J) (lenAt O x)) ∧ hiV (Hh (Lx es J) (lenAt O x)) (at? (Lx es J) (lenAt O x)) ≤ hiV (Hh (Lx es J) (lenAt O x)) (at? (Lx es J) x) := by
    unfold Hh
    rw [eA, e1, e2, e3, e4]
    rcases hy with q | q
    · rw [q]; exact ⟨by omega, by omega, by omega, by omega⟩
    · rw [q]; exact ⟨by omega, by omega, by omega, by omega⟩
  have sub : ∀ p ∈ at? (Lx es J) x, p ∈ at? (Lx es J) (lenAt O x) := fun p hp => by
    rw [eA]
    rcases hy with q | q
    · rw [q] at hp; exact List.mem_append_left _ hp
    · rw [q] at hp; exact List.mem_append_right _ hp
  refine ⟨?_, fun t ht => ?_⟩
  · unfold Hh
    obtain ⟨p, hp, q, hq, w⟩ := hF_mem hx0
    rw [w]
    exact want_le (sub p hp) (sub q hq)
  · obtain ⟨k1, k2, k3, k4⟩ := key
    rw [loU_sh (h := Hh (Lx es J) x) hx0] at k1
    rw [hiU_sh (h := Hh (Lx es J) x) hx0] at k2
    rw [loV_sh (h := Hh (Lx es J) x) hx0] at k3
    rw [hiV_sh (h := Hh (Lx es J) x) hx0] at k4
    have t1 := ht.a
    have t2 := ht.b
    have t3 := ht.c
    have t4 := ht.d
    have eH : hF (at? (Lx es J) (lenAt O x)) = Hh (Lx es J) (lenAt O x) := rfl
    rw [eH] at t1 t2 t3 t4
    exact ⟨by omega, by omega, by omega, by omega⟩
theorem SpOk.off {T : Int × Int} {es : List En} {J : Jn} {O : List Int} {S : Jn} (h : SpOk T (Lx es J) O S) (hT : InB (at? (Lx es J) ((es.length : Int) + J.length - 1)) T) (hO : OvOk es.length J O) (hJ : JOk es.length J) {x : Int} (x0 : 0 ≤ x) (x1 : x < O.length) :
    ¬ (lenAt (lsF (Lx es J) O) x < max (max ((jAt S x).1 - (jAt S (lenAt O x)).1) (-((jAt S x).1 - (jAt S (lenAt O x)).1))) (max ((jAt S x).2 - (jAt S (lenAt O x)).2) (-((jAt S x).2 - (jAt S (lenAt O x)).2)))) := by
  have hol := hO.len
  obtain ⟨i, r, hr, hy, e, hlt, hi⟩ := hO.nx hJ x0 x1
  have hin := h.inb hT hO hJ (x := lenAt O x) (by omega) (by omega)
  obtain ⟨s0, s1⟩ := side hO hJ x0 x1
  obtain ⟨k1, k2, k3, k4⟩ := s1 _ hin
  have B := bok (lx_ne hJ.v x0 (show x < (es.length + J.length : Nat) by omega))
  have b1 := B.ab
  have b2 := B.cd
  rw [lenAt_ls x0 x1, h.nx x x0 x1]
  unfold nearP
  have eH : hF (at? (Lx es J) x) = Hh (Lx es J) x := rfl
  rw [eH] at b1 b2 ⊢
  generalize jAt S (lenAt O x) = t at *
  generalize Hh (Lx es J) x = h1 at *
  generalize Hh (Lx es J) (lenAt O x) = h2 at *
  dsimp only
  omega
structure Abv (n m : Nat) (J : Jn) (A : List D) : Prop where
  len : A.length = m
  hit : ∀ (i : Nat) (r : Int × Int), J[i]? = some r → A[r.1.toNat]? = some (.int ((n + i : Nat) : Int)) ∧ A[r.2.toNat]? = some (.int ((n + i : Nat) : Int))
  off : ∀ x : Nat, x < m → ((x : Nat) : Int) ∉ sds J → A[x]? = some .non
theorem Abv.step {n m : Nat} {J : Jn} {A : List D} {r : Int × Int} (h : Abv n m J A) (hn : (sds (J ++ [r])).Nodup) (h0 : ∀ x ∈ sds (J ++ [r]), 0 ≤ x ∧ x < m) : Abv n m (J ++ [r]) ((A.set r.1.toNat (.int ((n + J.length : Nat) : Int))).set r.2.toNat (.int ((n + J.length : Nat) : Int))) := by
  have hl := h.len
  have e : sds (J ++ [r]) = sds J ++ [r.1, r.2] := by simp [sds]
  rw [e] at hn h0
  have b1 := h0 r.1 (by simp)
  have b2 := h0 r.2 (by simp)
  have nj := (List.nodup_append.mp hn).2.2
  have n1 : r.1 ∉ sds J := fun q => nj _ q _ List.mem_cons_self rfl
  have n2 : r.2 ∉ sds J := fun q => nj _ q _ (List.mem_cons_of_mem _ List.mem_cons_self) rfl
  refine ⟨by simp [hl], fun i r' hr => ?_, fun x hx hs => ?_⟩
  · by_cases hi : i < J.length
    · rw [List.getElem?_append_left hi] at hr
      have m1 : r'.1 ∈ sds J := mem_sds.mpr ⟨i, r', hr, .inl rfl⟩
      have m2 : r'.2 ∈ sds J := mem_sds.mpr ⟨i, r', hr, .inr rfl⟩
      have c1 := h0 r'.1 (List.mem_append_left _ m1)
      have c2 := h0 r'.2 (List.mem_append_left _ m2)
      have ne : ∀ a b : Int, 0 ≤ a → 0 ≤ b → a ∈ sds J → b ∉ sds J → b.toNat ≠ a.toNat := fun a b a0 b0 ha hb q => hb (by rw [show b = a by omega]; exact ha)
      obtain ⟨q1, q2⟩ := h.hit i r' hr
      rw [List.getElem?_set_ne (ne _ _ c1.1 b2.1 m1 n2), List.getElem?_set_ne (ne _ _ c1.1 b1.1 m1 n1), List.getElem?_set_ne (ne _ _ c2.1 b2.1 m2 n2), List.getElem?_set_ne (ne _ _ c2.1 b1.1 m2 n1)]
      exact ⟨q1, q2⟩
    · rw [List.getElem?_append_right (by omega)] at hr
      have hi0 : i = J.length := by
        have := (List.getElem?_eq_some_iff.mp hr).1
        simp at this
        omega
      rw [hi0, Nat.sub_self] at hr
      cases hr
      rw [hi0]
      constructor
      · by_cases q : r.2.toNat = r.1.toNat
        · rw [q, List.getElem?_set_self (by simp; omega)]
        · rw [List.getElem?_set_ne q, List.getElem?_set_self (by omega)]
      · rw [List.getElem?_set_self (by simp; omega)]
  · rw [e] at hs
    simp only [List.mem_append, List.mem_cons, List.not_mem_nil, or_false, not_or] at hs
    rw [List.getElem?_set_ne (by omega), List.getElem?_set_ne (by omega)]
    exact h.off x hx hs.1
theorem Kn.step {es : List En} {J : Jn} {O G : List Int} {X : List D} {S : Jn} {i : Nat} {r t1 t2 : Int × Int} (hJ : JOk es.length J) (hO : OvOk es.length J O) (hr : J[i]? = some r) (h : Kn es J O G ((es.length + i + 1 : Nat) : Int) X S)
    (i1 : InH (lenAt G r.1) (at? (Lx es J) r.1) t1) (i2 : InH (lenAt G r.2) (at? (Lx es J) r.2) t2)
    (f1 : offP t1 (jAt S ((es.length + i : Nat) : Int)) ≤ lenAt G ((es.length + i : Nat) : Int) - lenAt G r.1) (f2 : offP t2 (jAt S ((es.length + i : Nat) : Int)) ≤ lenAt G ((es.length + i : Nat) : Int) - lenAt G r.2) :
    Kn es J O G ((es.length + i : Nat) : Int) ((X.set r.1.toNat (jD t1)).set r.2.toNat (jD t2)) ((S.set r.1.toNat t1).set r.2.toNat t2) := by
  have hol := hO.len
  have hi : i < J.length := (List.getElem?_eq_some_iff.mp hr).1
  have b := jv_at J es.length i r hJ.v hr
  have hxl := h.xl
  have hsl := h.sl
  have o1 : lenAt O r.1 = ((es.length + i : Nat) : Int) := by unfold lenAt; rw [(hO.hit i r hr).1]; rfl
  have o2 : lenAt O r.2 = ((es.length + i : Nat) : Int) := by unfold lenAt; rw [(hO.hit i r hr).2]; rfl
  have n1 : ((r.1.toNat : Nat) : Int) = r.1 := by omega
  have n2 : ((r.2.toNat : Nat) : Int) = r.2 := by omega
  have sv : ∀ x : Int, 0 ≤ x → jAt ((S.set r.1.toNat t1).set r.2.toNat t2) x = if x = r.2 then t2 else if x = r.1 then t1 else jAt S x := fun x x0 => by
    rw [jAt_set x0 (by rw [List.length_set]; omega), n2, jAt_set x0 (by omega), n1]
  have xv : ∀ x : Int, 0 ≤ x → ((X.set r.1.toNat (jD t1)).set r.2.toNat (jD t2))[x.toNat]? = if x = r.2 then some (jD t2) else if x = r.1 then some (jD t1) else X[x.toNat]? := fun x x0 => by
    by_cases q2 : x = r.2
    · rw [if_pos q2, q2, List.getElem?_set_self (by rw [List.length_set]; omega)]
    · rw [if_neg q2, List.getElem?_set_ne (by omega)]
      by_cases q1 : x = r.1
      · rw [if_pos q1, q1, List.getElem?_set_self (by omega)]
      · rw [if_neg q1, List.getElem?_set_ne (by omega)]
  have new : ∀ x : Int, 0 ≤ x → x < O.length → ((es.length + i : Nat) : Int) ≤ lenAt O x → x ≠ r.1 → x ≠ r.2 → ((es.length + i + 1 : Nat) : Int) ≤ lenAt O x := fun x x0 x1 q w1 w2 => by
    obtain ⟨i', r', hr', hy, e, lt, hi'⟩ := hO.nx hJ x0 x1
    by_cases w : i' = i
    · subst w
      rw [hr] at hr'
      cases hr'
      rcases hy with z | z
      · exact absurd z w1
      · exact absurd z w2
    · omega
  refine ⟨by simp [hxl], by simp [hsl], fun x x0 x1 hx => ?_, fun x x0 x1 hx => ?_⟩
  · rw [sv x x0, xv x x0]
    by_cases q2 : x = r.2
    · rw [if_pos q2, if_pos q2, q2]
      exact ⟨rfl, i2⟩
    · rw [if_neg q2, if_neg q2]
      by_cases q1 : x = r.1
      · rw [if_pos q1, if_pos q1, q1]
        exact ⟨rfl, i1⟩
      · rw [if_neg q1, if_neg q1]
        refine h.at' x x0 x1 ?_
        rcases hx with q | q
        · exact .inl q
        · by_cases w : x < O.length
          · exact .inr (new x x0 w q q1 q2)
          · rw [lenAt_out (by omega)] at q
            omega
  · have hy0 : 0 ≤ lenAt O x := by omega
    have e : jAt ((S.set r.1.toNat t1).set r.2.toNat t2) (lenAt O x) = jAt S (lenAt O x) := by
      rw [sv _ hy0, if_neg (by omega), if_neg (by omega)]
    rw [e, sv x x0]
    by_cases q2 : x = r.2
    · rw [if_pos q2, q2, o2]
      exact f2
    · rw [if_neg q2]
      by_cases q1 : x = r.1
      · rw [if_pos q1, q1, o1]
        exact f1
      · rw [if_neg q1]
        exact h.far x x0 x1 (new x x0 x1 hx q1 q2)
theorem JInv.step {n i : Nat} {W W2 W' : List Int} {J : Jn} {x y : Int} {r : Int × Int} (h : JInv n i W J) (hx : W.Perm (x :: y :: W2)) (hr : r = (x, y) ∨ r = (y, x)) (hW' : W'.Perm (((n + i : Nat) : Int) :: W2)) : JInv n (i + 1) W' (J ++ [r]) := by
  have bx := h.bnd (hx.mem_iff.mpr List.mem_cons_self)
  have by' := h.bnd (hx.mem_iff.mpr (List.mem_cons_of_mem _ List.mem_cons_self))
  have hr1 : 0 ≤ r.1 ∧ r.1 < (n + i : Nat) ∧ 0 ≤ r.2 ∧ r.2 < (n + i : Nat) := by
    rcases hr with rfl | rfl
    · exact ⟨bx.1, bx.2, by'.1, by'.2⟩
    · exact ⟨by'.1, by'.2, bx.1, bx.2⟩
  have hjl := h.jl
  have hw2 : ∀ w ∈ W2, 0 ≤ w ∧ w < (n + i : Nat) := fun w q => h.bnd (hx.mem_iff.mpr (List.mem_cons_of_mem _ (List.mem_cons_of_mem _ q)))
  have p1 : ∀ {α : Type} (L : List (List α)), (W.flatMap fun w => at? (ext L J) w).Perm (at? (ext L J) x ++ (at? (ext L J) y ++ W2.flatMap fun w => at? (ext L J) w)) := fun L => by
    refine (List.Perm.flatMap_right _ hx).trans ?_
    rw [List.flatMap_cons, List.flatMap_cons]
  refine ⟨?_, by simp [hjl], jv_snoc J n r h.v hr1.1 (by rw [hjl]; exact hr1.2.1) hr1.2.2.1 (by rw [hjl]; exact hr1.2.2.2), ?_, fun {α} L hL j => ?_, fun {α} L hL => ?_⟩
  · have l1 := hx.length_eq
    have l2 := hW'.length_eq
    have l3 := h.wl
    simp only [List.length_cons] at l1 l2
    omega
  · have e : sds (J ++ [r]) = sds J ++ [r.1, r.2] := by simp [sds]
    rw [e, show n + (i + 1) = (n + i) + 1 by omega, rgI_succ]
    have q1 : (sds J ++ [r.1, r.2] ++ W').Perm (sds J ++ (x :: y :: W2) ++ [((n + i : Nat) : Int)]) := by
      rw [List.append_assoc, List.append_assoc]
      refine List.Perm.append_left _ ?_
      have q2 : ([r.1, r.2] : List Int).Perm [x, y] := by
        rcases hr with rfl | rfl
        · exact List.Perm.refl _
        · exact List.Perm.swap _ _ _
      refine (List.Perm.append q2 hW').trans ?_
      show (x :: y :: ((n + i : Nat) : Int) :: W2).Perm (x :: y :: (W2 ++ [((n + i : Nat) : Int)]))
      exact ((List.perm_append_singleton _ _).symm.cons y).cons x
    refine q1.trans (List.Perm.append_right _ ?_)
    exact (List.Perm.append_left _ hx.symm).trans h.use
  · have p2 := (p1 L).length_eq
    rw [(h.all L hL).length_eq, List.length_append, List.length_append] at p2
    rw [ext_snoc]
    unfold at?
    by_cases q : j.toNat < (ext L J).length
    · rw [List.getElem?_append_left q]
      exact h.few L hL j
    · rw [List.getElem?_append_right (Nat.not_lt.mp q)]
      cases w : j.toNat - (ext L J).length with
      | zero =>
        show (at? (ext L J) r.1 ++ at? (ext L J) r.2).length ≤ _
        rw [List.length_append]
        rcases hr with rfl | rfl
        · show (at? (ext L J) x).length + (at? (ext L J) y).length ≤ _
          omega
        · show (at? (ext L J) y).length + (at? (ext L J) x).length ≤ _
          omega
      | succ w => simp
  · have el : (ext L J).length = n + i := by rw [ext_len, hL, hjl]
    have o : ∀ w : Int, 0 ≤ w → w < (n + i : Nat) → at? (ext L (J ++ [r])) w = at? (ext L J) w := fun w w0 w1 => by
      rw [ext_snoc]
      unfold at?
      rw [List.getElem?_append_left (by omega)]
    have nw : at? (ext L (J ++ [r])) ((n + i : Nat) : Int) = at? (ext L J) r.1 ++ at? (ext L J) r.2 := by
      rw [ext_snoc]
      unfold at?
      rw [Int.toNat_natCast, ← el]
      simp
    refine (List.Perm.flatMap_right _ hW').trans ?_
    rw [List.flatMap_cons, nw]
    have e2 : (W2.flatMap fun w => at? (ext L (J ++ [r])) w) = W2.flatMap fun w => at? (ext L J) w := by
      rw [List.flatMap_def, List.flatMap_def]
      congr 1
      exact List.map_congr_left fun w q => o w (hw2 w q).1 (hw2 w q).2
    rw [e2]
    refine List.Perm.trans ?_ (h.all L hL)
    refine List.Perm.trans ?_ (p1 L).symm
    rcases hr with rfl | rfl
    · rw [List.append_assoc]
    · rw [← List.append_assoc]
      exact List.Perm.append_right _ List.perm_append_comm
theorem JInv.done {n i : Nat} {w : Int} {J : Jn} (h : JInv n i [w] J) (hw : w = (n : Int) + i - 1) : JOk n J := by
  have h1 := h.wl
  have h2 := h.jl
  simp only [List.length_singleton] at h1
  subst h2
  subst hw
  refine ⟨h.v, by omega, h.use, fun {α} L hL => ?_, h.few⟩
  have := h.all L hL
  rw [List.flatMap_cons, List.flatMap_nil, List.append_nil] at this
  exact this
theorem seqIx {i : Int} {n : Nat} (h0 : 0 ≤ i) (h1 : i < n) : seqIndex? i n = some i.toNat := by
  unfold seqIndex?
  simp
  omega
theorem joining_i {n : Nat} {k : D → Prop} (n0 : 1 ≤ n) (n1 : n ≤ 24) (h : ∀ J, JOk n J → k (.tup (J.map jD))) : wp__law_joining [.deck 3, .int n] k := by
  unfold wp__law_joining wpOf
  walk_at "psenv"
  unfold P__law_joining
  repeat walk_at "ps"
  refine draw_i (by decide) (by decide) fun t t0 t1 => ?_
  repeat walk_at "ps"
  refine dRg_i (by omega) ?_
  repeat walk_at "ps"
  refine rgK1_i (by omega) (by omega) ?_
  generalize decide (t = 5) = bb
  have hr : rangeD 0 ((n : Int) - 0).toNat = (rgI n).map D.int := by
    unfold rangeD rgI
    rw [List.map_map, show ((n : Int) - 0).toNat = n by omega]
    apply List.map_congr_left
    intro i _
    show D.int (0 + (i : Int)) = D.int (i : Int)
    rw [Int.zero_add]
  rw [hr]
  refine forP_i (fun i env => ∃ (W : List Int) (J : Jn) (v5 v6 v7 v8 : SV), env = [SV.val (.deck 3), SV.val (.int n), SV.val (.bl bb), SV.own (.lst (W.map D.int)), SV.own (.lst (J.map jD)), v5, v6, v7, v8] ∧ JInv n i W J ∧ W.getLast? = some ((n : Int) + i - 1)) _ 0 ⟨rgI n, [], _, _, _, _, rfl, JInv.start n, ?_⟩ ?_ ?_
  · obtain ⟨m, rfl⟩ : ∃ m, n = m + 1 := ⟨n - 1, by omega⟩
    rw [rgI_succ, List.getLast?_append]
    simp
  · rintro i d env hd ⟨W, J, v5, v6, v7, v8, rfl, hI, hla⟩ N hN
    obtain ⟨rfl, hi⟩ := rangeD_at hd
    have hW := hI.wl
    have hJ := hI.jl
    have hW2 : 2 ≤ W.length := by omega
    repeat walk_at "ps"
    refine draw_i (by decide) (by decide) fun tu tu0 tu1 => ?_
    repeat walk_at "ps"
    rw [List.length_map]
    refine draw_i (by omega) (by omega) fun a0 a00 a01 => ?_
    repeat walk_at "ps"
    have sel : ∀ (a0 b0 : Int) (m : Nat), 0 ≤ a0 → a0 < m → 0 ≤ b0 → b0 < m → ∀ d ∈ [D.int a0, D.int b0], ∃ a : Int, d = .int a ∧ 0 ≤ a ∧ a < m := fun a0 b0 m q0 q1 q2 q3 d hd => by
      simp only [List.mem_cons, List.not_mem_nil, or_false] at hd
      rcases hd with rfl | rfl
      · exact ⟨a0, rfl, q0, q1⟩
      · exact ⟨b0, rfl, q2, q3⟩
    refine dIx_in (by split <;> decide) (by cases bb <;> simp) fun d hd => ?_
    obtain ⟨a, rfl, ha0, ha1⟩ := sel a0 _ W.length a00 a01 (by rw [List.length_map]; omega) (by rw [List.length_map]; omega) d hd
    repeat walk_at "ps"
    have hal : a.toNat < W.length := by omega
    refine ⟨by omega, a.toNat, .int W[a.toNat], seqIx ha0 ha1, by rw [List.getElem?_map, List.getElem?_eq_getElem hal]; rfl, ?_⟩
    repeat walk_at "ps"
    have hx := perm_er (List.getElem?_eq_getElem hal)
    have hW1 : (W.eraseIdx a.toNat).length = W.length - 1 := by rw [List.length_eraseIdx_of_lt hal]
    have hm1 : ((W.map D.int).eraseIdx a.toNat) = (W.eraseIdx a.toNat).map D.int := er_map _ _ _
    generalize W[a.toNat] = x at *
    rw [hm1]
    generalize W.eraseIdx a.toNat = W1 at *
    rw [List.length_map]
    refine draw_i (by omega) (by omega) fun b0 b00 b01 => ?_
    repeat walk_at "ps"
    refine dIx_in (by split <;> decide) (by cases bb <;> simp) fun d hd => ?_
    obtain ⟨b, rfl, hb0, hb1⟩ := sel b0 0 W1.length b00 b01 (by omega) (by omega) d hd
    repeat walk_at "ps"
    have hbl : b.toNat < W1.length := by omega
    refine ⟨by omega, b.toNat, .int W1[b.toNat], seqIx hb0 hb1, by rw [List.getElem?_map, List.getElem?_eq_getElem hbl]; rfl, ?_⟩
    have hy := perm_er (List.getElem?_eq_getElem hbl)
    have hW3 : (W1.eraseIdx b.toNat).length = W1.length - 1 := by rw [List.length_eraseIdx_of_lt hbl]
    have hm2 : ((W1.map D.int).eraseIdx b.toNat) = (W1.eraseIdx b.toNat).map D.int := er_map _ _ _
    generalize W1[b.toNat] = y at *
    rw [hm2]
    generalize W1.eraseIdx b.toNat = W2 at *
    have hxy : W.Perm (x :: y :: W2) := hx.trans (hy.cons x)
    have fin : ∀ r : Int × Int, (r = (x, y) ∨ r = (y, x)) → ∀ v5 v6 v7 v8, N [SV.val (.deck 3), SV.val (.int n), SV.val (.bl bb), SV.own (.lst ((W2 ++ [(n : Int) + i]).map D.int)), SV.own (.lst ((J ++ [r]).map jD)), v5, v6, v7, v8] := by
      intro r hr v5 v6 v7 v8
      refine hN _ ⟨_, _, _, _, _, _, rfl, ?_, ?_⟩
      · rw [Nat.zero_add] at hI ⊢
        exact hI.step hxy hr (List.perm_append_singleton _ _)
      · rw [List.getLast?_append]
        simp
        omega
    repeat walk_at "ps"
    have : tu = 0 ∨ tu = 1 := by omega
    rcases this with rfl | rfl
    · repeat walk_at "ps"
      refine ⟨by rw [List.length_map]; omega, ?_⟩
      repeat walk_at "ps"
      refine ⟨by rw [List.length_map]; omega, ?_⟩
      have := fin (x, y) (.inl rfl)
      rw [List.map_append, List.map_append] at this
      rw [Int.zero_add]
      exact this _ _ _ _
    · repeat walk_at "ps"
      refine ⟨by rw [List.length_map]; omega, ?_⟩
      repeat walk_at "ps"
      refine ⟨by rw [List.length_map]; omega, ?_⟩
      have := fin (y, x) (.inr rfl)
      rw [List.map_append, List.map_append] at this
      rw [Int.zero_add]
      exact this _ _ _ _
  · rintro env ⟨W, J, v5, v6, v7, v8, rfl, hI, hla⟩
    rw [rangeD_len] at *
    have hW := hI.wl
    repeat walk_at "ps"
    obtain ⟨w, rfl⟩ : ∃ w, W = [w] := List.length_eq_one_iff.mp (by omega)
    refine h J (hI.done ?_)
    simpa using hla
abbrev bxD (a b c d : Int) : D := .tup [.int a, .int b, .int c, .int d]
def boxD (h : Int) (l : List En) : D := bxD (loU h l) (hiU h l) (loV h l) (hiV h l)
def rowD (l : List En) : D := .tup [.int (hF l), boxD (hF l) l]
theorem at_nat {α : Type} {xs : List α} {i : Int} {d : α} (h0 : 0 ≤ i) (h : xs[i.toNat]? = some d) : atI xs i = some d := by
  have hl : i.toNat < xs.length := (List.getElem?_eq_some_iff.mp h).1
  unfold atI ixN
  rw [if_pos h0, if_pos (by omega)]
  exact h
theorem met_i {a b c d a' b' c' d' : Int} {k : D → Prop} (h1 : max a a' ≤ min b b') (h2 : max c c' ≤ min d d') (h : k (bxD (max a a') (min b b') (max c c') (min d d'))) : wp_met [bxD a b c d, bxD a' b' c' d'] k := by
  unfold wp_met wpOf
  walk_at "psenv"
  unfold P_met
  repeat walk_at "ps"
  refine ite_d (fun q => absurd q (by omega)) (fun _ => ?_)
  repeat walk_at "ps"
  refine ite_d (fun q => absurd q (by omega)) (fun _ => ?_)
  repeat walk_at "ps"
  exact h
theorem atE {es : List En} {i : Int} {p : En} (i0 : 0 ≤ i) (hp : es[i.toNat]? = some p) : atI (es.map enD) i = some (enD p) := at_nat i0 (by rw [List.getElem?_map, hp]; rfl)
theorem spot_of_i {x y : Int} {k : D → Prop} (h : k (.tup [.int (2 * (x + y)), .int (2 * (x - y))])) : wp_spot_of [.int 2, .int x, .int y] k := by
  unfold wp_spot_of wpOf
  walk_at "psenv"
  unfold P_spot_of
  repeat walk_at "ps"
  exact h
theorem grown_i {a b c d r : Int} {k : D → Prop} (h : k (bxD (a - r) (b + r) (c - r) (d + r))) : wp_grown [bxD a b c d, .int r] k := by
  unfold wp_grown wpOf
  walk_at "psenv"
  unfold P_grown
  repeat walk_at "ps"
  exact h
theorem reached_i {e : En} {r : Int} {k : D → Prop} (h : k (bxD (U e - (r - 2 * e.s)) (U e + (r - 2 * e.s)) (Vv e - (r - 2 * e.s)) (Vv e + (r - 2 * e.s)))) : wp_reached [enD e, .int r] k := by
  unfold wp_reached wpOf
  walk_at "psenv"
  unfold P_reached
  repeat walk_at "ps"
  refine spot_of_i ?_
  repeat walk_at "ps"
  exact grown_i h
/-- which of the ends, by their numbers -/
def Sel (es : List En) (ps : List (Int × En)) : Prop := ∀ p ∈ ps, 0 ≤ p.1 ∧ es[p.1.toNat]? = some p.2
theorem cut_tail {x : D} {xs : List D} : Pu.cutD (x :: xs) (some 1) none = xs := by
  unfold Pu.cutD
  have h1 : HT.sIx (x :: xs).length 0 (some 1) = 1 := by
    have := HT.sIx_nat (x :: xs).length 0 1
    rw [show ((1 : Nat) : Int) = 1 from rfl] at this
    rw [this, List.length_cons]
    omega
  rw [h1, HT.sIx_none, List.drop_one, List.tail_cons, List.length_cons]
  simp
theorem steps_i {a b c d : Int} {k : D → Prop} (h : k (.int (max (a - c) (-(a - c)) + max (b - d) (-(b - d))))) : wp_steps [.tup [.int a, .int b], .tup [.int c, .int d]] k := by
  unfold wp_steps wpOf
  walk_at "psenv"
  unfold P_steps
  repeat walk_at "ps"
  exact h
theorem wanted_i {es : List En} {i j : Int} {p q : En} {k : D → Prop} (i0 : 0 ≤ i) (j0 : 0 ≤ j) (hp : es[i.toNat]? = some p) (hq : es[j.toNat]? = some q) (h : k (.int (want p q))) : wp_wanted [.tup (es.map enD), .int i, .int j] k := by
  unfold wp_wanted wpOf
  walk_at "psenv"
  unfold P_wanted
  repeat walk_at "ps"
  refine dIx_t (atE i0 hp) ?_
  repeat walk_at "ps"
  refine dIx_t (atE j0 hq) ?_
  repeat walk_at "ps"
  exact steps_i h
theorem intsD_fl (ps : List (Int × En)) (f : Int × En → Int × En → Int) : intsD (ps.flatMap fun x => ps.map fun y => D.int (f x y)) = some (ps.flatMap fun x => ps.map fun y => f x y) := by
  have : (ps.flatMap fun x => ps.map fun y => D.int (f x y)) = (ps.flatMap fun x => ps.map fun y => f x y).map D.int := by
    rw [List.map_flatMap]
    congr 1
    funext x
    rw [List.map_map]
    rfl
  rw [this]
  exact intsD_map _
theorem height_of_i {es : List En} {ps : List (Int × En)} {k : D → Prop} (hs : Sel es ps) (h0 : ps ≠ []) (hl : ps.length ≤ 100) (h : k (.int (hF (ps.map Prod.snd)))) : wp_height_of [.tup (es.map enD), .tup (ps.map fun p => .int p.1)] k := by
  unfold wp_height_of wpOf
  walk_at "psenv"
  unfold P_height_of
  repeat walk_at "ps"
  refine ⟨by simp [noOwn], ?_⟩
  refine lcP2_m (fun p : Int × En => D.int p.1) ps (fun p q => D.int (want p.2 q.2)) ps (Nat.le_trans (Nat.mul_le_mul hl hl) (by decide)) ?_ ?_
  · intro p hp acc A B hacc hA
    repeat walk_at "ps"
    refine ⟨by simp [noOwn, wipeE], ?_⟩
    refine lcP_ma (fun p : Int × En => D.int p.1) (fun q => D.int (want p.2 q.2)) ps acc hacc ?_ hA
    intro q hq A B hA
    repeat walk_at "ps"
    exact wanted_i (hs p hp).1 (hs q hq).1 (hs p hp).2 (hs q hq).2 hA
  repeat walk_at "ps"
  refine gMaxL_i (intsD_fl ps fun p q => want p.2 q.2) ?_ ?_
  · cases ps with
    | nil => exact absurd rfl h0
    | cons a r => simp
  have hh : maxI (ps.flatMap fun p => ps.map fun q => want p.2 q.2) = hF (ps.map Prod.snd) := by
    unfold hF
    rw [List.flatMap_map]
    congr 1
    congr 1
    funext p
    rw [List.map_map]
    rfl
  rw [hh]
  exact h
theorem row_of_i {es : List En} {ps : List (Int × En)} {k : D → Prop} (hs : Sel es ps) (h0 : ps ≠ []) (hl : ps.length ≤ 100) (h : k (rowD (ps.map Prod.snd))) : wp_row_of [.tup (es.map enD), .tup (ps.map fun p => .int p.1)] k := by
  unfold wp_row_of wpOf
  walk_at "psenv"
  unfold P_row_of
  repeat walk_at "ps"
  refine height_of_i hs h0 hl ?_
  obtain ⟨p0, pr, rfl⟩ : ∃ p0 pr, ps = p0 :: pr := by
    cases ps with
    | nil => exact absurd rfl h0
    | cons a r => exact ⟨a, r, rfl⟩
  have h : k (.tup [.int (hF ((p0 :: pr).map Prod.snd)), boxD (hF ((p0 :: pr).map Prod.snd)) ((p0 :: pr).map Prod.snd)]) := h
  have hwl : ∀ p ∈ (p0 :: pr).map Prod.snd, ∀ q ∈ (p0 :: pr).map Prod.snd, want p q ≤ hF ((p0 :: pr).map Prod.snd) := fun p hp q hq => want_le hp hq
  generalize hF ((p0 :: pr).map Prod.snd) = hh' at *
  repeat walk_at "ps"
  refine dIx_t (at_nat (d := .int p0.1) (by decide) rfl) ?_
  refine dIx_t (atE (hs p0 List.mem_cons_self).1 (hs p0 List.mem_cons_self).2) ?_
  repeat walk_at "ps"
  refine reached_i ?_
  repeat walk_at "ps"
  rw [List.map_cons, cut_tail]
  refine forP_i (fun i env => ∃ (pre : List En) (v6 : SV), env = [SV.val (.tup (es.map enD)), SV.val (.tup ((p0 :: pr).map fun p => .int p.1)), SV.val (.int hh'), SV.val (boxD hh' pre), v6] ∧ pre = p0.2 :: (pr.map Prod.snd).take i) _ 0 ⟨[p0.2], _, rfl, by simp⟩ ?_ ?_
  · rintro i d env hd ⟨pre, v6, rfl, hpre⟩ N hN
    rw [List.getElem?_map] at hd
    cases hq : pr[i]? with
    | none => rw [hq] at hd; cases hd
    | some q =>
      rw [hq] at hd
      cases hd
      have hqm : q ∈ p0 :: pr := List.mem_cons_of_mem _ (List.mem_of_getElem? hq)
      have hsub : ∀ p ∈ pre ++ [q.2], p ∈ (p0 :: pr).map Prod.snd := by
        intro p hp
        rw [hpre] at hp
        rcases List.mem_append.mp hp with w | w
        · rcases List.mem_cons.mp w with w | w
          · rw [w]; exact List.mem_map.mpr ⟨p0, List.mem_cons_self, rfl⟩
          · exact List.mem_cons_of_mem _ (List.mem_of_mem_take w)
        · rw [List.mem_singleton.mp w]; exact List.mem_map.mpr ⟨q, hqm, rfl⟩
      have hne : pre ≠ [] := by rw [hpre]; simp
      have hall : ∀ p ∈ pre ++ [q.2], ∀ r ∈ pre ++ [q.2], want p r ≤ hh' := fun p hp r hr => hwl p (hsub p hp) r (hsub r hr)
      have n1 := mm (l := pre ++ [q.2]) (f := fun p => U p - (hh' - 2 * p.s)) (g := fun p => U p + (hh' - 2 * p.s)) (by simp) fun p hp r hr => (uu (hall p hp r hr)).1
      have n2 := mm (l := pre ++ [q.2]) (f := fun p => Vv p - (hh' - 2 * p.s)) (g := fun p => Vv p + (hh' - 2 * p.s)) (by simp) fun p hp r hr => (uu (hall p hp r hr)).2
      rw [List.map_append, List.map_append, List.map_singleton, List.map_singleton, maxI_snoc (by simpa using hne), minI_snoc (by simpa using hne)] at n1 n2
      repeat walk_at "ps"
      refine dIx_t (atE (hs q hqm).1 (hs q hqm).2) ?_
      repeat walk_at "ps"
      refine reached_i ?_
      repeat walk_at "ps"
      refine met_i n1 n2 ?_
      repeat walk_at "ps"
      refine hN _ ⟨pre ++ [q.2], SV.val (.int q.1), ?_, ?_⟩
      · unfold boxD loU hiU loV hiV
        rw [List.map_append, List.map_append, List.map_append, List.map_append, List.map_singleton, List.map_singleton, List.map_singleton, List.map_singleton, maxI_snoc (by simpa using hne), minI_snoc (by simpa using hne), maxI_snoc (by simpa using hne), minI_snoc (by simpa using hne)]
        rfl
      · rw [hpre, show 0 + i + 1 = i + 1 by omega, List.take_add_one, List.getElem?_map, hq, show 0 + i = i by omega]
        rfl
  · rintro env ⟨pre, v6, rfl, hpre⟩
    rw [List.length_map, Nat.zero_add, List.take_of_length_le (by simp)] at hpre
    repeat walk_at "ps"
    rw [hpre]
    exact h
theorem apart_i {a b c d a' b' c' d' : Int} {k : D → Prop} (h : k (.int (max 0 (max (a - b') (max (a' - b) (max (c - d') (c' - d))))))) : wp_apart [bxD a b c d, bxD a' b' c' d'] k := by
  unfold wp_apart wpOf
  walk_at "psenv"
  unfold P_apart
  repeat walk_at "ps"
  exact h
theorem want_comm (p q : En) : want p q = want q p := by unfold want; omega
theorem cross {A B : List En} {hA hB a b c d a' b' c' d' : Int} (BA : Bok A hA a b c d) (BB : Bok B hB a' b' c' d') {p q : En} (hp : p ∈ A) (hq : q ∈ B) : 2 * want p q ≤ hA + hB + max (a - b') (max (a' - b) (max (c - d') (c' - d))) := by
  have h1 := BA.a_le p hp
  have h2 := BA.b_le p hp
  have h3 := BA.c_le p hp
  have h4 := BA.d_le p hp
  have g1 := BB.a_le q hq
  have g2 := BB.b_le q hq
  have g3 := BB.c_le q hq
  have g4 := BB.d_le q hq
  unfold want
  unfold U Vv at *
  omega
theorem jh {A B : List En} (h0 : A ≠ []) (h1 : B ≠ []) {a b c d a' b' c' d' : Int} (BA : Bok A (hF A) a b c d) (BB : Bok B (hF B) a' b' c' d') :
    max (hF A) (max (hF B) ((hF A + hF B + max 0 (max (a - b') (max (a' - b) (max (c - d') (c' - d))))) / 2)) = hF (A ++ B) := by
  have inA : ∀ {p}, p ∈ A → p ∈ A ++ B := fun h => List.mem_append_left _ h
  have inB : ∀ {p}, p ∈ B → p ∈ A ++ B := fun h => List.mem_append_right _ h
  have l1 : hF A ≤ hF (A ++ B) := by
    obtain ⟨p, hp, q, hq, e⟩ := hF_mem h0
    rw [e]; exact want_le (inA hp) (inA hq)
  have l2 : hF B ≤ hF (A ++ B) := by
    obtain ⟨p, hp, q, hq, e⟩ := hF_mem h1
    rw [e]; exact want_le (inB hp) (inB hq)
  have l3 : hF A + hF B + (a - b') ≤ 2 * hF (A ++ B) := by
    obtain ⟨p, hp, e1⟩ := BA.a_at
    obtain ⟨q, hq, e2⟩ := BB.b_at
    have w := want_le (inA hp) (inB hq)
    unfold want at w
    unfold U at e1 e2
    omega
  have l4 : hF A + hF B + (a' - b) ≤ 2 * hF (A ++ B) := by
    obtain ⟨p, hp, e1⟩ := BA.b_at
    obtain ⟨q, hq, e2⟩ := BB.a_at
    have w := want_le (inA hp) (inB hq)
    unfold want at w
    unfold U at e1 e2
    omega
  have l5 : hF A + hF B + (c - d') ≤ 2 * hF (A ++ B) := by
    obtain ⟨p, hp, e1⟩ := BA.c_at
    obtain ⟨q, hq, e2⟩ := BB.d_at
    have w := want_le (inA hp) (inB hq)
    unfold want at w
    unfold Vv at e1 e2
    omega
  have l6 : hF A + hF B + (c' - d) ≤ 2 * hF (A ++ B) := by
    obtain ⟨p, hp, e1⟩ := BA.d_at
    obtain ⟨q, hq, e2⟩ := BB.c_at
    have w := want_le (inA hp) (inB hq)
    unfold want at w
    unfold Vv at e1 e2
    omega
  have u : hF (A ++ B) ≤ hF A ∨ hF (A ++ B) ≤ hF B ∨ 2 * hF (A ++ B) ≤ hF A + hF B + max (a - b') (max (a' - b) (max (c - d') (c' - d))) := by
    obtain ⟨p, hp, q, hq, e⟩ := hF_mem (l := A ++ B) (by simp [h0])
    rw [e]
    rcases List.mem_append.mp hp with hp | hp
    · rcases List.mem_append.mp hq with hq | hq
      · exact .inl (want_le hp hq)
      · exact .inr (.inr (cross BA BB hp hq))
    · rcases List.mem_append.mp hq with hq | hq
      · rw [want_comm]; exact .inr (.inr (cross BA BB hq hp))
      · exact .inr (.inl (want_le hp hq))
  generalize hF (A ++ B) = h at *
  generalize hF A = x at *
  generalize hF B = y at *
  omega
theorem joined_i {A B : List En} {k : D → Prop} (h0 : A ≠ []) (h1 : B ≠ []) (h : k (.tup [.int (hF (A ++ B)), boxD (hF (A ++ B)) (A ++ B), .int (hF (A ++ B) - hF A), .int (hF (A ++ B) - hF B)])) : wp_joined [rowD A, rowD B] k := by
  have BA := bok h0
  have BB := bok h1
  unfold wp_joined wpOf
  walk_at "psenv"
  unfold P_joined rowD boxD
  repeat walk_at "ps"
  refine apart_i ?_
  repeat walk_at "ps"
  rw [jh h0 h1 BA BB]
  refine grown_i ?_
  repeat walk_at "ps"
  refine grown_i ?_
  rw [← loU_sh h0, ← hiU_sh h0, ← loV_sh h0, ← hiV_sh h0, ← loU_sh h1, ← hiU_sh h1, ← loV_sh h1, ← hiV_sh h1]
  obtain ⟨e1, e2, e3, e4⟩ := lo_app (h := hF (A ++ B)) h0 h1
  have BC := bok (l := A ++ B) (by simp [h0])
  have n1 := BC.ab
  have n2 := BC.cd
  rw [e1, e2] at n1
  rw [e3, e4] at n2
  repeat walk_at "ps"
  refine met_i n1 n2 ?_
  rw [← e1, ← e2, ← e3, ← e4]
  repeat walk_at "ps"
  exact h
theorem atR {L : List (List En)} {i : Int} (h0 : 0 ≤ i) (h1 : i < L.length) : atI (L.map rowD) i = some (rowD (at? L i)) := at_nat h0 (by rw [List.getElem?_map, (at_mem h0 h1).2]; rfl)
theorem rows_loop {v0 v1 v3 : SV} {K : PK'} : ∀ (J : Jn) (L : List (List En)) (v4 v5 : SV), JV L.length J → (∀ l ∈ L, l ≠ []) → L.length + J.length ≤ 1000 → (∀ v4 v5, K.nx [v0, v1, SV.own (.lst ((ext L J).map rowD)), v3, v4, v5]) →
    forP (gtTup 2 (gtCons (gtName 4) (gtCons (gtName 5) gtNil))) (sAppend 2 (eSl (eCall (fun ds k => ds.length = 2 ∧ wp_joined ds k) (aCons (eOp dIx (eO 2) (eV 4)) (aCons (eOp dIx (eO 2) (eV 5)) aNil))) oNo (oPart (eC (.int 2))))) (J.map jD) [v0, v1, SV.own (.lst (L.map rowD)), v3, v4, v5] K
  | [], L, v4, v5, _, _, _, hk => by
    simp only [List.map_nil, forP]
    exact hk v4 v5
  | r :: J, L, v4, v5, hv, hne, hl, hk => by
    obtain ⟨⟨h1, h2, h3, h4⟩, hv'⟩ := hv
    have hl' : L.length + (J.length + 1) ≤ 1000 := by simpa using hl
    rw [List.map_cons]
    unfold forP
    repeat walk_at "ps"
    refine dIx_l (atR h1 h2) ?_
    repeat walk_at "ps"
    refine dIx_l (atR h3 h4) ?_
    repeat walk_at "ps"
    refine joined_i (hne _ (at_mem h1 h2).1) (hne _ (at_mem h3 h4).1) ?_
    repeat walk_at "ps"
    refine ⟨by rw [List.length_map]; omega, ?_⟩
    repeat walk_at "ps"
    have := rows_loop (v0 := v0) (v1 := v1) (v3 := v3) (K := K) J (L ++ [at? L r.1 ++ at? L r.2]) (SV.val (.int r.1)) (SV.val (.int r.2)) (by rw [List.length_append]; exact hv') (fun l hl => ?_) (by rw [List.length_append, List.length_singleton]; omega) hk
    · rw [List.map_append] at this
      exact this
    · rcases List.mem_append.mp hl with q | q
      · exact hne l q
      · rw [List.mem_singleton.mp q]
        have := hne _ (at_mem h1 h2).1
        simp [this]
theorem rows_of_i {es : List En} {J : Jn} {k : D → Prop} (h0 : es.length ≤ 100) (hJ : J.length ≤ 100) (hv : JV es.length J) (h : k (.tup ((ext (es.map fun e => [e]) J).map rowD))) : wp_rows_of [.tup (es.map enD), .tup (J.map jD)] k := by
  unfold wp_rows_of wpOf
  walk_at "psenv"
  unfold P_rows_of
  repeat walk_at "ps"
  rw [List.length_map]
  refine rgK1_i (by omega) (by omega) ⟨by simp [noOwn], ?_⟩
  have hr : rangeD 0 ((es.length : Int)).toNat = (List.range es.length).map fun i : Nat => D.int ((i : Nat) : Int) := by
    unfold rangeD
    rw [Int.toNat_natCast]
    apply List.map_congr_left
    intro i _
    rw [Int.zero_add]
  rw [hr]
  refine lcP_m (fun i : Nat => D.int ((i : Nat) : Int)) (fun i => rowD ((es[i]?).toList)) (List.range es.length) (by rw [List.length_range]; omega) ?_ ?_
  · intro i hi A B hA
    have hi' := List.mem_range.mp hi
    repeat walk_at "ps"
    refine row_of_i (ps := [((i : Int), es[i])]) ?_ (by simp) (Nat.le_of_ble_eq_true rfl) ?_
    · intro p hp
      rw [List.mem_singleton.mp hp]
      refine ⟨by show (0 : Int) ≤ (i : Int); omega, ?_⟩
      show es[((i : Nat) : Int).toNat]? = some es[i]
      rw [Int.toNat_natCast]
      exact List.getElem?_eq_getElem hi'
    · rw [List.getElem?_eq_getElem hi'] at hA
      exact hA
  repeat walk_at "ps"
  have hm : ((List.range es.length).map fun i => rowD ((es[i]?).toList)) = (es.map fun e => [e]).map rowD := by
    apply List.ext_getElem?
    intro i
    by_cases hi : i < es.length
    · simp [List.getElem?_map, List.getElem?_range hi, List.getElem?_eq_getElem hi]
    · simp [List.getElem?_eq_none, hi, Nat.not_lt.mp hi]
  rw [hm]
  refine rows_loop J (es.map fun e => [e]) _ _ (by rw [List.length_map]; exact hv) (fun l hl => ?_) (by rw [List.length_map]; omega) fun v4 v5 => ?_
  · obtain ⟨e, _, rfl⟩ := List.mem_map.mp hl
    simp
  repeat walk_at "ps"
  exact h
theorem intsD_m {α : Type} (l : List α) (f : α → Int) : intsD (l.map fun x => D.int (f x)) = some (l.map f) := by
  have : (l.map fun x => D.int (f x)) = (l.map f).map D.int := by rw [List.map_map]; rfl
  rw [this]
  exact intsD_map _
theorem started_i {es : List En} {k : D → Prop} (h0 : es.length ≤ 100) (h : k (.int (2 * (es.map En.s).sum))) : wp_started [.tup (es.map enD)] k := by
  unfold wp_started wpOf
  walk_at "psenv"
  unfold P_started
  repeat walk_at "ps"
  refine ⟨by simp [noOwn], ?_⟩
  refine lcP_m enD (fun e => D.int e.s) es (by omega) ?_ ?_
  · intro e he A B hA
    repeat walk_at "ps"
    exact hA
  repeat walk_at "ps"
  refine gSum_i (intsD_m es En.s) ?_
  repeat walk_at "ps"
  exact h
def evW (es : List En) (J : Jn) : Int := (((ext (es.map fun e => [e]) J).map hF).drop es.length).sum + hF (at? (ext (es.map fun e => [e]) J) ((es.length : Int) + J.length - 1)) - 2 * (es.map En.s).sum
theorem cut_from {xs : List D} {n : Nat} (h : n ≤ xs.length) : Pu.cutD xs (some (n : Int)) none = xs.drop n := by
  unfold Pu.cutD
  have h1 : HT.sIx xs.length 0 (some (n : Int)) = n := by
    rw [HT.sIx_nat]
    omega
  rw [h1, HT.sIx_none]
  exact List.take_of_length_le (by simp)
theorem last_map {α : Type} {f : α → D} {L : List α} {x : α} (h : L.getLast? = some x) : atI (L.map f) (-1) = some (f x) := by
  have h0 : L ≠ [] := fun q => by rw [q] at h; cases h
  have hp : 0 < L.length := List.length_pos_iff.mpr h0
  unfold atI ixN
  rw [if_neg (by decide), if_pos (by rw [List.length_map]; omega)]
  show (L.map f)[(-1 + ((L.map f).length : Int)).toNat]? = _
  rw [List.length_map, show (-1 + (L.length : Int)).toNat = L.length - 1 by omega, List.getElem?_map, ← List.getLast?_eq_getElem?, h]
  rfl
theorem ext_last {es : List En} {J : Jn} (h1 : 1 ≤ es.length) : (ext (es.map fun e => [e]) J).getLast? = some (at? (ext (es.map fun e => [e]) J) ((es.length : Int) + J.length - 1)) := by
  have hlen : (ext (es.map fun e => [e]) J).length = es.length + J.length := by rw [ext_len, List.length_map]
  rw [List.getLast?_eq_getElem?, hlen]
  have := (at_mem (L := ext (es.map fun e => [e]) J) (i := (es.length : Int) + J.length - 1) (by omega) (by omega)).2
  rw [← this]
  congr 1
  omega
theorem even_wire_i {es : List En} {J : Jn} {k : D → Prop} (h1 : 1 ≤ es.length) (h0 : es.length ≤ 100) (hJ : J.length ≤ 100) (hv : JV es.length J) (h : k (.int (evW es J))) : wp_even_wire [.tup (es.map enD), .tup (J.map jD)] k := by
  have hlen : (ext (es.map fun e => [e]) J).length = es.length + J.length := by rw [ext_len, List.length_map]
  have hla := ext_last (J := J) h1
  unfold evW at h
  unfold wp_even_wire wpOf
  walk_at "psenv"
  unfold P_even_wire
  repeat walk_at "ps"
  refine rows_of_i h0 hJ hv ?_
  generalize ext (es.map fun e => [e]) J = L at *
  generalize at? L ((es.length : Int) + J.length - 1) = z at *
  repeat walk_at "ps"
  refine ⟨by simp [noOwn], ?_⟩
  refine lcP_m rowD (fun l => D.int (hF l)) L (by omega) ?_ ?_
  · intro l hl A B hA
    unfold rowD
    repeat walk_at "ps"
    exact hA
  repeat walk_at "ps"
  rw [List.length_map, cut_from (by rw [List.length_map]; omega)]
  have e1 : (L.map fun l => D.int (hF l)).drop es.length = ((L.map hF).drop es.length).map D.int := by
    rw [List.map_drop, List.map_map]
    rfl
  rw [e1]
  refine gSum_i (intsD_map _) ?_
  repeat walk_at "ps"
  refine dIx_l (last_map (f := fun l => D.int (hF l)) hla) ?_
  repeat walk_at "ps"
  refine started_i h0 ?_
  repeat walk_at "ps"
  exact h
def up : Nat → Jn → Int → List Int
  | _, [], x => [x]
  | m, r :: J, x => if x = r.1 ∨ x = r.2 then x :: up (m + 1) J m else up (m + 1) J x
theorem rgI_nd (n : Nat) : (rgI n).Nodup := by
  induction n with
  | zero => exact List.nodup_nil
  | succ n ih =>
    rw [rgI_succ, List.nodup_append]
    refine ⟨ih, by simp, fun a ha b hb => ?_⟩
    have := rgI_mem.mp ha
    rw [List.mem_singleton.mp hb]
    omega
theorem JOk.nd {n : Nat} {J : Jn} (h : JOk n J) : (sds J).Nodup := by
  have : (sds J ++ [(n : Int) + J.length - 1]).Nodup := h.use.symm.nodup (rgI_nd _)
  exact (List.nodup_append.mp this).1
theorem up_cons (m : Nat) (r : Int × Int) (J : Jn) (x : Int) : up m (r :: J) x = if x = r.1 ∨ x = r.2 then x :: up (m + 1) J m else up (m + 1) J x := rfl
theorem up_next : ∀ (J : Jn) (m i : Nat) (r : Int × Int) (x : Int), (sds J).Nodup → JV m J → J[i]? = some r → (x = r.1 ∨ x = r.2) → up m J x = x :: up m J ((m + i : Nat) : Int)
  | r0 :: J, m, 0, r, x, hn, hv, hr, hx => by
    cases hr
    obtain ⟨⟨h1, h2, h3, h4⟩, _⟩ := hv
    rw [up_cons, if_pos hx, up_cons, if_neg (by rw [Nat.add_zero]; rintro (q | q) <;> omega)]
    rfl
  | r0 :: J, m, i + 1, r, x, hn, hv, hr, hx => by
    have hn' : (r0.1 :: r0.2 :: sds J).Nodup := hn
    obtain ⟨n1, n2⟩ := List.nodup_cons.mp hn'
    obtain ⟨n3, n4⟩ := List.nodup_cons.mp n2
    obtain ⟨⟨h1, h2, h3, h4⟩, hv'⟩ := hv
    have hxs : x ∈ sds J := mem_sds.mpr ⟨i, r, by simpa using hr, hx⟩
    have x1 : ¬ (x = r0.1 ∨ x = r0.2) := by
      rintro (q | q)
      · exact n1 (by rw [← q]; exact List.mem_cons_of_mem _ hxs)
      · exact n3 (by rw [← q]; exact hxs)
    rw [up_cons, if_neg x1, up_next J (m + 1) i r x n4 hv' (by simpa using hr) hx, up_cons, if_neg (by rintro (q | q) <;> omega), show m + 1 + i = m + (i + 1) by omega]
theorem sds_bnd {n : Nat} {J : Jn} (h : JOk n J) : ∀ x ∈ sds J, 0 ≤ x ∧ x < (n + J.length : Nat) := fun x hx => rgI_mem.mp (h.use.mem_iff.mp (List.mem_append_left _ hx))
theorem in_sds {n : Nat} {J : Jn} (h : JOk n J) {x : Int} (hx : x ∈ sds J) : 0 ≤ x ∧ x < (n : Int) + J.length - 1 := by
  have hb := sds_bnd h x hx
  refine ⟨hb.1, ?_⟩
  have nd : (sds J ++ [(n : Int) + J.length - 1]).Nodup := h.use.symm.nodup (rgI_nd _)
  have := (List.nodup_append.mp nd).2.2 x hx _ (List.mem_singleton.mpr rfl)
  omega
theorem sPut_i {i : Nat} {pi pe : PX} {env : List SV} {xs : List D} {K : PK'} (e : env[i]? = some (.own (.lst xs))) (h : pe env fun y => pi env fun d => inK d fun n => ∃ jj, ixN xs.length n = some jj ∧ K.nx (env.set i (.own (.lst (xs.set jj y))))) : sPut i pi pe env K := by
  unfold sPut
  rw [e]
  exact h
theorem up_self : ∀ (J : Jn) (m : Nat) (x : Int), x ∈ up m J x
  | [], _, _ => List.mem_singleton.mpr rfl
  | r :: J, m, x => by
    rw [up_cons]
    split
    · exact List.mem_cons_self
    · exact up_self J (m + 1) x
theorem up_ge : ∀ (J : Jn) (m : Nat) (x w : Int), w ∈ up m J x → w = x ∨ (m : Int) ≤ w
  | [], _, _, _, h => .inl (List.mem_singleton.mp h)
  | r :: J, m, x, w, h => by
    unfold up at h
    split at h
    · rcases List.mem_cons.mp h with q | q
      · exact .inl q
      · rcases up_ge J (m + 1) m w q with q | q
        · exact .inr (by omega)
        · exact .inr (by omega)
    · rcases up_ge J (m + 1) x w h with q | q
      · exact .inl q
      · exact .inr (by omega)
theorem up_rise : ∀ (J : Jn) (m : Nat) (x : Int), x < m → (up m J x).Pairwise (· < ·)
  | [], _, _, _ => List.pairwise_singleton _ _
  | r :: J, m, x, h => by
    rw [up_cons]
    split
    · refine List.pairwise_cons.mpr ⟨fun w hw => ?_, up_rise J (m + 1) m (by omega)⟩
      rcases up_ge J (m + 1) m w hw with q | q <;> omega
    · exact up_rise J (m + 1) x (by omega)
theorem up_rise' : ∀ (J : Jn) (m : Nat) (x : Int), JV m J → x < (m + J.length : Nat) → (up m J x).Pairwise (· < ·)
  | [], _, _, _, _ => List.pairwise_singleton _ _
  | r :: J, m, x, hv, h => by
    obtain ⟨⟨h1, h2, h3, h4⟩, hv'⟩ := hv
    rw [up_cons]
    split
    · rename_i q
      refine List.pairwise_cons.mpr ⟨fun w hw => ?_, up_rise J (m + 1) m (by omega)⟩
      rcases up_ge J (m + 1) m w hw with w' | w' <;> rcases q with q | q <;> omega
    · exact up_rise' J (m + 1) x hv' (by simp at h ⊢; omega)
theorem up_min (J : Jn) (m : Nat) (x : Int) (hv : JV m J) (hx : x < (m + J.length : Nat)) (w : Int) (hw : w ∈ up m J x) : x ≤ w := by
  have hr := up_rise' J m x hv hx
  obtain ⟨t, ht⟩ : ∃ t, up m J x = x :: t := by
    clear hw hr
    induction J generalizing m with
    | nil => exact ⟨[], rfl⟩
    | cons r J ih =>
      rw [up_cons]
      split
      · exact ⟨_, rfl⟩
      · exact ih (m + 1) hv.2 (by simp at hx ⊢; omega)
  rw [ht] at hr hw
  rcases List.mem_cons.mp hw with q | q
  · omega
  · have := (List.pairwise_cons.mp hr).1 w q
    omega
def gE (es : List En) (i : Int) : En := (es[i.toNat]?).getD ⟨0, 0, 0, 0⟩
theorem lex2 (a b c d : Int) : HT.lexLt [a, b] [c, d] = (if a = c then decide (b < d) else decide (a < c)) := by
  rw [HT.lexLt_cons, HT.lexLt_cons]
  split
  · split
    · rename_i h
      subst h
      rw [decide_eq_false (Int.lt_irrefl _)]
      rfl
    · rfl
  · rfl
/-- the pair p, q of b wants the most, and is the first such -/
structure Fst (es : List En) (b : List Int) (p q : Int) : Prop where
  p_in : p ∈ b
  q_in : q ∈ b
  le : p ≤ q
  most : ∀ x ∈ b, ∀ y ∈ b, x ≤ y → want (gE es x) (gE es y) ≤ want (gE es p) (gE es q) ∧ (want (gE es x) (gE es y) = want (gE es p) (gE es q) → HT.lexLt [x, y] [p, q] = false)
theorem Fst.uniq {es : List En} {b : List Int} {p q x y : Int} (h : Fst es b p q) (hx : x ∈ b) (hy : y ∈ b) (hw : want (gE es x) (gE es y) = want (gE es p) (gE es q)) (hm : ∀ r ∈ [[x, y], [y, x], [p, q]], HT.lexLt r [x, y] = false) : x = p ∧ y = q := by
  have h1 := hm [y, x] (by simp)
  have h2 := hm [p, q] (by simp)
  rw [lex2] at h1 h2
  have hxy : x ≤ y := by
    split at h1
    · omega
    · have := of_decide_eq_false h1
      omega
  have h3 := (h.most x hx y hy hxy).2 hw
  rw [lex2] at h3
  split at h2
  · rename_i e
    subst e
    rw [if_pos rfl] at h3
    have := of_decide_eq_false h2
    have := of_decide_eq_false h3
    exact ⟨rfl, by omega⟩
  · rename_i e
    rw [if_neg (Ne.symm e)] at h3
    have := of_decide_eq_false h2
    have := of_decide_eq_false h3
    exact absurd (by omega) e
theorem SpOk.uniq {T : Int × Int} {n : Nat} {J : Jn} {L : List (List En)} {O : List Int} {S S' : Jn} (h : SpOk T L O S) (h' : SpOk T L O S') (hO : OvOk n J O) (hJ : JOk n J) (hL : L.length = n + J.length) : S = S' := by
  have hol := hO.len
  have go : ∀ (k : Nat) (x : Int), 0 ≤ x → x < L.length → (L.length : Int) - 1 - x ≤ k → jAt S x = jAt S' x := by
    intro k
    induction k with
    | zero =>
      intro x x0 x1 hk
      have e : x = (L.length : Int) - 1 := by omega
      rw [e, h.root, h'.root]
    | succ k ih =>
      intro x x0 x1 hk
      by_cases q : x = (L.length : Int) - 1
      · rw [q, h.root, h'.root]
      · have hx : x < O.length := by omega
        obtain ⟨i, r, _, _, e, hlt, hi⟩ := hO.nx hJ x0 hx
        rw [h.nx x x0 hx, h'.nx x x0 hx, ih _ (by omega) (by omega) (by omega)]
  have l1 := h.len
  have l2 := h'.len
  apply List.ext_getElem?
  intro i
  by_cases hi : i < S.length
  · have := go L.length (i : Int) (by omega) (by omega) (by omega)
    unfold jAt at this
    rw [Int.toNat_natCast, List.getElem?_eq_getElem hi, List.getElem?_eq_getElem (show i < S'.length by omega)] at this
    rw [List.getElem?_eq_getElem hi, List.getElem?_eq_getElem (show i < S'.length by omega)]
    exact congrArg some this
  · rw [List.getElem?_eq_none (by omega), List.getElem?_eq_none (by omega)]
theorem OvOk.uniq {n : Nat} {J : Jn} {O O' : List Int} (h : OvOk n J O) (h' : OvOk n J O') (hJ : JOk n J) : O = O' := by
  have hl := h.len
  have hl' := h'.len
  apply List.ext_getElem?
  intro i
  by_cases hi : i < O.length
  · obtain ⟨_, j, r, hr, hy, _, ho⟩ := h.at hJ (x := (i : Int)) (by omega) (by omega)
    rw [Int.toNat_natCast] at ho
    rw [ho]
    rcases hy with q | q
    · have := (h'.hit j r hr).1
      rw [← q, Int.toNat_natCast] at this
      exact this.symm
    · have := (h'.hit j r hr).2
      rw [← q, Int.toNat_natCast] at this
      exact this.symm
  · rw [List.getElem?_eq_none (by omega), List.getElem?_eq_none (by omega)]
theorem joints_above_i {n : Nat} {J : Jn} {O : List Int} {k : D → Prop} (n1 : n ≤ 24) (hJ : JOk n J) (hO : OvOk n J O) (h : k (.tup (O.map D.int))) : wp_joints_above [.tup (J.map jD)] k := by
  have hl := hJ.len
  unfold wp_joints_above wpOf
  walk_at "psenv"
  unfold P_joints_above
  repeat walk_at "ps"
  rw [List.length_map]
  have et : (2 * (J.length : Int)).toNat = n + J.length - 1 := by omega
  refine ⟨by omega, by rw [et]; show 1 * _ ≤ _; omega, by omega, ?_⟩
  have rep : ∀ m : Nat, (List.replicate m [D.int 0]).flatten = (List.replicate m (0 : Int)).map D.int := fun m => by
    induction m with
    | zero => rfl
    | succ m ih => rw [List.replicate_succ, List.flatten_cons, ih, List.replicate_succ]; rfl
  rw [et, rep]
  repeat walk_at "ps"
  refine enK_i (by omega) ?_
  refine forP_i (fun i env => ∃ (O : List Int) (v3 v4 v5 : SV), env = [SV.val (.tup (J.map jD)), SV.val (.int ((J.length : Int) + 1)), SV.own (.lst (O.map D.int)), v3, v4, v5] ∧ O.length = n + J.length - 1 ∧ ∀ (j : Nat) (r : Int × Int), j < i → J[j]? = some r → O[r.1.toNat]? = some ((n + j : Nat) : Int) ∧ O[r.2.toNat]? = some ((n + j : Nat) : Int)) _ 0 ⟨_, _, _, _, rfl, by simp, fun j r q => by omega⟩ ?_ ?_
  · rintro i d env hd ⟨O, v3, v4, v5, rfl, hO, hh⟩ N hN
    obtain ⟨y, hy, rfl⟩ := enumD_get hd
    rw [List.getElem?_map] at hy
    cases hr : J[i]? with
    | none => rw [hr] at hy; cases hy
    | some r =>
      rw [hr] at hy
      cases hy
      rw [Nat.zero_add] at hh hN
      have b1 := in_sds hJ (mem_sds.mpr ⟨i, r, hr, .inl rfl⟩)
      have b2 := in_sds hJ (mem_sds.mpr ⟨i, r, hr, .inr rfl⟩)
      have ix : ∀ (A : List D) (x : Int), 0 ≤ x → x < A.length → ixN A.length x = some x.toNat := fun A x x0 x1 => by
        unfold ixN
        rw [if_pos x0, if_pos x1]
      have e : (J.length : Int) + 1 + (i : Nat) = ((n + i : Nat) : Int) := by omega
      repeat walk_at "ps"
      unfold forP
      repeat walk_at "ps"
      refine sPut_i rfl ?_
      repeat walk_at "ps"
      refine ⟨_, ix _ _ b1.1 (by rw [List.length_map]; omega), ?_⟩
      repeat walk_at "ps"
      unfold forP
      repeat walk_at "ps"
      refine sPut_i rfl ?_
      repeat walk_at "ps"
      refine ⟨_, ix _ _ b2.1 (by rw [List.length_set, List.length_map]; omega), ?_⟩
      repeat walk_at "ps"
      unfold forP
      rw [e]
      refine hN _ ⟨(O.set r.1.toNat ((n + i : Nat) : Int)).set r.2.toNat ((n + i : Nat) : Int), SV.val (.int ((n + i : Nat) : Int)), SV.val (jD r), SV.val (.int r.2), ?_, by simp [hO], fun j r' hj hr' => ?_⟩
      · rw [List.map_set, List.map_set]
        rfl
      · by_cases q : j = i
        · subst q
          rw [hr] at hr'
          cases hr'
          constructor
          · by_cases w : r.2.toNat = r.1.toNat
            · rw [w, List.getElem?_set_self (by simp; omega)]
            · rw [List.getElem?_set_ne w, List.getElem?_set_self (by omega)]
          · rw [List.getElem?_set_self (by simp; omega)]
        · obtain ⟨q1, q2⟩ := hh j r' (by omega) hr'
          have lt : ∀ {x : Int}, (x = r'.1 ∨ x = r'.2) → ∀ {y : Int}, (y = r.1 ∨ y = r.2) → y.toNat ≠ x.toNat := fun {x} hx {y} hy w => by
            have hx0 := in_sds hJ (mem_sds.mpr ⟨j, r', hr', hx⟩)
            have hy0 := in_sds hJ (mem_sds.mpr ⟨i, r, hr, hy⟩)
            have exy : x = y := by omega
            have u1 := up_next J n j r' x hJ.nd hJ.v hr' hx
            have u2 := up_next J n i r y hJ.nd hJ.v hr hy
            rw [exy, u2] at u1
            have u3 : up n J ((n + i : Nat) : Int) = up n J ((n + j : Nat) : Int) := (List.cons.inj u1).2
            have hj' : j < J.length := (List.getElem?_eq_some_iff.mp hr').1
            have hi' : i < J.length := (List.getElem?_eq_some_iff.mp hr).1
            have p1 : ((n + i : Nat) : Int) ∈ up n J ((n + j : Nat) : Int) := by
              rw [← u3]
              exact up_self J n _
            have p2 : ((n + j : Nat) : Int) ∈ up n J ((n + i : Nat) : Int) := by
              rw [u3]
              exact up_self J n _
            have m1 := up_min J n _ hJ.v (by omega) _ p1
            have m2 := up_min J n _ hJ.v (by omega) _ p2
            omega
          rw [List.getElem?_set_ne (lt (.inl rfl) (.inr rfl)), List.getElem?_set_ne (lt (.inl rfl) (.inl rfl)), List.getElem?_set_ne (lt (.inr rfl) (.inr rfl)), List.getElem?_set_ne (lt (.inr rfl) (.inl rfl))]
          exact ⟨q1, q2⟩
  · rintro env ⟨O', v3, v4, v5, rfl, hO', hh⟩
    have he : (enumD ((J.length : Int) + 1) (J.map jD)).length = J.length := by simp [enumD]
    have ho : OvOk n J O' := ⟨by omega, fun i r hr => hh i r (by have := (List.getElem?_eq_some_iff.mp hr).1; omega) hr⟩
    repeat walk_at "ps"
    rw [ho.uniq hO hJ]
    exact h
abbrev bxL (l : List En) : D := boxD (hF l) l
theorem lenAt_at {ls : List Int} {w : Int} (h0 : 0 ≤ w) (h1 : w < ls.length) : atI (ls.map D.int) w = some (.int (lenAt ls w)) := by
  refine at_nat h0 ?_
  rw [List.getElem?_map]
  unfold lenAt
  rw [List.getElem?_eq_getElem (show w.toNat < ls.length by omega)]
  rfl
theorem within_i {a b c : Int} {k : D → Prop} (h : k (.int (max a (min b c)))) : wp_within [.int a, .int b, .int c] k := by
  unfold wp_within wpOf
  walk_at "psenv"
  unfold P_within
  repeat walk_at "ps"
  exact h
theorem nearest_i {l : List En} {t : Int × Int} {k : D → Prop} (h : k (jD (nearP l t))) : wp_nearest [boxD (hF l) l, jD t] k := by
  unfold wp_nearest wpOf
  walk_at "psenv"
  unfold P_nearest boxD
  repeat walk_at "ps"
  refine within_i ?_
  repeat walk_at "ps"
  refine within_i ?_
  repeat walk_at "ps"
  exact h
theorem has_i {l : List En} {T : Int × Int} {b : Bool} {k : D → Prop} (hb : b = true ↔ InB l T) (h : k (.bl b)) : wp_has [boxD (hF l) l, jD T] k := by
  unfold wp_has wpOf
  walk_at "psenv"
  unfold P_has boxD
  repeat walk_at "ps"
  have no : ¬ InB l T → k (.bl false) := fun q => by
    have e : b = false := by cases b with | true => exact absurd (hb.mp rfl) q | false => rfl
    rw [e] at h; exact h
  refine bCase_d (fun q1 => ?_) (fun q => no fun w => q w.a)
  repeat walk_at "ps"
  refine bCase_d (fun q2 => ?_) (fun q => no fun w => q w.b)
  repeat walk_at "ps"
  refine bCase_d (fun q3 => ?_) (fun q => no fun w => q w.c)
  repeat walk_at "ps"
  by_cases q4 : T.2 ≤ hiV (hF l) l
  · rw [hb.mpr ⟨q1, q2, q3, q4⟩] at h
    rw [decide_eq_true q4]
    exact h
  · rw [decide_eq_false q4]
    exact no fun w => q4 w.d
theorem dIs_tn {neg : Bool} {xs : List D} {k : D → Prop} (h : k (.bl neg)) : dIs neg (.tup xs) .non k := h
theorem root_spot_i {l : List En} {T : Int × Int} {k : D → Prop} (hT : InB l T) (h : k (jD T)) : wp_root_spot [boxD (hF l) l, jD T] k := by
  unfold wp_root_spot wpOf
  walk_at "psenv"
  unfold P_root_spot
  repeat walk_at "ps"
  refine dIs_tn ?_
  repeat walk_at "ps"
  refine sSeq_i ?_
  repeat walk_at "ps"
  refine has_i (b := true) ⟨fun _ => hT, fun _ => rfl⟩ ?_
  repeat walk_at "ps"
  exact h
theorem jAt_at {S : Jn} {x : Int} (x0 : 0 ≤ x) (x1 : x < S.length) : atI (S.map jD) x = some (jD (jAt S x)) := by
  refine at_nat x0 ?_
  rw [List.getElem?_map]
  unfold jAt
  rw [List.getElem?_eq_getElem (show x.toNat < S.length by omega)]
  rfl
theorem rep_jD (m : Nat) (t : Int × Int) : (List.replicate m [jD t]).flatten = (List.replicate m t).map jD := by
  induction m with
  | zero => rfl
  | succ m ih => rw [List.replicate_succ, List.flatten_cons, ih, List.replicate_succ]; rfl
theorem stood_i {es : List En} {J : Jn} {O : List Int} {k : D → Prop} (h1 : 1 ≤ es.length) (n1 : es.length ≤ 24) (hJ : JOk es.length J) (hO : OvOk es.length J O) {T : Int × Int} (hT : InB (at? (Lx es J) ((es.length : Int) + J.length - 1)) T) (h : ∀ S, SpOk T (Lx es J) O S → k (.tup (S.map jD))) : wp_stood [.tup (J.map jD), .lst ((Lx es J).map bxL), jD T] k := by
  have hjl := hJ.len
  have hol := hO.len
  have hll := lx_len es J
  have hla : atI ((Lx es J).map bxL) (-1) = some (bxL (at? (Lx es J) ((es.length : Int) + J.length - 1))) := last_map (ext_last h1)
  unfold wp_stood wpOf
  walk_at "psenv"
  unfold P_stood
  repeat walk_at "ps"
  refine dIx_l hla ?_
  repeat walk_at "ps"
  refine root_spot_i hT ?_
  repeat walk_at "ps"
  rw [List.length_map, hll]
  refine ⟨by omega, by rw [Int.toNat_natCast]; show 1 * _ ≤ _; omega, by omega, ?_⟩
  rw [Int.toNat_natCast, rep_jD]
  repeat walk_at "ps"
  refine joints_above_i n1 hJ hO ?_
  repeat walk_at "ps"
  rw [List.length_map]
  refine rvK_i (by omega) ?_
  rw [Int.toNat_natCast]
  refine forP_i (fun i env => ∃ (S : Jn) (v5 : SV), env = [SV.val (.tup (J.map jD)), SV.val (.lst ((Lx es J).map bxL)), SV.val (jD T), SV.own (.lst (S.map jD)), SV.val (.tup (O.map D.int)), v5] ∧ S.length = es.length + J.length ∧ jAt S ((es.length : Int) + J.length - 1) = T ∧ ∀ x : Int, 0 ≤ x → (O.length : Int) - i ≤ x → x < O.length → jAt S x = nearP (at? (Lx es J) x) (jAt S (lenAt O x))) _ 0
    ⟨List.replicate (es.length + J.length) T, SV.no, rfl, by simp, jAt_rep (by omega) (by omega), fun x _ q1 q2 => by omega⟩ ?_ ?_
  · rintro i d env hd ⟨S, v5, rfl, hS, hr, hh⟩ N hN
    obtain ⟨rfl, hi⟩ := revD_get hd
    rw [Nat.zero_add] at hh hN
    have y0 : (0 : Int) ≤ (O.length : Int) - 1 - (i : Nat) := by omega
    have y1 : (O.length : Int) - 1 - (i : Nat) < O.length := by omega
    obtain ⟨i', r, _, _, eo, hlt, hi'⟩ := hO.nx hJ y0 y1
    repeat walk_at "ps"
    refine sPut_i rfl ?_
    repeat walk_at "ps"
    refine dIx_l (at_nat (d := bxL (at? (Lx es J) ((O.length : Int) - 1 - (i : Nat)))) y0 (by rw [List.getElem?_map, (at_mem y0 (by omega)).2]; rfl)) ?_
    repeat walk_at "ps"
    refine dIx_t (lenAt_at y0 y1) ?_
    refine dIx_l (jAt_at (by omega) (by omega)) ?_
    repeat walk_at "ps"
    refine nearest_i ?_
    repeat walk_at "ps"
    refine ⟨((O.length : Int) - 1 - (i : Nat)).toNat, ?_, ?_⟩
    · unfold ixN
      rw [if_pos y0, if_pos (by rw [List.length_map]; omega)]
    have hj : ((((O.length : Int) - 1 - (i : Nat)).toNat : Nat) : Int) = (O.length : Int) - 1 - (i : Nat) := Int.toNat_of_nonneg y0
    refine hN _ ⟨S.set ((O.length : Int) - 1 - (i : Nat)).toNat (nearP (at? (Lx es J) ((O.length : Int) - 1 - (i : Nat))) (jAt S (lenAt O ((O.length : Int) - 1 - (i : Nat))))), SV.val (.int ((O.length : Int) - 1 - (i : Nat))), ?_, by simp [hS], ?_, fun x x0 x1 x2 => ?_⟩
    · rw [List.map_set]
      rfl
    · rw [jAt_set (by omega) (by omega), if_neg (by omega)]
      exact hr
    · rw [jAt_set x0 (by omega), hj]
      by_cases q : x = (O.length : Int) - 1 - (i : Nat)
      · rw [if_pos q, q, jAt_set (by omega) (by omega), hj, if_neg (by omega)]
      · obtain ⟨i2, r2, _, _, eo2, hlt2, hi2⟩ := hO.nx hJ x0 x2
        rw [if_neg q, jAt_set (by omega) (by omega), hj, if_neg (by omega)]
        exact hh x x0 (by omega) x2
  · rintro env ⟨S, v5, rfl, hS, hr, hh⟩
    have he : (revD O.length).length = O.length := by simp [revD]
    rw [he] at hh
    repeat walk_at "ps"
    refine h S ⟨by omega, ?_, fun x x0 x1 => hh x x0 (by omega) x1⟩
    rw [show ((Lx es J).length : Int) - 1 = (es.length : Int) + J.length - 1 by omega, hr]
theorem enum_rg (O : List Int) : enumD 0 (O.map D.int) = (rgI O.length).map fun x => D.tup [.int x, .int (lenAt O x)] := by
  apply List.ext_getElem?
  intro i
  have hel : (enumD 0 (O.map D.int)).length = O.length := by simp [enumD]
  by_cases hi : i < O.length
  · have h1 : (enumD 0 (O.map D.int))[i]? = some ((enumD 0 (O.map D.int))[i]'(by omega)) := List.getElem?_eq_getElem (by omega)
    obtain ⟨y, hy, e⟩ := enumD_get h1
    rw [h1, e, List.getElem?_map, rgI_get hi]
    rw [List.getElem?_map, List.getElem?_eq_getElem hi] at hy
    cases hy
    show some (D.tup [.int (0 + (i : Nat)), .int O[i]]) = some (D.tup [.int (i : Nat), .int (lenAt O (i : Nat))])
    rw [Int.zero_add]
    unfold lenAt
    rw [Int.toNat_natCast, List.getElem?_eq_getElem hi]
    rfl
  · rw [List.getElem?_eq_none (by omega), List.getElem?_eq_none (by rw [List.length_map, rgI_len]; omega)]
def treeD (L : List (List En)) (O : List Int) (S : Jn) : D := .tup [.int 2, .tup (S.map jD), .tup ((lsF L O).map D.int)]
theorem even_tree_i {es : List En} {J : Jn} {O : List Int} {k : D → Prop} (h1 : 1 ≤ es.length) (n1 : es.length ≤ 24) (hJ : JOk es.length J) (hO : OvOk es.length J O) {T : Int × Int} (hT : InB (at? (Lx es J) ((es.length : Int) + J.length - 1)) T) (h : ∀ S, SpOk T (Lx es J) O S → k (treeD (Lx es J) O S)) : wp_even_tree [.tup (es.map enD), .tup (J.map jD), jD T] k := by
  have hjl := hJ.len
  have hol := hO.len
  have hll := lx_len es J
  unfold wp_even_tree wpOf
  walk_at "psenv"
  unfold P_even_tree
  repeat walk_at "ps"
  refine rows_of_i (by omega) (by omega) hJ.v ?_
  repeat walk_at "ps"
  refine ⟨by simp [noOwn], ?_⟩
  refine lcP_m rowD bxL (Lx es J) (by omega) ?_ ?_
  · intro l hl A B hA
    unfold rowD
    repeat walk_at "ps"
    exact hA
  repeat walk_at "ps"
  refine stood_i h1 n1 hJ hO hT fun S hS => ?_
  repeat walk_at "ps"
  refine joints_above_i n1 hJ hO ?_
  repeat walk_at "ps"
  refine ⟨by simp [noOwn], ?_⟩
  rw [enum_rg]
  refine lcP_m (fun x => D.tup [.int x, .int (lenAt O x)]) (fun x => D.int (Hh (Lx es J) (lenAt O x) - Hh (Lx es J) x)) (rgI O.length) (by rw [rgI_len]; omega) ?_ ?_
  · intro x hx A B hA
    have hb := rgI_mem.mp hx
    obtain ⟨i, r, _, _, eo, hlt, hi⟩ := hO.nx hJ hb.1 hb.2
    repeat walk_at "ps"
    refine dIx_t (atR (L := Lx es J) (by omega) (by omega)) ?_
    unfold rowD
    repeat walk_at "ps"
    refine dIx_t (atR (L := Lx es J) hb.1 (by omega)) ?_
    unfold rowD
    repeat walk_at "ps"
    exact hA
  repeat walk_at "ps"
  have := h S hS
  unfold treeD lsF at this
  rw [List.map_map] at this
  exact this
def crn (l : List En) : Int × Int := (loU (hF l) l, loV (hF l) l)
theorem dIs_nn {neg : Bool} {k : D → Prop} (h : k (.bl (!neg))) : dIs neg .non .non k := by cases neg <;> exact h
theorem root_spot_n {l : List En} {k : D → Prop} (h : k (jD (crn l))) : wp_root_spot [boxD (hF l) l, .non] k := by
  unfold wp_root_spot wpOf
  walk_at "psenv"
  unfold P_root_spot
  repeat walk_at "ps"
  refine dIs_nn ?_
  repeat walk_at "ps"
  unfold wp_corner wpOf
  walk_at "psenv"
  unfold P_corner boxD
  repeat walk_at "ps"
  exact h
theorem stood_n {es : List En} {J : Jn} {O : List Int} {k : D → Prop} (h1 : 1 ≤ es.length) (n1 : es.length ≤ 24) (hJ : JOk es.length J) (hO : OvOk es.length J O) {T : Int × Int} (hT : T = crn (at? (Lx es J) ((es.length : Int) + J.length - 1))) (h : ∀ S, SpOk T (Lx es J) O S → k (.tup (S.map jD))) : wp_stood [.tup (J.map jD), .lst ((Lx es J).map bxL), .non] k := by
  have hjl := hJ.len
  have hol := hO.len
  have hll := lx_len es J
  have hla : atI ((Lx es J).map bxL) (-1) = some (bxL (at? (Lx es J) ((es.length : Int) + J.length - 1))) := last_map (ext_last h1)
  unfold wp_stood wpOf
  walk_at "psenv"
  unfold P_stood
  repeat walk_at "ps"
  refine dIx_l hla ?_
  repeat walk_at "ps"
  refine root_spot_n ?_
  rw [← hT]
  repeat walk_at "ps"
  rw [List.length_map, hll]
  refine ⟨by omega, by rw [Int.toNat_natCast]; show 1 * _ ≤ _; omega, by omega, ?_⟩
  rw [Int.toNat_natCast, rep_jD]
  repeat walk_at "ps"
  refine joints_above_i n1 hJ hO ?_
  repeat walk_at "ps"
  rw [List.length_map]
  refine rvK_i (by omega) ?_
  rw [Int.toNat_natCast]
  refine forP_i (fun i env => ∃ (S : Jn) (v5 : SV), env = [SV.val (.tup (J.map jD)), SV.val (.lst ((Lx es J).map bxL)), SV.val .non, SV.own (.lst (S.map jD)), SV.val (.tup (O.map D.int)), v5] ∧ S.length = es.length + J.length ∧ jAt S ((es.length : Int) + J.length - 1) = T ∧ ∀ x : Int, 0 ≤ x → (O.length : Int) - i ≤ x → x < O.length → jAt S x = nearP (at? (Lx es J) x) (jAt S (lenAt O x))) _ 0
    ⟨List.replicate (es.length + J.length) T, SV.no, rfl, by simp, jAt_rep (by omega) (by omega), fun x _ q1 q2 => by omega⟩ ?_ ?_
  · rintro i d env hd ⟨S, v5, rfl, hS, hr, hh⟩ N hN
    obtain ⟨rfl, hi⟩ := revD_get hd
    rw [Nat.zero_add] at hh hN
    have y0 : (0 : Int) ≤ (O.length : Int) - 1 - (i : Nat) := by omega
    have y1 : (O.length : Int) - 1 - (i : Nat) < O.length := by omega
    obtain ⟨i', r, _, _, eo, hlt, hi'⟩ := hO.nx hJ y0 y1
    repeat walk_at "ps"
    refine sPut_i rfl ?_
    repeat walk_at "ps"
    refine dIx_l (at_nat (d := bxL (at? (Lx es J) ((O.length : Int) - 1 - (i : Nat)))) y0 (by rw [List.getElem?_map, (at_mem y0 (by omega)).2]; rfl)) ?_
    repeat walk_at "ps"
    refine dIx_t (lenAt_at y0 y1) ?_
    refine dIx_l (jAt_at (by omega) (by omega)) ?_
    repeat walk_at "ps"
    refine nearest_i ?_
    repeat walk_at "ps"
    refine ⟨((O.length : Int) - 1 - (i : Nat)).toNat, ?_, ?_⟩
    · unfold ixN
      rw [if_pos y0, if_pos (by rw [List.length_map]; omega)]
    have hj : ((((O.length : Int) - 1 - (i : Nat)).toNat : Nat) : Int) = (O.length : Int) - 1 - (i : Nat) := Int.toNat_of_nonneg y0
    refine hN _ ⟨S.set ((O.length : Int) - 1 - (i : Nat)).toNat (nearP (at? (Lx es J) ((O.length : Int) - 1 - (i : Nat))) (jAt S (lenAt O ((O.length : Int) - 1 - (i : Nat))))), SV.val (.int ((O.length : Int) - 1 - (i : Nat))), ?_, by simp [hS], ?_, fun x x0 x1 x2 => ?_⟩
    · rw [List.map_set]
      rfl
    · rw [jAt_set (by omega) (by omega), if_neg (by omega)]
      exact hr
    · rw [jAt_set x0 (by omega), hj]
      by_cases q : x = (O.length : Int) - 1 - (i : Nat)
      · rw [if_pos q, q, jAt_set (by omega) (by omega), hj, if_neg (by omega)]
      · obtain ⟨i2, r2, _, _, eo2, hlt2, hi2⟩ := hO.nx hJ x0 x2
        rw [if_neg q, jAt_set (by omega) (by omega), hj, if_neg (by omega)]
        exact hh x x0 (by omega) x2
  · rintro env ⟨S, v5, rfl, hS, hr, hh⟩
    have he : (revD O.length).length = O.length := by simp [revD]
    rw [he] at hh
    repeat walk_at "ps"
    refine h S ⟨by omega, ?_, fun x x0 x1 => hh x x0 (by omega) x1⟩
    rw [show ((Lx es J).length : Int) - 1 = (es.length : Int) + J.length - 1 by omega, hr]
theorem even_tree_n {es : List En} {J : Jn} {O : List Int} {k : D → Prop} (h1 : 1 ≤ es.length) (n1 : es.length ≤ 24) (hJ : JOk es.length J) (hO : OvOk es.length J O) {T : Int × Int} (hT : T = crn (at? (Lx es J) ((es.length : Int) + J.length - 1))) (h : ∀ S, SpOk T (Lx es J) O S → k (treeD (Lx es J) O S)) : wp_even_tree [.tup (es.map enD), .tup (J.map jD), .non] k := by
  have hjl := hJ.len
  have hol := hO.len
  have hll := lx_len es J
  unfold wp_even_tree wpOf
  walk_at "psenv"
  unfold P_even_tree
  repeat walk_at "ps"
  refine rows_of_i (by omega) (by omega) hJ.v ?_
  repeat walk_at "ps"
  refine ⟨by simp [noOwn], ?_⟩
  refine lcP_m rowD bxL (Lx es J) (by omega) ?_ ?_
  · intro l hl A B hA
    unfold rowD
    repeat walk_at "ps"
    exact hA
  repeat walk_at "ps"
  refine stood_n h1 n1 hJ hO hT fun S hS => ?_
  repeat walk_at "ps"
  refine joints_above_i n1 hJ hO ?_
  repeat walk_at "ps"
  refine ⟨by simp [noOwn], ?_⟩
  rw [enum_rg]
  refine lcP_m (fun x => D.tup [.int x, .int (lenAt O x)]) (fun x => D.int (Hh (Lx es J) (lenAt O x) - Hh (Lx es J) x)) (rgI O.length) (by rw [rgI_len]; omega) ?_ ?_
  · intro x hx A B hA
    have hb := rgI_mem.mp hx
    obtain ⟨i, r, _, _, eo, hlt, hi⟩ := hO.nx hJ hb.1 hb.2
    repeat walk_at "ps"
    refine dIx_t (atR (L := Lx es J) (by omega) (by omega)) ?_
    unfold rowD
    repeat walk_at "ps"
    refine dIx_t (atR (L := Lx es J) hb.1 (by omega)) ?_
    unfold rowD
    repeat walk_at "ps"
    exact hA
  repeat walk_at "ps"
  have := h S hS
  unfold treeD lsF at this
  rw [List.map_map] at this
  exact this
theorem whole_i {a : Int} {k : D → Prop} (h : k (.bl true)) : wp__law_whole [.int a] k := by
  unfold wp__law_whole wpOf
  walk_at "psenv"
  unfold P__law_whole
  repeat walk_at "ps"
  exact h
def rch (es : List En) (J : Jn) (g : Int) (ls : List Int) (x : Int) : Int := g * (gE es x).s + ((up es.length J x).dropLast.map (lenAt ls)).sum
def rchs (es : List En) (J : Jn) (g : Int) (ls : List Int) : List Int := (rgI es.length).map (rch es J g ls)
theorem over_i {n : Nat} {J : Jn} {k : D → Prop} (n1 : n ≤ 24) (hJ : JOk n J) (h : ∀ O, OvOk n J O → k (.lst (O.map D.int))) : wp__law_over [.int n, .tup (J.map jD)] k := by
  have hl := hJ.len
  unfold wp__law_over wpOf
  walk_at "psenv"
  unfold P__law_over
  repeat walk_at "ps"
  rw [List.length_map]
  have et : ((n : Int) + J.length - 1).toNat = n + J.length - 1 := by omega
  refine ⟨by omega, by rw [et]; show 1 * _ ≤ _; omega, by omega, ?_⟩
  have rep : ∀ m : Nat, (List.replicate m [D.int 0]).flatten = (List.replicate m (0 : Int)).map D.int := fun m => by
    induction m with
    | zero => rfl
    | succ m ih => rw [List.replicate_succ, List.flatten_cons, ih, List.replicate_succ]; rfl
  rw [et, rep]
  repeat walk_at "ps"
  refine forP_i (fun i env => ∃ (O : List Int) (v3 v4 v5 : SV), env = [SV.val (.int n), SV.val (.tup (J.map jD)), SV.own (.lst (O.map D.int)), v3, v4, v5] ∧ O.length = n + J.length - 1 ∧ ∀ (j : Nat) (r : Int × Int), j < i → J[j]? = some r → O[r.1.toNat]? = some ((n + j : Nat) : Int) ∧ O[r.2.toNat]? = some ((n + j : Nat) : Int)) _ 0 ⟨_, _, _, _, rfl, by simp, fun j r q => by omega⟩ ?_ ?_
  · rintro i d env hd ⟨O, v3, v4, v5, rfl, hO, hh⟩ N hN
    obtain ⟨y, hy, rfl⟩ := enumD_get hd
    rw [List.getElem?_map] at hy
    cases hr : J[i]? with
    | none => rw [hr] at hy; cases hy
    | some r =>
      rw [hr] at hy
      cases hy
      rw [Nat.zero_add] at hh hN
      have b1 := in_sds hJ (mem_sds.mpr ⟨i, r, hr, .inl rfl⟩)
      have b2 := in_sds hJ (mem_sds.mpr ⟨i, r, hr, .inr rfl⟩)
      have ix : ∀ (A : List D) (x : Int), 0 ≤ x → x < A.length → ixN A.length x = some x.toNat := fun A x x0 x1 => by
        unfold ixN
        rw [if_pos x0, if_pos x1]
      have e : (n : Int) + (0 + (i : Nat)) = ((n + i : Nat) : Int) := by omega
      repeat walk_at "ps"
      unfold forP
      repeat walk_at "ps"
      refine sPut_i rfl ?_
      repeat walk_at "ps"
      refine ⟨_, ix _ _ b1.1 (by rw [List.length_map]; omega), ?_⟩
      repeat walk_at "ps"
      unfold forP
      repeat walk_at "ps"
      refine sPut_i rfl ?_
      repeat walk_at "ps"
      refine ⟨_, ix _ _ b2.1 (by rw [List.length_set, List.length_map]; omega), ?_⟩
      repeat walk_at "ps"
      unfold forP
      rw [e]
      refine hN _ ⟨(O.set r.1.toNat ((n + i : Nat) : Int)).set r.2.toNat ((n + i : Nat) : Int), SV.val (.int (0 + (i : Nat))), SV.val (jD r), SV.val (.int r.2), ?_, by simp [hO], fun j r' hj hr' => ?_⟩
      · rw [List.map_set, List.map_set]
        rfl
      · by_cases q : j = i
        · subst q
          rw [hr] at hr'
          cases hr'
          constructor
          · by_cases w : r.2.toNat = r.1.toNat
            · rw [w, List.getElem?_set_self (by simp; omega)]
            · rw [List.getElem?_set_ne w, List.getElem?_set_self (by omega)]
          · rw [List.getElem?_set_self (by simp; omega)]
        · obtain ⟨q1, q2⟩ := hh j r' (by omega) hr'
          have lt : ∀ {x : Int}, (x = r'.1 ∨ x = r'.2) → ∀ {y : Int}, (y = r.1 ∨ y = r.2) → y.toNat ≠ x.toNat := fun {x} hx {y} hy w => by
            have hx0 := in_sds hJ (mem_sds.mpr ⟨j, r', hr', hx⟩)
            have hy0 := in_sds hJ (mem_sds.mpr ⟨i, r, hr, hy⟩)
            have exy : x = y := by omega
            have u1 := up_next J n j r' x hJ.nd hJ.v hr' hx
            have u2 := up_next J n i r y hJ.nd hJ.v hr hy
            rw [exy, u2] at u1
            have u3 : up n J ((n + i : Nat) : Int) = up n J ((n + j : Nat) : Int) := (List.cons.inj u1).2
            have hj' : j < J.length := (List.getElem?_eq_some_iff.mp hr').1
            have hi' : i < J.length := (List.getElem?_eq_some_iff.mp hr).1
            have p1 : ((n + i : Nat) : Int) ∈ up n J ((n + j : Nat) : Int) := by
              rw [← u3]
              exact up_self J n _
            have p2 : ((n + j : Nat) : Int) ∈ up n J ((n + i : Nat) : Int) := by
              rw [u3]
              exact up_self J n _
            have m1 := up_min J n _ hJ.v (by omega) _ p1
            have m2 := up_min J n _ hJ.v (by omega) _ p2
            omega
          rw [List.getElem?_set_ne (lt (.inl rfl) (.inr rfl)), List.getElem?_set_ne (lt (.inl rfl) (.inl rfl)), List.getElem?_set_ne (lt (.inr rfl) (.inr rfl)), List.getElem?_set_ne (lt (.inr rfl) (.inl rfl))]
          exact ⟨q1, q2⟩
  · rintro env ⟨O, v3, v4, v5, rfl, hO, hh⟩
    have he : (enumD 0 (J.map jD)).length = J.length := by simp [enumD]
    repeat walk_at "ps"
    refine h O ⟨by omega, fun i r hr => hh i r ?_ hr⟩
    have := (List.getElem?_eq_some_iff.mp hr).1
    omega
theorem gE_get {es : List En} {i : Nat} {e : En} (h : es[i]? = some e) : gE es ((i : Nat) : Int) = e := by
  unfold gE
  rw [Int.toNat_natCast, h]
  rfl
theorem up_end : ∀ (J : Jn) (m : Nat) (x : Int), x ∉ sds J → up m J x = [x]
  | [], _, _, _ => rfl
  | r :: J, m, x, h => by
    have hx : x ≠ r.1 ∧ x ≠ r.2 ∧ x ∉ sds J := by
      have : x ∉ r.1 :: r.2 :: sds J := h
      simp only [List.mem_cons, not_or] at this
      exact this
    unfold up
    rw [if_neg (by rintro (q | q); exact hx.1 q; exact hx.2.1 q)]
    exact up_end J (m + 1) x hx.2.2
theorem up_ne : ∀ (J : Jn) (m : Nat) (x : Int), up m J x ≠ []
  | [], _, _ => by simp [up]
  | r :: J, m, x => by
    rw [up_cons]
    split
    · simp
    · exact up_ne J (m + 1) x
theorem whileN_i {c : PTs'} {body : PSt} {k : PK'} {n : Nat} {env : List SV} (h : c env fun b => if b = true then body env { nx := whileN c body k n, rt := k.rt, bk := k.nx, ct := whileN c body k n } else k.nx env) : whileN c body k (n + 1) env := h
theorem dIx_s {L : D} {ls : List Int} {w : Int} {k : D → Prop} (hL : seqI L ls) (h0 : 0 ≤ w) (h1 : w < ls.length) (h : k (.int (lenAt ls w))) : dIx L (.int w) k := by
  rcases hL with rfl | rfl
  · exact dIx_l (lenAt_at h0 h1) h
  · exact dIx_t (lenAt_at h0 h1) h
theorem sum_loop {es : List En} {J : Jn} {g : Int} {L : D} {ls O : List Int} {v5 v7 : SV} {K : PK'} (hJ : JOk es.length J) (hO : OvOk es.length J O) (hL : seqI L ls) (hl : (ls.length : Int) = es.length + J.length - 1) : ∀ (m : Nat) (y t : Int), (up es.length J y).length = m → 0 ≤ y → y < (es.length + J.length : Nat) →
    (∀ z : Int, K.nx [SV.val (.tup (es.map enD)), SV.val (.tup (J.map jD)), SV.val (.int g), SV.val L, SV.val (.lst (O.map D.int)), v5, SV.val (.int z), v7, SV.val (.int (t + ((up es.length J y).dropLast.map (lenAt ls)).sum))]) →
    whileN (tOf (eOp dLt (eV 6) (eCall gLen (aCons (eV 4) aNil)))) (sSeq (sSet 8 (eOp dAdd (eV 8) (eOp dIx (eV 3) (eV 6)))) (sSet 6 (eOp dIx (eV 4) (eV 6)))) K (m + 1) [SV.val (.tup (es.map enD)), SV.val (.tup (J.map jD)), SV.val (.int g), SV.val L, SV.val (.lst (O.map D.int)), v5, SV.val (.int y), v7, SV.val (.int t)]
  | 0, y, t, hm, _, _, _ => absurd (List.eq_nil_of_length_eq_zero hm) (up_ne J es.length y)
  | m + 1, y, t, hm, y0, y1, hk => by
    have hol := hO.len
    refine whileN_i ?_
    repeat walk_at "ps"
    rw [List.length_map]
    refine ite_d (fun q => ?_) (fun q => ?_)
    · obtain ⟨_, i, r, hr, hy, hi, ho⟩ := hO.at hJ y0 q
      have hu := up_next J es.length i r y hJ.nd hJ.v hr hy
      rw [hu] at hm
      repeat walk_at "ps"
      refine dIx_s hL y0 (by omega) ?_
      repeat walk_at "ps"
      refine dIx_l (at_nat (d := .int ((es.length + i : Nat) : Int)) y0 (by rw [List.getElem?_map, ho]; rfl)) ?_
      refine sum_loop (K := K) hJ hO hL hl m ((es.length + i : Nat) : Int) (t + lenAt ls y) (by simpa using hm) (by omega) (by omega) fun z => ?_
      have := hk z
      rw [hu, List.dropLast_cons_of_ne_nil (up_ne _ _ _), List.map_cons, List.sum_cons, ← Int.add_assoc] at this
      exact this
    · have q' : y ∉ sds J := fun w => by
        have := in_sds hJ w
        omega
      have := hk y
      rw [up_end J es.length y q'] at this
      simpa using this
theorem sums_i {es : List En} {J : Jn} {g : Int} {L : D} {ls : List Int} {k : D → Prop} (h2 : es.length ≤ 24) (hJ : JOk es.length J) (hg : 0 ≤ g ∧ g ≤ 1000) (hL : seqI L ls) (hl : (ls.length : Int) = es.length + J.length - 1) (h : k (.lst ((rchs es J g ls).map D.int))) : wp__law_sums [.tup (es.map enD), .tup (J.map jD), .int g, L] k := by
  have hjl := hJ.len
  unfold wp__law_sums wpOf
  walk_at "psenv"
  unfold P__law_sums
  repeat walk_at "ps"
  rw [List.length_map]
  refine over_i h2 hJ fun O hO => ?_
  repeat walk_at "ps"
  refine forP_i (fun i env => ∃ (v6 v7 v8 : SV), env = [SV.val (.tup (es.map enD)), SV.val (.tup (J.map jD)), SV.val (.int g), SV.val L, SV.val (.lst (O.map D.int)), SV.own (.lst (((rgI i).map (rch es J g ls)).map D.int)), v6, v7, v8]) _ 0 ⟨_, _, _, rfl⟩ ?_ ?_
  · rintro i d env hd ⟨v6, v7, v8, rfl⟩ N hN
    obtain ⟨y, hy, rfl⟩ := enumD_get hd
    rw [List.getElem?_map] at hy
    cases hr : es[i]? with
    | none => rw [hr] at hy; cases hy
    | some e =>
      rw [hr] at hy
      cases hy
      have hi : i < es.length := (List.getElem?_eq_some_iff.mp hr).1
      rw [Nat.zero_add, Int.zero_add]
      rw [Nat.zero_add] at hN
      repeat walk_at "ps"
      refine sSeq_i ?_
      refine ⟨(up es.length J ((i : Nat) : Int)).length + 1, ?_⟩
      refine sum_loop hJ hO hL hl _ ((i : Nat) : Int) _ rfl (by omega) (by omega) fun z => ?_
      repeat walk_at "ps"
      refine ⟨by simp [rgI_len]; omega, ?_⟩
      refine hN _ ⟨SV.val (.int z), SV.val (enD e), SV.val (.int (e.s * g + ((up es.length J ((i : Nat) : Int)).dropLast.map (lenAt ls)).sum)), ?_⟩
      rw [rgI_succ, List.map_append, List.map_append]
      have : e.s * g + ((up es.length J ((i : Nat) : Int)).dropLast.map (lenAt ls)).sum = rch es J g ls ((i : Nat) : Int) := by
        unfold rch
        rw [gE_get hr, Int.mul_comm]
      rw [List.map_singleton, List.map_singleton, ← this]
      rfl
  · rintro env ⟨v6, v7, v8, rfl⟩
    have he : (enumD 0 (es.map enD)).length = es.length := by simp [enumD]
    rw [he, Nat.zero_add]
    repeat walk_at "ps"
    exact h
theorem lsF_len (L : List (List En)) (O : List Int) : (lsF L O).length = O.length := by simp [lsF, rgI_len]
theorem plnJ (S : Jn) {n : Nat} : plnA (n + 2) (S.map jD) = true := by
  rw [plnA_iff]
  intro x hx
  obtain ⟨r, _, rfl⟩ := List.mem_map.mp hx
  simp [pln, plnA]
theorem spotU_i {e : En} {k : D → Prop} (h : k (jD (U e, Vv e))) : wp__law_spot [.int 2, enD e] k := by
  unfold wp__law_spot wpOf
  walk_at "psenv"
  unfold P__law_spot
  repeat walk_at "ps"
  exact h
theorem off_v {a b : Int × Int} {k : D → Prop} (h : k (.int (max (max (a.1 - b.1) (-(a.1 - b.1))) (max (a.2 - b.2) (-(a.2 - b.2)))))) : wp__law_off [jD a, jD b] k := by
  unfold wp__law_off wpOf
  walk_at "psenv"
  unfold P__law_off
  repeat walk_at "ps"
  exact h
theorem pair_i {a : Int × Int} {k : D → Prop} (h : k (.bl true)) : wp__law_pair [jD a] k := by
  unfold wp__law_pair wpOf
  walk_at "psenv"
  unfold P__law_pair
  repeat walk_at "ps"
  rw [show decide ((([D.int a.1, D.int a.2] : List D).length : Int) = 2) = true from rfl]
  repeat walk_at "ps"
  refine whole_i ?_
  repeat walk_at "ps"
  refine whole_i ?_
  repeat walk_at "ps"
  exact h
theorem at_ext {α : Type} {J : Jn} {L : List (List α)} {i : Int} (h : i < L.length) (h0 : 0 < L.length) : at? (ext L J) i = at? L i := by
  unfold at?
  rw [ext_old _ _ _ (by omega)]
theorem lx_end {es : List En} {J : Jn} {x : Int} (x0 : 0 ≤ x) (x1 : x < es.length) : at? (Lx es J) x = [gE es x] := by
  have hl : x.toNat < es.length := by omega
  unfold Lx
  rw [at_ext (by rw [List.length_map]; exact x1) (by rw [List.length_map]; omega)]
  unfold at? gE
  rw [List.getElem?_map, List.getElem?_eq_getElem hl]
  rfl
theorem hF_one (e : En) : hF [e] = 2 * e.s := by
  obtain ⟨p, hp, q, hq, w⟩ := hF_mem (l := [e]) (by simp)
  rw [List.mem_singleton.mp hp, List.mem_singleton.mp hq] at w
  rw [w]
  unfold want
  omega
theorem SpOk.fix {T : Int × Int} {es : List En} {J : Jn} {O : List Int} {S : Jn} (h : SpOk T (Lx es J) O S) (hT : InB (at? (Lx es J) ((es.length : Int) + J.length - 1)) T) (hO : OvOk es.length J O) (hJ : JOk es.length J) {x : Int} (x0 : 0 ≤ x) (x1 : x < es.length) : jAt S x = (U (gE es x), Vv (gE es x)) := by
  have hi := h.inb hT hO hJ x0 (by omega)
  rw [lx_end x0 x1] at hi
  have one : ∀ f : En → Int, maxI ([gE es x].map f) = f (gE es x) ∧ minI ([gE es x].map f) = f (gE es x) := fun f => ⟨rfl, rfl⟩
  have a := hi.a
  have b := hi.b
  have c := hi.c
  have d := hi.d
  unfold loU at a
  unfold hiU at b
  unfold loV at c
  unfold hiV at d
  rw [hF_one, (one _).1] at a c
  rw [hF_one, (one _).2] at b d
  refine Prod.ext ?_ ?_
  · show (jAt S x).1 = U (gE es x)
    omega
  · show (jAt S x).2 = Vv (gE es x)
    omega
theorem cut_take {xs : List D} {n : Nat} (h : n ≤ xs.length) : Pu.cutD xs none (some (n : Int)) = xs.take n := by
  unfold Pu.cutD
  have h1 : HT.sIx xs.length xs.length (some (n : Int)) = n := by
    rw [HT.sIx_nat]
    omega
  rw [h1, HT.sIx_none, List.drop_zero, Nat.sub_zero]
theorem dIs_no {a : Int} {k : D → Prop} (h : k (.bl false)) : dIs false (.int a) .non k := h
theorem rchs_len (es : List En) (J : Jn) (g : Int) (ls : List Int) : (rchs es J g ls).length = es.length := by simp [rchs, rgI_len]
theorem tel {es : List En} {J : Jn} {O : List Int} (hO : OvOk es.length J O) (hJ : JOk es.length J) : ∀ (k : Nat) (x : Int), (up es.length J x).length = k → 0 ≤ x → x < (es.length + J.length : Nat) →
    ((up es.length J x).dropLast.map (lenAt (lsF (Lx es J) O))).sum = Hh (Lx es J) ((es.length : Int) + J.length - 1) - Hh (Lx es J) x
  | 0, x, hm, _, _ => absurd (List.eq_nil_of_length_eq_zero hm) (up_ne J es.length x)
  | k + 1, x, hm, x0, x1 => by
    have hol := hO.len
    by_cases q : x ∈ sds J
    · obtain ⟨i, r, hr, hy⟩ := mem_sds.mp q
      have hi : i < J.length := (List.getElem?_eq_some_iff.mp hr).1
      have hb := in_sds hJ q
      have hu := up_next J es.length i r x hJ.nd hJ.v hr hy
      rw [hu] at hm
      have ih := tel hO hJ k ((es.length + i : Nat) : Int) (by simpa using hm) (by omega) (by omega)
      have ho : lenAt O x = ((es.length + i : Nat) : Int) := by
        unfold lenAt
        rcases hy with w | w
        · rw [w, (hO.hit i r hr).1]; rfl
        · rw [w, (hO.hit i r hr).2]; rfl
      rw [hu, List.dropLast_cons_of_ne_nil (up_ne _ _ _), List.map_cons, List.sum_cons, ih, lenAt_ls x0 (by omega), ho]
      omega
    · rw [up_end J es.length x q, root_only hJ x0 x1 q]
      simp
theorem rch_even {es : List En} {J : Jn} {O : List Int} (hO : OvOk es.length J O) (hJ : JOk es.length J) {x : Int} (x0 : 0 ≤ x) (x1 : x < es.length) : rch es J 2 (lsF (Lx es J) O) x = Hh (Lx es J) ((es.length : Int) + J.length - 1) := by
  unfold rch
  rw [tel hO hJ _ x rfl x0 (by omega)]
  have : Hh (Lx es J) x = 2 * (gE es x).s := by
    unfold Hh
    rw [lx_end x0 x1, hF_one]
  rw [this]
  omega
theorem rch_all {es : List En} {J : Jn} {O : List Int} (h1 : 1 ≤ es.length) (hO : OvOk es.length J O) (hJ : JOk es.length J) : rchs es J 2 (lsF (Lx es J) O) ≠ [] ∧ maxI (rchs es J 2 (lsF (Lx es J) O)) - minI (rchs es J 2 (lsF (Lx es J) O)) ≤ 0 := by
  have hne : rchs es J 2 (lsF (Lx es J) O) ≠ [] := fun q => by
    have := rchs_len es J 2 (lsF (Lx es J) O)
    rw [q] at this
    simp at this
    omega
  refine ⟨hne, ?_⟩
  have al : ∀ y ∈ rchs es J 2 (lsF (Lx es J) O), y = Hh (Lx es J) ((es.length : Int) + J.length - 1) := fun y hy => by
    unfold rchs at hy
    obtain ⟨x, hx, rfl⟩ := List.mem_map.mp hy
    have hb := rgI_mem.mp hx
    exact rch_even hO hJ hb.1 hb.2
  rw [al _ (maxI_mem hne), al _ (minI_mem hne)]
  omega
set_option maxHeartbeats 2000000 in
theorem is_tree_i {es : List En} {J : Jn} {O : List Int} {S : Jn} {k : D → Prop} (h1 : 1 ≤ es.length) (n1 : es.length ≤ 24) (hJ : JOk es.length J) (hO : OvOk es.length J O) {T : Int × Int} (hT : InB (at? (Lx es J) ((es.length : Int) + J.length - 1)) T) (hS : SpOk T (Lx es J) O S) (h : k (.bl true)) : wp__law_is_tree [.tup (es.map enD), .tup (J.map jD), .int 0, treeD (Lx es J) O S] k := by
  have hjl := hJ.len
  have hol := hO.len
  have hll := lx_len es J
  have hsl := hS.len
  have hlsl := lsF_len (Lx es J) O
  unfold wp__law_is_tree wpOf
  walk_at "psenv"
  unfold P__law_is_tree treeD
  repeat walk_at "ps"
  refine ite_n (fun q => (q rfl).elim) (fun _ => ?_)
  repeat walk_at "ps"
  refine whole_i ?_
  repeat walk_at "ps"
  refine ite_d (fun q => absurd q (by decide)) (fun _ => ?_)
  repeat walk_at "ps"
  rw [List.length_map, List.length_map, List.length_map]
  refine ite_n (fun q => absurd (show (S.length : Int) = (es.length : Int) + J.length by omega) q) (fun _ => ?_)
  repeat walk_at "ps"
  refine ⟨by simp [noOwn], ?_⟩
  refine lcP_flt jD (fun _ => false) jD S (by omega) ?_ ?_
  · intro r hr A B' hA hB'
    repeat walk_at "ps"
    refine pair_i ?_
    repeat walk_at "ps"
    exact hB' rfl
  rw [show S.filter (fun _ => false) = [] from List.filter_eq_nil_iff.mpr fun _ _ q => Bool.noConfusion q]
  repeat walk_at "ps"
  refine dNe_nil rfl ?_
  repeat walk_at "ps"
  refine ite_n (fun q => (q rfl).elim) (fun _ => ?_)
  repeat walk_at "ps"
  rw [List.length_map]
  refine ite_n (fun q => absurd (show ((lsF (Lx es J) O).length : Int) = (es.length : Int) + J.length - 1 by omega) q) (fun _ => ?_)
  repeat walk_at "ps"
  refine ⟨by simp [noOwn], ?_⟩
  refine lcP_flt D.int (fun _ => false) D.int (lsF (Lx es J) O) (by omega) ?_ ?_
  · intro r hr A B' hA hB'
    have r0 : 0 ≤ r := by
      unfold lsF at hr
      obtain ⟨x, hx, rfl⟩ := List.mem_map.mp hr
      have hb := rgI_mem.mp hx
      have := (side hO hJ hb.1 hb.2).1
      omega
    repeat walk_at "ps"
    refine whole_i ?_
    repeat walk_at "ps"
    refine ite_d (fun q => absurd q (by omega)) (fun _ => ?_)
    exact hB' rfl
  rw [show (lsF (Lx es J) O).filter (fun _ => false) = [] from List.filter_eq_nil_iff.mpr fun _ _ q => Bool.noConfusion q]
  repeat walk_at "ps"
  refine dNe_nil rfl ?_
  repeat walk_at "ps"
  refine ite_n (fun q => (q rfl).elim) (fun _ => ?_)
  repeat walk_at "ps"
  rw [List.length_map, cut_take (by rw [List.length_map]; omega)]
  repeat walk_at "ps"
  refine ⟨by simp [noOwn], ?_⟩
  refine lcP_m enD (fun e => jD (U e, Vv e)) es (by omega) ?_ ?_
  · intro e he A B hA
    repeat walk_at "ps"
    exact spotU_i hA
  have eS : (S.map jD).take es.length = es.map fun e => jD (U e, Vv e) := by
    apply List.ext_getElem?
    intro i
    by_cases hi : i < es.length
    · rw [List.getElem?_take_of_lt hi, List.getElem?_map, List.getElem?_map, List.getElem?_eq_getElem hi, List.getElem?_eq_getElem (show i < S.length by omega)]
      have := hS.fix hT hO hJ (x := (i : Int)) (by omega) (by omega)
      unfold jAt at this
      rw [Int.toNat_natCast, List.getElem?_eq_getElem (show i < S.length by omega), gE_get (List.getElem?_eq_getElem hi)] at this
      exact congrArg (fun t => some (jD t)) this
    · rw [List.getElem?_eq_none (by rw [List.length_take, List.length_map]; omega), List.getElem?_eq_none (by rw [List.length_map]; omega)]
  rw [eS]
  repeat walk_at "ps"
  have pl : pln 60 (.lst (es.map fun e => jD (U e, Vv e))) = true := by
    have := plnJ (es.map fun e => (U e, Vv e)) (n := 57)
    rw [List.map_map] at this
    exact this
  refine dNe_i pl pl fun c hc => ?_
  rw [hc.mpr rfl]
  repeat walk_at "ps"
  rw [List.length_map]
  refine over_i n1 hJ fun O' hO' => ?_
  cases hO'.uniq hO hJ
  repeat walk_at "ps"
  refine ⟨by simp [noOwn], ?_⟩
  rw [enum_rg]
  refine lcP_flt (fun x => D.tup [.int x, .int (lenAt O x)]) (fun _ => false) D.int (rgI O.length) (by rw [rgI_len]; omega) ?_ ?_
  · intro x hx A B' hA hB'
    have hb := rgI_mem.mp hx
    obtain ⟨i, r, _, _, eo, hlt, hi⟩ := hO.nx hJ hb.1 hb.2
    repeat walk_at "ps"
    refine dIx_t (lenAt_at hb.1 (by omega)) ?_
    repeat walk_at "ps"
    refine dIx_t (jAt_at hb.1 (by omega)) ?_
    repeat walk_at "ps"
    refine dIx_t (jAt_at (by omega) (by omega)) ?_
    repeat walk_at "ps"
    refine off_v ?_
    repeat walk_at "ps"
    refine ite_d (fun q => absurd q (hS.off hT hO hJ hb.1 hb.2)) (fun _ => ?_)
    exact hB' rfl
  rw [show (rgI O.length).filter (fun _ => false) = [] from List.filter_eq_nil_iff.mpr fun _ _ q => Bool.noConfusion q]
  repeat walk_at "ps"
  refine dNe_nil rfl ?_
  repeat walk_at "ps"
  refine ite_n (fun q => (q rfl).elim) (fun _ => ?_)
  repeat walk_at "ps"
  refine sums_i n1 hJ (by decide) (.inr rfl) (by omega) ?_
  obtain ⟨g1, g2⟩ := rch_all h1 hO hJ
  repeat walk_at "ps"
  refine dIs_no ?_
  repeat walk_at "ps"
  refine gMaxL_i (intsD_map _) g1 ?_
  repeat walk_at "ps"
  refine gMinL_i (intsD_map _) g1 ?_
  repeat walk_at "ps"
  rw [show decide (maxI (rchs es J 2 (lsF (Lx es J) O)) - minI (rchs es J 2 (lsF (Lx es J) O)) ≤ 0 * 2) = true from decide_eq_true (by omega)]
  exact h
def idx (n : Nat) : List (List Int) := (List.range n).map fun i : Nat => [((i : Nat) : Int)]
/-- what lies beneath each knot, as the law has it: numbers, rising -/
structure BOk (es : List En) (J : Jn) (B : List (List Int)) : Prop where
  len : B.length = es.length + J.length
  few : ∀ i : Int, 0 ≤ i → (at? B i).length ≤ 24
  bnd : ∀ b ∈ B, ∀ x ∈ b, 0 ≤ x ∧ x < es.length
  prm : ∀ i : Int, 0 ≤ i → ((at? B i).map (gE es)).Perm (at? (ext (es.map fun e => [e]) J) i)
  ne : ∀ b ∈ B, b ≠ []
  sor : ∀ b ∈ B, b.Pairwise (· ≤ ·)
  idp : ∀ i : Int, 0 ≤ i → (at? B i).Perm (at? (ext (idx es.length) J) i)
theorem at_idx {m : Nat} {w : Int} (h0 : 0 ≤ w) (h1 : w < m) : at? (idx m) w = [w] := by
  unfold at? idx
  rw [List.getElem?_map, List.getElem?_range (by omega)]
  show [((w.toNat : Nat) : Int)] = [w]
  congr 1
  omega
def gI (m : Nat) (r : Int × Int) (t : Int) : List Int := if t = m then [r.1, r.2] else [t]
theorem ext_fm {α β : Type} (g : α → List β) : ∀ (J : Jn) (L : List (List α)), ext (L.map fun l => l.flatMap g) J = (ext L J).map fun l => l.flatMap g
  | [], L => rfl
  | r :: J, L => by
    have am : ∀ i, at? (L.map fun l => l.flatMap g) i = (at? L i).flatMap g := fun i => by
      unfold at?
      rw [List.getElem?_map]
      cases L[i.toNat]? <;> rfl
    show ext ((L.map fun l => l.flatMap g) ++ [at? (L.map fun l => l.flatMap g) r.1 ++ at? (L.map fun l => l.flatMap g) r.2]) J = _
    rw [am, am, ← List.flatMap_append, show (L.map fun l => l.flatMap g) ++ [(at? L r.1 ++ at? L r.2).flatMap g] = (L ++ [at? L r.1 ++ at? L r.2]).map fun l => l.flatMap g by simp, ext_fm g J]
    rfl
theorem ext_idx {J : Jn} {m : Nat} {r : Int × Int} (h : JV m (r :: J)) (w : Int) : at? (ext (idx m) (r :: J)) w = (at? (ext (idx (m + 1)) J) w).flatMap (gI m r) := by
  obtain ⟨⟨h1, h2, h3, h4⟩, _⟩ := h
  show at? (ext (idx m ++ [at? (idx m) r.1 ++ at? (idx m) r.2]) J) w = _
  rw [at_idx h1 h2, at_idx h3 h4]
  have e : idx m ++ [[r.1] ++ [r.2]] = (idx (m + 1)).map fun l => l.flatMap (gI m r) := by
    unfold idx
    rw [List.range_succ, List.map_append, List.map_append, List.map_map]
    congr 1
    · apply List.map_congr_left
      intro i hi
      have := List.mem_range.mp hi
      show _ = [((i : Nat) : Int)].flatMap (gI m r)
      unfold gI
      simp
      omega
    · show _ = [[((m : Nat) : Int)].flatMap (gI m r)]
      unfold gI
      simp
  rw [e, ext_fm]
  unfold at?
  rw [List.getElem?_map]
  cases (ext (idx (m + 1)) J)[w.toNat]? <;> rfl
theorem up_mem : ∀ (J : Jn) (m : Nat) (x w : Int), (sds J).Nodup → JV m J → 0 ≤ x → x < m → 0 ≤ w → w < (m + J.length : Nat) → (w ∈ up m J x ↔ x ∈ at? (ext (idx m) J) w)
  | [], m, x, w, _, _, x0, x1, w0, w1 => by
    show w ∈ [x] ↔ x ∈ at? (idx m) w
    rw [at_idx w0 (by simpa using w1), List.mem_singleton, List.mem_singleton]
    exact ⟨fun h => h.symm, fun h => h.symm⟩
  | r :: J, m, x, w, hn, hv, x0, x1, w0, w1 => by
    have hn' : (r.1 :: r.2 :: sds J).Nodup := hn
    obtain ⟨n1, n2⟩ := List.nodup_cons.mp hn'
    obtain ⟨n3, n4⟩ := List.nodup_cons.mp n2
    have n5 : r.1 ∉ sds J := fun q => n1 (List.mem_cons_of_mem _ q)
    obtain ⟨⟨h1, h2, h3, h4⟩, hv'⟩ := id hv
    have w1' : w < ((m + 1) + J.length : Nat) := by simp at w1 ⊢; omega
    have ih := fun (t : Int) (t0 : 0 ≤ t) (t1 : t < (m + 1 : Nat)) => up_mem J (m + 1) t w n4 hv' t0 t1 w0 w1'
    rw [ext_idx hv, List.mem_flatMap]
    have key : (∃ t ∈ at? (ext (idx (m + 1)) J) w, x ∈ gI m r t) ↔ (x ∈ at? (ext (idx (m + 1)) J) w ∨ ((x = r.1 ∨ x = r.2) ∧ ((m : Nat) : Int) ∈ at? (ext (idx (m + 1)) J) w)) := by
      constructor
      · rintro ⟨t, ht, hx⟩
        unfold gI at hx
        split at hx
        · rename_i e
          subst e
          exact .inr ⟨by simpa using hx, ht⟩
        · rw [List.mem_singleton.mp hx]
          exact .inl ht
      · rintro (q | ⟨q1, q2⟩)
        · refine ⟨x, q, ?_⟩
          unfold gI
          rw [if_neg (by omega)]
          exact List.mem_singleton.mpr rfl
        · refine ⟨_, q2, ?_⟩
          unfold gI
          rw [if_pos rfl]
          simpa using q1
    rw [key, ← ih x x0 (by omega), ← ih m (by omega) (by omega), up_cons]
    split
    · rename_i hx
      have hxs : x ∉ sds J := by rcases hx with q | q <;> rw [q] <;> assumption
      rw [up_end J (m + 1) x hxs, List.mem_cons, List.mem_singleton]
      exact ⟨fun q => q.imp_right fun q => ⟨hx, q⟩, fun q => q.imp_right And.right⟩
    · rename_i hx
      exact ⟨.inl, fun q => q.elim id fun q => absurd q.1 hx⟩
theorem at_nodup : ∀ (J : Jn) (m : Nat) (w : Int), (sds J).Nodup → JV m J → 0 ≤ w → w < (m + J.length : Nat) → (at? (ext (idx m) J) w).Nodup
  | [], m, w, _, _, w0, w1 => by
    show (at? (idx m) w).Nodup
    rw [at_idx w0 (by simpa using w1)]
    simp
  | r :: J, m, w, hn, hv, w0, w1 => by
    have hn' : (r.1 :: r.2 :: sds J).Nodup := hn
    obtain ⟨n1, n2⟩ := List.nodup_cons.mp hn'
    obtain ⟨n3, n4⟩ := List.nodup_cons.mp n2
    have n5 : r.1 ∉ sds J := fun q => n1 (List.mem_cons_of_mem _ q)
    have n6 : r.1 ≠ r.2 := fun q => n1 (by rw [q]; exact List.mem_cons_self)
    obtain ⟨⟨h1, h2, h3, h4⟩, hv'⟩ := id hv
    have w1' : w < ((m + 1) + J.length : Nat) := by simp at w1 ⊢; omega
    have ih := at_nodup J (m + 1) w n4 hv' w0 w1'
    have um := fun (t : Int) (t0 : 0 ≤ t) (t1 : t < (m + 1 : Nat)) => up_mem J (m + 1) t w n4 hv' t0 t1 w0 w1'
    rw [ext_idx hv]
    unfold List.Nodup
    rw [List.pairwise_flatMap]
    have no : ∀ t, ((m : Nat) : Int) ∈ at? (ext (idx (m + 1)) J) w → (t = r.1 ∨ t = r.2) → t ∉ at? (ext (idx (m + 1)) J) w := fun t hm ht hq => by
      have t0 : 0 ≤ t ∧ t < m ∧ t ∉ sds J := by rcases ht with q | q <;> rw [q] <;> exact ⟨by omega, by omega, by assumption⟩
      have q1 := (um t t0.1 (by omega)).mpr hq
      rw [up_end J (m + 1) t t0.2.2, List.mem_singleton] at q1
      have q2 := (um m (by omega) (by omega)).mpr hm
      rcases up_ge J (m + 1) m w q2 with q | q <;> omega
    refine ⟨fun t _ => ?_, ?_⟩
    · unfold gI
      split
      · simp [n6]
      · simp
    · refine List.Pairwise.imp_of_mem (fun {a b} ha hb hab => ?_) ih
      intro x hx y hy e
      subst e
      unfold gI at hx hy
      split at hx
      · rename_i ea
        subst ea
        rw [if_neg (Ne.symm hab)] at hy
        rw [List.mem_singleton] at hy
        subst hy
        exact no x ha (by simpa using hx) hb
      · rw [List.mem_singleton] at hx
        subst hx
        split at hy
        · rename_i eb
          subst eb
          exact no x hb (by simpa using hy) ha
        · rw [List.mem_singleton] at hy
          exact hab hy
theorem sorted_eq : ∀ {a b : List Int}, a.Pairwise (· < ·) → b.Pairwise (· < ·) → (∀ x, x ∈ a ↔ x ∈ b) → a = b
  | [], [], _, _, _ => rfl
  | [], y :: b, _, _, h => absurd ((h y).mpr List.mem_cons_self) List.not_mem_nil
  | x :: a, [], _, _, h => absurd ((h x).mp List.mem_cons_self) List.not_mem_nil
  | x :: a, y :: b, ha, hb, h => by
    obtain ⟨a1, a2⟩ := List.pairwise_cons.mp ha
    obtain ⟨b1, b2⟩ := List.pairwise_cons.mp hb
    have e : x = y := by
      rcases List.mem_cons.mp ((h x).mp List.mem_cons_self) with q | q
      · exact q
      · rcases List.mem_cons.mp ((h y).mpr List.mem_cons_self) with w | w
        · exact w.symm
        · have := a1 y w
          have := b1 x q
          omega
    subst e
    congr 1
    refine sorted_eq a2 b2 fun z => ⟨fun q => ?_, fun q => ?_⟩
    · rcases List.mem_cons.mp ((h z).mp (List.mem_cons_of_mem _ q)) with w | w
      · have := a1 z q; omega
      · exact w
    · rcases List.mem_cons.mp ((h z).mpr (List.mem_cons_of_mem _ q)) with w | w
      · have := b1 z q; omega
      · exact w
theorem rgI_lt (n : Nat) : (rgI n).Pairwise (· < ·) := by
  induction n with
  | zero => exact List.Pairwise.nil
  | succ n ih =>
    rw [rgI_succ, List.pairwise_append]
    refine ⟨ih, by simp, fun a ha b hb => ?_⟩
    have := rgI_mem.mp ha
    rw [List.mem_singleton.mp hb]
    omega
theorem lt_of_nd {b : List Int} (h1 : b.Pairwise (· ≤ ·)) (h2 : b.Nodup) : b.Pairwise (· < ·) :=
  (h1.and h2).imp fun ⟨p, q⟩ => by omega
theorem BOk.rising {es : List En} {J : Jn} {B : List (List Int)} (h : BOk es J B) (hJ : JOk es.length J) {w : Int} (w0 : 0 ≤ w) (w1 : w < B.length) : (at? B w).Pairwise (· < ·) ∧ (rgI es.length).filter (fun e => decide (w ∈ up es.length J e)) = at? B w := by
  have hl := h.len
  have nd : (at? B w).Nodup := (h.idp w w0).symm.nodup (at_nodup J es.length w hJ.nd hJ.v w0 (by omega))
  have lt := lt_of_nd (h.sor _ (at_mem w0 w1).1) nd
  refine ⟨lt, sorted_eq ((rgI_lt _).filter _) lt fun x => ?_⟩
  rw [List.mem_filter, rgI_mem, decide_eq_true_eq]
  constructor
  · rintro ⟨⟨x0, x1⟩, q⟩
    exact (h.idp w w0).mem_iff.mpr ((up_mem J _ x w hJ.nd hJ.v x0 x1 w0 (by omega)).mp q)
  · intro q
    have hb := h.bnd _ (at_mem w0 w1).1 x q
    exact ⟨hb, (up_mem J _ x w hJ.nd hJ.v hb.1 hb.2 w0 (by omega)).mpr ((h.idp w w0).mem_iff.mp q)⟩
/-- a paper of pairs -/
structure Pp (es : List En) (J : Jn) (B : List (List Int)) (R : Jn) : Prop where
  len : R.length = J.length
  at' : ∀ (i : Nat) (r : Int × Int), R[i]? = some r → r.1 ∈ at? B ((es.length + i : Nat) : Int) ∧ r.2 ∈ at? B ((es.length + i : Nat) : Int) ∧ r.1 ≤ r.2
def wnt (es : List En) (r : Int × Int) : Int := want (gE es r.1) (gE es r.2)
theorem BOk.memb {es : List En} {J : Jn} {B : List (List Int)} (hB : BOk es J B) {i : Nat} (hi : i < J.length) : at? B ((es.length + i : Nat) : Int) ∈ B := (at_mem (by omega) (by have := hB.len; omega)).1
theorem rangeD0 (n : Nat) : rangeD 0 ((n : Int)).toNat = (List.range n).map fun i : Nat => D.int ((i : Nat) : Int) := by
  unfold rangeD
  rw [Int.toNat_natCast]
  apply List.map_congr_left
  intro i _
  rw [Int.zero_add]
theorem dIn_t {x : Int} {ns : List Int} {k : D → Prop} (h : k (.bl (decide (x ∈ ns)))) : dIn false (.int x) (.tup (ns.map D.int)) k := ⟨x, _, ns, rfl, rfl, intsD_map _, h⟩
theorem up_len : ∀ (J : Jn) (m : Nat) (x : Int), (up m J x).length ≤ J.length + 1
  | [], _, _ => Nat.le_refl _
  | r :: J, m, x => by
    unfold up
    split
    · have := up_len J (m + 1) m
      simp only [List.length_cons] at this ⊢
      omega
    · have := up_len J (m + 1) x
      simp only [List.length_cons] at this ⊢
      omega
theorem last_app {α : Type} (f : α → D) (xs : List α) (x : α) : atI ((xs ++ [x]).map f) (-1) = some (f x) := by
  unfold atI ixN
  rw [if_neg (by decide), if_pos (by simp; omega)]
  show ((xs ++ [x]).map f)[(-1 + (((xs ++ [x]).map f).length : Int)).toNat]? = _
  rw [List.length_map, List.length_append, List.length_singleton, show (-1 + ((xs.length + 1 : Nat) : Int)).toNat = xs.length by omega, List.getElem?_map]
  simp
theorem chain_i {n : Nat} {J : Jn} {x : Int} {k : D → Prop} (hn : n ≤ 1000) (hJ : J.length ≤ 1000) (h : k (.tup ((up n J x).map D.int))) : wp_chain [.int n, .tup (J.map jD), .int x] k := by
  unfold wp_chain wpOf
  walk_at "psenv"
  unfold P_chain
  repeat walk_at "ps"
  refine enK_i ⟨by omega, by omega⟩ ?_
  refine forP_i (fun i env => ∃ (pre : List Int) (la : Int) (v4 v5 : SV), env = [SV.val (.int n), SV.val (.tup (J.map jD)), SV.val (.int x), SV.own (.lst ((pre ++ [la]).map D.int)), v4, v5] ∧ up n J x = pre ++ up (n + i) (J.drop i) la) _ 0 ⟨[], x, _, _, rfl, rfl⟩ ?_ ?_
  · rintro i d env hd ⟨pre, la, v4, v5, rfl, hu⟩ N hN
    obtain ⟨y, hy, rfl⟩ := enumD_get hd
    rw [List.getElem?_map] at hy
    cases hr : J[i]? with
    | none => rw [hr] at hy; cases hy
    | some r =>
      rw [hr] at hy
      cases hy
      have hi : i < J.length := (List.getElem?_eq_some_iff.mp hr).1
      have hd' : J.drop (0 + i) = r :: J.drop (0 + i + 1) := by
        rw [Nat.zero_add, List.drop_eq_getElem_cons hi]
        congr 1
        exact (List.getElem?_eq_some_iff.mp hr).2
      have hl := up_len J n x
      rw [hu, List.length_append] at hl
      rw [hd', up_cons] at hu
      repeat walk_at "ps"
      refine dIx_l (last_app D.int pre la) ?_
      repeat walk_at "ps"
      refine dIn_t (ns := [r.1, r.2]) ?_
      repeat walk_at "ps"
      refine ite_d (fun q => ?_) (fun q => ?_)
      · rw [if_pos (by simpa using q)] at hu
        repeat walk_at "ps"
        refine ⟨by simp; omega, ?_⟩
        refine hN _ ⟨pre ++ [la], ((n + (0 + i) : Nat) : Int), SV.val (.int ((n : Int) + (i : Nat))), SV.val (jD r), ?_, ?_⟩
        · have e : (n : Int) + (i : Nat) = ((n + (0 + i) : Nat) : Int) := by omega
          rw [← e]
          simp
        · rw [hu, List.append_assoc]
          rfl
      · rw [if_neg (by simpa using q)] at hu
        repeat walk_at "ps"
        exact hN _ ⟨pre, la, _, _, rfl, hu⟩
  · rintro env ⟨pre, la, v4, v5, rfl, hu⟩
    repeat walk_at "ps"
    have hl : (enumD (n : Int) (J.map jD)).length = J.length := by simp [enumD]
    rw [hl, Nat.zero_add, List.drop_length] at hu
    rw [show pre ++ [la] = up n J x from hu.symm]
    exact h
theorem beneathP_i {n : Nat} {J : Jn} {w : Int} {k : D → Prop} (hn : n ≤ 1000) (hJ : J.length ≤ 1000) (h : k (.tup (((rgI n).filter fun e => decide (w ∈ up n J e)).map D.int))) : wp_beneath [.int n, .tup (J.map jD), .int w] k := by
  unfold wp_beneath wpOf
  walk_at "psenv"
  unfold P_beneath
  repeat walk_at "ps"
  refine rgK1_i (by omega) (by omega) ⟨by simp [noOwn], ?_⟩
  have hr : rangeD 0 ((n : Int)).toNat = (rgI n).map D.int := by
    rw [rangeD0]
    unfold rgI
    rw [List.map_map]
    rfl
  rw [hr]
  refine lcP_flt D.int (fun e => decide (w ∈ up n J e)) D.int (rgI n) (by rw [rgI_len]; omega) ?_ ?_
  · intro e he A B hA hB
    repeat walk_at "ps"
    refine chain_i hn hJ ?_
    repeat walk_at "ps"
    refine dIn_t ?_
    repeat walk_at "ps"
    refine ite_d (fun q => ?_) (fun q => ?_)
    · repeat walk_at "ps"
      exact hA (decide_eq_true q)
    · exact hB (decide_eq_false q)
  repeat walk_at "ps"
  exact h
theorem dIn_tt {x : Int} {ns : List Int} {k : D → Prop} (hx : x ∈ ns) (h : k (.bl true)) : dIn false (.int x) (.tup (ns.map D.int)) k := dIn_t (by rw [decide_eq_true hx]; exact h)
theorem is_whole_i {a : Int} {k : D → Prop} (h : k (.bl true)) : wp_is_whole [.int a] k := by
  unfold wp_is_whole wpOf
  walk_at "psenv"
  unfold P_is_whole
  repeat walk_at "ps"
  exact h
theorem all_true {α : Type} (l : List α) : l.all (fun _ => true) = true := by simp
theorem are_wholes_i {ns : List Int} {m : Int} {k : D → Prop} (hm : (ns.length : Int) = m) (h : k (.bl true)) : wp_are_wholes [.tup (ns.map D.int), .int m] k := by
  unfold wp_are_wholes wpOf
  walk_at "psenv"
  unfold P_are_wholes
  repeat walk_at "ps"
  rw [List.length_map]
  refine ite_n (fun q => (q hm).elim) (fun _ => ?_)
  repeat walk_at "ps"
  refine eAsk_i ?_
  repeat walk_at "ps"
  refine ⟨by simp [noOwn], ?_⟩
  refine askP_i D.int (fun _ => true) ns (fun x hx k' hk => ?_) ?_
  · repeat walk_at "ps"
    exact is_whole_i hk
  · rw [if_pos rfl, all_true]
    exact h
theorem is_pair_i {b : List Int} {r : Int × Int} {k : D → Prop} (h1 : r.1 ∈ b) (h2 : r.2 ∈ b) (h3 : r.1 ≤ r.2) (h : k (.bl true)) : wp_is_pair [.tup (b.map D.int), jD r] k := by
  unfold wp_is_pair wpOf
  walk_at "psenv"
  unfold P_is_pair
  repeat walk_at "ps"
  refine are_wholes_i (ns := [r.1, r.2]) rfl ?_
  repeat walk_at "ps"
  refine bCase_d (fun _ => ?_) (fun q => (q h3).elim)
  repeat walk_at "ps"
  refine dIn_tt h1 ?_
  repeat walk_at "ps"
  exact dIn_tt h2 h
theorem is_paper_i {es : List En} {J : Jn} {B : List (List Int)} {R : Jn} {k : D → Prop} (h2 : es.length ≤ 24) (hJ : JOk es.length J) (hB : BOk es J B) (hR : Pp es J B R) (h : k (.bl true)) : wp_is_paper [.int es.length, .tup (J.map jD), .tup (R.map jD)] k := by
  have hjl := hJ.len
  have hrl := hR.len
  have hbl := hB.len
  unfold wp_is_paper wpOf
  walk_at "psenv"
  unfold P_is_paper
  repeat walk_at "ps"
  rw [List.length_map, List.length_map]
  refine ite_n (fun q => (q (by omega)).elim) (fun _ => ?_)
  repeat walk_at "ps"
  refine eAsk_i ?_
  repeat walk_at "ps"
  refine enK_i ⟨by omega, by omega⟩ ⟨by simp [noOwn], ?_⟩
  have e : enumD (es.length : Int) (R.map jD) = (List.range R.length).map fun i : Nat => D.tup [.int ((es.length + i : Nat) : Int), jD ((R[i]?).getD (0, 0))] := by
    apply List.ext_getElem?
    intro i
    by_cases hi : i < R.length
    · simp [enumD, List.getElem?_map, List.getElem?_range hi, List.getElem?_eq_getElem hi, List.getElem?_zipIdx]
    · rw [List.getElem?_eq_none (by simp [enumD]; omega), List.getElem?_eq_none (by simp; omega)]
  rw [e]
  refine askP_i (fun i : Nat => D.tup [.int ((es.length + i : Nat) : Int), jD ((R[i]?).getD (0, 0))]) (fun _ => true) (List.range R.length) (fun i hi k' hk => ?_) ?_
  · have hi' := List.mem_range.mp hi
    have w1 : ((es.length + i : Nat) : Int) < B.length := by omega
    obtain ⟨ri, rf⟩ := hB.rising hJ (w := ((es.length + i : Nat) : Int)) (by omega) w1
    have hRi : R[i]? = some R[i] := List.getElem?_eq_getElem hi'
    obtain ⟨a1, a2, a3⟩ := hR.at' i _ hRi
    rw [hRi]
    repeat walk_at "ps"
    refine beneathP_i (by omega) (by omega) ?_
    rw [rf]
    repeat walk_at "ps"
    exact is_pair_i a1 a2 a3 hk
  · rw [if_pos rfl, all_true]
    exact h
def shW (es : List En) (R : Jn) : Int := if es.length = 1 then 0 else (R.map (wnt es)).sum + (((R.map (wnt es)).getLast?).getD 0) - 2 * (es.map En.s).sum
theorem shown_i {es : List En} {J : Jn} {B : List (List Int)} {R : Jn} {k : D → Prop} (h1 : 1 ≤ es.length) (h2 : es.length ≤ 24) (hJ : JOk es.length J) (hB : BOk es J B) (hR : Pp es J B R) (h : k (.int (shW es R))) : wp_pairs_shown [.tup (es.map enD), .tup (J.map jD), .tup (R.map jD)] k := by
  have hjl := hJ.len
  have hrl := hR.len
  have hbl := hB.len
  unfold wp_pairs_shown wpOf
  walk_at "psenv"
  unfold P_pairs_shown
  repeat walk_at "ps"
  rw [List.length_map]
  refine is_paper_i h2 hJ hB hR ?_
  repeat walk_at "ps"
  rw [List.length_map]
  unfold shW at h
  refine ite_d (fun q => ?_) (fun q => ?_)
  · rw [if_pos (by omega)] at h
    repeat walk_at "ps"
    exact h
  · rw [if_neg (by omega)] at h
    repeat walk_at "ps"
    refine ⟨by simp [noOwn], ?_⟩
    refine lcP_m jD (fun r => .int (wnt es r)) R (by omega) ?_ ?_
    · intro r hr A B' hA
      obtain ⟨i, hi, e⟩ := List.getElem_of_mem hr
      obtain ⟨a1, a2, a3⟩ := hR.at' i r (by rw [List.getElem?_eq_getElem hi, e])
      have hm := hB.memb (show i < J.length by omega)
      have b1 := hB.bnd _ hm _ a1
      have b2 := hB.bnd _ hm _ a2
      have gat : ∀ x : Int, 0 ≤ x → x < es.length → es[x.toNat]? = some (gE es x) := fun x x0 x1 => by
        unfold gE
        rw [List.getElem?_eq_getElem (by omega)]
        rfl
      repeat walk_at "ps"
      exact wanted_i b1.1 b2.1 (gat _ b1.1 b1.2) (gat _ b2.1 b2.2) hA
    repeat walk_at "ps"
    refine gSum_i (intsD_m R (wnt es)) ?_
    repeat walk_at "ps"
    rw [show (R.map fun r => D.int (wnt es r)) = (R.map (wnt es)).map D.int by rw [List.map_map]; rfl]
    cases hl : (R.map (wnt es)).getLast? with
    | none =>
      have := congrArg List.length (List.getLast?_eq_none_iff.mp hl)
      rw [List.length_map, List.length_nil] at this
      omega
    | some w =>
      rw [hl] at h
      refine dIx_l (last_map (f := D.int) hl) ?_
      repeat walk_at "ps"
      refine started_i (by omega) ?_
      repeat walk_at "ps"
      exact h
theorem hF_congr {l l' : List En} (h : ∀ e, e ∈ l ↔ e ∈ l') : hF l = hF l' := by
  unfold hF
  apply maxI_congr
  intro x
  simp only [List.mem_flatMap, List.mem_map, h]
theorem BOk.hs {es : List En} {J : Jn} {B : List (List Int)} (h : BOk es J B) : (B.map fun b => hF (b.map (gE es))) = (ext (es.map fun e => [e]) J).map hF := by
  have hlen : (ext (es.map fun e => [e]) J).length = es.length + J.length := by rw [ext_len, List.length_map]
  have hb := h.len
  apply List.ext_getElem?
  intro i
  rw [List.getElem?_map, List.getElem?_map]
  by_cases hi : i < B.length
  · have q := h.prm (i : Int) (by omega)
    unfold at? at q
    rw [Int.toNat_natCast, List.getElem?_eq_getElem hi, List.getElem?_eq_getElem (by omega)] at q
    rw [List.getElem?_eq_getElem hi, List.getElem?_eq_getElem (by omega)]
    exact congrArg some (hF_congr fun _ => q.mem_iff)
  · rw [List.getElem?_eq_none (by omega), List.getElem?_eq_none (by omega)]
    rfl
theorem lc_rel {α : Type} {pg : PGt} {pt : PTs'} {pe : PX} {env : List SV} {k : List D → Prop} (f : α → D) (R : Nat → α → Prop) (ds : List D) (hl : ds.length ≤ 1000)
    (hs : ∀ (i : Nat) (d : D) (A : D → Prop) (B : Prop), ds[i]? = some d → (∀ x : α, R i x → A (f x)) → pg d env fun env1 => pt env1 fun b => if b = true then pe env1 A else B)
    (hk : ∀ ls : List α, ls.length = ds.length → (∀ (i : Nat) (x : α), ls[i]? = some x → R i x) → k (ls.map f)) : lcP pg pt pe env ds [] k := by
  refine lcP_i (fun i acc => ∃ ls : List α, acc = ls.map f ∧ ls.length = i ∧ ∀ (j : Nat) (x : α), ls[j]? = some x → R j x) ds 0 ⟨[], rfl, rfl, fun j x h => by simp at h⟩ ?_ ?_
  · rintro i d acc hd ⟨ls, rfl, hls, hR⟩
    have hi : i < ds.length := (List.getElem?_eq_some_iff.mp hd).1
    refine ⟨by rw [List.length_map]; omega, fun A B hA _ => hs i d A B hd fun x hx => hA _ ⟨ls ++ [x], by simp, by simp; omega, fun j y hj => ?_⟩⟩
    rw [List.getElem?_append] at hj
    split at hj
    · exact hR j y hj
    · rename_i hlt
      have hj0 : j - ls.length = 0 := by
        have := (List.getElem?_eq_some_iff.mp hj).1
        simp at this
        omega
      rw [hj0] at hj
      have e : x = y := by simpa using hj
      have ej : j = i := by omega
      rw [ej, ← e]
      exact hx
  · rintro acc ⟨ls, rfl, hls, hR⟩
    exact hk ls (by omega) hR
theorem lcP_fa {α : Type} {pg : PGt} {pt : PTs'} {pe : PX} {env : List SV} {k : List D → Prop} (e : α → D) (c : α → Bool) (f : α → D) : ∀ (xs : List α) (acc : List D), acc.length + xs.length ≤ 100000 →
    (∀ x ∈ xs, ∀ (A : D → Prop) (B : Prop), (c x = true → A (f x)) → (c x = false → B) → pg (e x) env fun env1 => pt env1 fun b => if b = true then pe env1 A else B) → k (acc ++ (xs.filter c).map f) → lcP pg pt pe env (xs.map e) acc k := by
  intro xs
  induction xs with
  | nil => intro acc _ _ hk; simp only [List.map_nil, lcP]; simpa using hk
  | cons x xs ih =>
    intro acc hl hs hk
    rw [List.map_cons]
    unfold lcP
    have hl' : acc.length + (xs.length + 1) ≤ 100000 := hl
    refine hs x List.mem_cons_self _ _ (fun hc => ?_) (fun hc => ?_)
    · refine ⟨by omega, ih _ (by simp; omega) (fun y h => hs y (List.mem_cons_of_mem _ h)) ?_⟩
      rw [List.filter_cons, if_pos hc, List.map_cons] at hk
      rw [List.append_assoc]
      exact hk
    · refine ih _ (by omega) (fun y h => hs y (List.mem_cons_of_mem _ h)) ?_
      rw [List.filter_cons, if_neg (by rw [hc]; exact Bool.false_ne_true)] at hk
      exact hk
theorem lcP2_f {α β : Type} {vs1 : List Nat} {pg : PGt} {pt : PTs'} {pi1 : PIt} {pg1 : PGt} {pt1 : PTs'} {pe : PX} {env : List SV} {k : List D → Prop} (e : α → D) (ys : List β) (c : α → β → Bool) (f : α → β → D) (xs : List α) (hl : xs.length * ys.length ≤ 100000)
    (hs : ∀ x ∈ xs, ∀ (acc : List D) (A : List D → Prop) (B : Prop), acc.length + ys.length ≤ 100000 → A (acc ++ (ys.filter (c x)).map (f x)) → pg (e x) env fun env1 => pt env1 fun b => if b = true then pi1 env1 fun ds1 => noOwn env1 vs1 ∧ lcP pg1 pt1 pe (wipeE env1 vs1) ds1 acc A else B)
    (hk : k (xs.flatMap fun x => (ys.filter (c x)).map (f x))) : lcP2 vs1 pg pt pi1 pg1 pt1 pe env (xs.map e) [] k := by
  have go : ∀ (xs : List α) (acc : List D), acc.length + xs.length * ys.length ≤ 100000 → (∀ x ∈ xs, ∀ (acc : List D) (A : List D → Prop) (B : Prop), acc.length + ys.length ≤ 100000 → A (acc ++ (ys.filter (c x)).map (f x)) → pg (e x) env fun env1 => pt env1 fun b => if b = true then pi1 env1 fun ds1 => noOwn env1 vs1 ∧ lcP pg1 pt1 pe (wipeE env1 vs1) ds1 acc A else B) →
      k (acc ++ xs.flatMap fun x => (ys.filter (c x)).map (f x)) → lcP2 vs1 pg pt pi1 pg1 pt1 pe env (xs.map e) acc k := by
    intro xs
    induction xs with
    | nil => intro acc _ _ hk; simp only [List.map_nil, lcP2]; simpa using hk
    | cons x xs ih =>
      intro acc hl hs hk
      rw [List.map_cons]
      unfold lcP2
      have hl' : acc.length + (xs.length * ys.length + ys.length) ≤ 100000 := by rw [List.length_cons, Nat.succ_mul] at hl; exact hl
      have hf := List.length_filter_le (c x) ys
      refine hs x List.mem_cons_self acc _ _ (by omega) (ih _ (by rw [List.length_append, List.length_map]; omega) (fun y h => hs y (List.mem_cons_of_mem _ h)) ?_)
      rw [List.flatMap_cons] at hk
      rw [List.append_assoc]
      exact hk
  exact go xs [] (by simpa using hl) hs (by simpa using hk)
theorem first_pair_w {es : List En} {b : List Int} {k : D → Prop} (hb : ∀ x ∈ b, 0 ≤ x ∧ x < es.length) (hl : b.length ≤ 100) (h0 : b ≠ []) (hk : ∀ r : Int × Int, r.1 ∈ b → r.2 ∈ b → r.1 ≤ r.2 → wnt es r = hF (b.map (gE es)) → k (jD r)) : wp_first_pair [.tup (es.map enD), .tup (b.map D.int), .int (hF (b.map (gE es)))] k := by
  unfold wp_first_pair wpOf
  walk_at "psenv"
  unfold P_first_pair
  repeat walk_at "ps"
  refine ⟨by simp [noOwn], ?_⟩
  have gat : ∀ x ∈ b, es[x.toNat]? = some (gE es x) := fun x hx => by
    have := hb x hx
    unfold gE
    rw [List.getElem?_eq_getElem (by omega)]
    rfl
  refine lcP2_f D.int b (fun x y => decide (want (gE es x) (gE es y) = hF (b.map (gE es)))) (fun x y => .tup [.int x, .int y]) b (Nat.le_trans (Nat.mul_le_mul hl hl) (by decide)) ?_ ?_
  · intro x hx acc A B hacc hA
    repeat walk_at "ps"
    refine ⟨by simp [noOwn, wipeE], ?_⟩
    refine lcP_fa D.int (fun y => decide (want (gE es x) (gE es y) = hF (b.map (gE es)))) (fun y => .tup [.int x, .int y]) b acc hacc ?_ hA
    intro y hy A B hA hB
    repeat walk_at "ps"
    refine wanted_i (hb x hx).1 (hb y hy).1 (gat x hx) (gat y hy) ?_
    repeat walk_at "ps"
    refine ite_d (fun w => ?_) (fun w => ?_)
    · repeat walk_at "ps"
      exact hA (decide_eq_true w)
    · exact hB (decide_eq_false w)
  repeat walk_at "ps"
  have e : (b.flatMap fun x => (b.filter fun y => decide (want (gE es x) (gE es y) = hF (b.map (gE es)))).map fun y => D.tup [.int x, .int y]) = (b.flatMap fun x => (b.filter fun y => decide (want (gE es x) (gE es y) = hF (b.map (gE es)))).map fun y => [x, y]).map tI := by
    rw [List.map_flatMap]
    congr 1
    funext x
    rw [List.map_map]
    rfl
  rw [e]
  have mem : ∀ r : List Int, r ∈ (b.flatMap fun x => (b.filter fun y => decide (want (gE es x) (gE es y) = hF (b.map (gE es)))).map fun y => [x, y]) ↔ ∃ x ∈ b, ∃ y ∈ b, want (gE es x) (gE es y) = hF (b.map (gE es)) ∧ r = [x, y] := fun r => by
    simp only [List.mem_flatMap, List.mem_map, List.mem_filter, decide_eq_true_eq]
    constructor
    · rintro ⟨x, hx, y, ⟨hy, w⟩, rfl⟩
      exact ⟨x, hx, y, hy, w, rfl⟩
    · rintro ⟨x, hx, y, hy, w, rfl⟩
      exact ⟨x, hx, y, ⟨hy, w⟩, rfl⟩
  refine ⟨_, rfl, fun w => ?_, fun m hm hmin => ?_⟩
  · obtain ⟨u, hu, v, hv, e⟩ := hF_mem (l := b.map (gE es)) (by simpa using h0)
    obtain ⟨x, hx, rfl⟩ := List.mem_map.mp hu
    obtain ⟨y, hy, rfl⟩ := List.mem_map.mp hv
    have := (mem [x, y]).mpr ⟨x, hx, y, hy, e.symm, rfl⟩
    rw [w] at this
    exact List.not_mem_nil this
  · obtain ⟨x, hx, y, hy, w, rfl⟩ := (mem m).mp hm
    have h1 := hmin [y, x] ((mem _).mpr ⟨y, hy, x, hx, by rw [want_comm]; exact w, rfl⟩)
    rw [lex2] at h1
    refine hk (x, y) hx hy ?_ w
    show x ≤ y
    split at h1
    · omega
    · have := of_decide_eq_false h1
      omega
theorem BOk.hFat {es : List En} {J : Jn} {B : List (List Int)} (hB : BOk es J B) {x : Int} (x0 : 0 ≤ x) : hF ((at? B x).map (gE es)) = Hh (Lx es J) x := hF_congr fun _ => (hB.prm x x0).mem_iff
theorem pairs_for_w {es : List En} {J : Jn} {B : List (List Int)} {k : D → Prop} (h1 : 1 ≤ es.length) (h2 : es.length ≤ 24) (hJ : JOk es.length J) (hB : BOk es J B)
    (h : ∀ R, Pp es J B R → (∀ (i : Nat) (r : Int × Int), R[i]? = some r → wnt es r = Hh (Lx es J) ((es.length + i : Nat) : Int)) → k (.tup (R.map jD))) : wp_pairs_for [.tup (es.map enD), .tup (J.map jD)] k := by
  have hlen : (ext (es.map fun e => [e]) J).length = es.length + J.length := by rw [ext_len, List.length_map]
  have hjl := hJ.len
  have hbl := hB.len
  unfold wp_pairs_for wpOf
  walk_at "psenv"
  unfold P_pairs_for
  repeat walk_at "ps"
  refine rows_of_i (by omega) (by omega) hJ.v ?_
  have hhs := hB.hs
  generalize eL : ext (es.map fun e => [e]) J = L at hlen hhs ⊢
  repeat walk_at "ps"
  refine ⟨by simp [noOwn], ?_⟩
  refine lcP_m rowD (fun l => D.int (hF l)) L (by omega) ?_ ?_
  · intro l hl A B hA
    unfold rowD
    repeat walk_at "ps"
    exact hA
  repeat walk_at "ps"
  rw [List.length_map, List.length_map]
  refine rgK2_i (by omega) ⟨by simp [noOwn], ?_⟩
  have hr : rangeD (es.length : Int) ((L.length : Int) - es.length).toNat = (List.range J.length).map fun i : Nat => D.int ((es.length + i : Nat) : Int) := by
    unfold rangeD
    rw [show ((L.length : Int) - es.length).toNat = J.length by omega]
    apply List.map_congr_left
    intro i _
    congr 1
  rw [hr]
  refine lc_rel jD (fun i r => r.1 ∈ at? B ((es.length + i : Nat) : Int) ∧ r.2 ∈ at? B ((es.length + i : Nat) : Int) ∧ r.1 ≤ r.2 ∧ wnt es r = Hh (Lx es J) ((es.length + i : Nat) : Int)) _ (by rw [List.length_map, List.length_range]; omega) ?_ ?_
  · intro i d A B' hd hA
    rw [List.getElem?_map] at hd
    have hi' : i < J.length := by
      by_cases q : i < J.length
      · exact q
      · rw [List.getElem?_eq_none (by rw [List.length_range]; omega)] at hd
        cases hd
    rw [List.getElem?_range hi'] at hd
    cases hd
    have w1 : ((es.length + i : Nat) : Int) < B.length := by omega
    obtain ⟨ri, rf⟩ := hB.rising hJ (w := ((es.length + i : Nat) : Int)) (by omega) w1
    have hmem := (at_mem (L := B) (i := ((es.length + i : Nat) : Int)) (by omega) w1)
    repeat walk_at "ps"
    refine beneathP_i (by omega) (by omega) ?_
    rw [rf]
    repeat walk_at "ps"
    refine dIx_l (at_nat (d := .int (hF ((at? B ((es.length + i : Nat) : Int)).map (gE es)))) (by omega) ?_) ?_
    · rw [Int.toNat_natCast]
      have e2 : (L.map hF)[es.length + i]? = some (hF ((at? B ((es.length + i : Nat) : Int)).map (gE es))) := by
        rw [← hhs, List.getElem?_map]
        have := hmem.2
        rw [Int.toNat_natCast] at this
        rw [this]
        rfl
      rw [List.getElem?_map] at e2 ⊢
      cases q : L[es.length + i]? with
      | none => rw [q] at e2; cases e2
      | some l =>
        rw [q] at e2
        have e3 : hF l = _ := Option.some.inj e2
        show some (D.int (hF l)) = _
        rw [e3]
    repeat walk_at "ps"
    refine first_pair_w (hB.bnd _ hmem.1) (Nat.le_trans (hB.few _ (by omega)) (by decide)) (hB.ne _ hmem.1) fun r r1 r2 r3 r4 => hA r ⟨r1, r2, r3, ?_⟩
    rw [r4]
    exact hB.hFat (by omega)
  intro R hR hRR
  rw [List.length_map, List.length_range] at hR
  repeat walk_at "ps"
  exact h R ⟨hR, fun i r hr => ⟨(hRR i r hr).1, (hRR i r hr).2.1, (hRR i r hr).2.2.1⟩⟩ fun i r hr => (hRR i r hr).2.2.2
def jsum (g : Nat → Int) : Nat → Nat → Int
  | _, 0 => 0
  | a, k + 1 => g a + jsum g (a + 1) k
theorem sum_jg {g : Nat → Int} : ∀ (l : List Int) (a : Nat), (∀ (i : Nat) (x : Int), l[i]? = some x → g (a + i) ≤ x) → jsum g a l.length ≤ l.sum
  | [], _, _ => Int.le_refl _
  | y :: l, a, h => by
    have h1 := h 0 y rfl
    have h2 := sum_jg (g := g) l (a + 1) fun i x hx => by
      have := h (i + 1) x hx
      rw [show a + (i + 1) = a + 1 + i by omega] at this
      exact this
    rw [List.sum_cons]
    show g a + jsum g (a + 1) l.length ≤ _
    rw [Nat.add_zero] at h1
    omega
theorem Hh_ends {es : List En} {J : Jn} (x : Int) (x0 : 0 ≤ x) (x1 : x < es.length) : Hh (Lx es J) x = 2 * (gE es x).s := by
  unfold Hh
  rw [lx_end x0 x1, hF_one]
theorem sum_pm {l l' : List Int} (h : l.Perm l') : l.sum = l'.sum := by
  induction h with
  | nil => rfl
  | cons x _ ih => rw [List.sum_cons, List.sum_cons, ih]
  | swap x y l => simp only [List.sum_cons]; omega
  | trans _ _ a b => rw [a, b]
theorem jsum_add (g : Nat → Int) : ∀ (b a c : Nat), jsum g a (b + c) = jsum g a b + jsum g (a + b) c
  | 0, a, c => by rw [Nat.zero_add, Nat.add_zero]; show _ = 0 + _; omega
  | b + 1, a, c => by
    rw [show b + 1 + c = (b + c) + 1 by omega]
    show g a + jsum g (a + 1) (b + c) = g a + jsum g (a + 1) b + _
    rw [jsum_add g b (a + 1) c, show a + 1 + b = a + (b + 1) by omega]
    omega
theorem jsum_congr {g g' : Nat → Int} : ∀ (k a : Nat), (∀ i, a ≤ i → i < a + k → g i = g' i) → jsum g a k = jsum g' a k
  | 0, _, _ => rfl
  | k + 1, a, h => by
    show g a + jsum g (a + 1) k = g' a + jsum g' (a + 1) k
    rw [h a (by omega) (by omega), jsum_congr k (a + 1) fun i h1 h2 => h i (by omega) (by omega)]
theorem sum_drop : ∀ (k a : Nat) (l : List Int), l.length = a + k → (l.drop a).sum = jsum (fun i => (l[i]?).getD 0) a k
  | 0, a, l, h => by rw [List.drop_eq_nil_of_le (by omega)]; rfl
  | k + 1, a, l, h => by
    have ha : a < l.length := by omega
    rw [List.drop_eq_getElem_cons ha, List.sum_cons, sum_drop k (a + 1) l (by omega)]
    show _ = (l[a]?).getD 0 + _
    rw [List.getElem?_eq_getElem ha]
    rfl
theorem sum_rg (H : Int → Int) : ∀ k : Nat, ((rgI k).map H).sum = jsum (fun i => H i) 0 k
  | 0 => rfl
  | k + 1 => by
    rw [rgI_succ, List.map_append, List.sum_append, sum_rg H k, jsum_add]
    show _ = _ + (H ((0 + k : Nat) : Int) + 0)
    rw [Nat.zero_add]
    simp
theorem sds_cons (r : Int × Int) (J : Jn) : sds (r :: J) = r.1 :: r.2 :: sds J := rfl
theorem sds_sum {f H : Int → Int} : ∀ (J : Jn) (a : Nat), (∀ (i : Nat) (r : Int × Int), J[i]? = some r → f r.1 + H r.1 = H ((a + i : Nat) : Int) ∧ f r.2 + H r.2 = H ((a + i : Nat) : Int)) → ((sds J).map f).sum + ((sds J).map H).sum = 2 * jsum (fun i => H i) a J.length
  | [], a, _ => rfl
  | r :: J, a, h => by
    obtain ⟨h1, h2⟩ := h 0 r rfl
    have ih := sds_sum J (a + 1) fun i r' hr => by
      have := h (i + 1) r' hr
      rw [show a + (i + 1) = a + 1 + i by omega] at this
      exact this
    rw [sds_cons]
    simp only [List.map_cons, List.sum_cons]
    show _ = 2 * (H a + jsum (fun i => H i) (a + 1) J.length)
    rw [Nat.add_zero] at h1 h2
    omega
theorem sum_two : ∀ es : List En, (es.map fun e => 2 * e.s).sum = 2 * (es.map En.s).sum
  | [] => rfl
  | e :: es => by rw [List.map_cons, List.map_cons, List.sum_cons, List.sum_cons, sum_two es]; omega
theorem ls_sum {es : List En} {J : Jn} {O : List Int} (h1 : 1 ≤ es.length) (hO : OvOk es.length J O) (hJ : JOk es.length J) : (lsF (Lx es J) O).sum = evW es J := by
  have hol := hO.len
  have hll := lx_len es J
  have hs := sds_sum (f := fun x => Hh (Lx es J) (lenAt O x) - Hh (Lx es J) x) (H := Hh (Lx es J)) J es.length fun i r hr => by
    have ho := hO.hit i r hr
    have q1 : lenAt O r.1 = ((es.length + i : Nat) : Int) := by unfold lenAt; rw [ho.1]; rfl
    have q2 : lenAt O r.2 = ((es.length + i : Nat) : Int) := by unfold lenAt; rw [ho.2]; rfl
    rw [q1, q2]
    exact ⟨by omega, by omega⟩
  have eO : O.length + 1 = es.length + J.length := by omega
  have pm : ∀ f : Int → Int, ((rgI O.length).map f).sum = ((sds J).map f).sum := fun f => by
    have p := sum_pm (hJ.use.map f)
    rw [← eO, rgI_succ, List.map_append, List.map_append, List.sum_append, List.sum_append, show (es.length : Int) + J.length - 1 = (O.length : Int) by omega] at p
    omega
  have e1 := pm (fun x => Hh (Lx es J) (lenAt O x) - Hh (Lx es J) x)
  have e2 := pm (Hh (Lx es J))
  have e3 : (lsF (Lx es J) O).sum = ((rgI O.length).map fun x => Hh (Lx es J) (lenAt O x) - Hh (Lx es J) x).sum := rfl
  have e4 := sum_rg (Hh (Lx es J)) O.length
  have e5 := jsum_add (fun i : Nat => Hh (Lx es J) (i : Int)) O.length 0 1
  have e6 := jsum_add (fun i : Nat => Hh (Lx es J) (i : Int)) es.length 0 J.length
  rw [← eO] at e6
  have e7 : jsum (fun i : Nat => Hh (Lx es J) (i : Int)) (0 + O.length) 1 = Hh (Lx es J) ((es.length : Int) + J.length - 1) := by
    show Hh (Lx es J) ((0 + O.length : Nat) : Int) + 0 = _
    rw [show ((0 + O.length : Nat) : Int) = (es.length : Int) + J.length - 1 by omega]
    omega
  have e8 : jsum (fun i : Nat => Hh (Lx es J) (i : Int)) 0 es.length = 2 * (es.map En.s).sum := by
    rw [← sum_rg]
    have m : (rgI es.length).map (Hh (Lx es J)) = es.map fun e => 2 * e.s := by
      apply List.ext_getElem?
      intro i
      by_cases hi : i < es.length
      · rw [List.getElem?_map, List.getElem?_map, rgI_get hi, List.getElem?_eq_getElem hi]
        show some (Hh (Lx es J) (i : Int)) = some _
        unfold Hh
        rw [lx_end (by omega) (by omega), hF_one, gE_get (List.getElem?_eq_getElem hi)]
      · rw [List.getElem?_eq_none (by rw [List.length_map, rgI_len]; omega), List.getElem?_eq_none (by rw [List.length_map]; omega)]
    rw [m]
    exact sum_two es
  have e9 : (((Lx es J).map hF).drop es.length).sum = jsum (fun i : Nat => Hh (Lx es J) (i : Int)) es.length J.length := by
    rw [sum_drop J.length es.length _ (by rw [List.length_map, hll])]
    refine jsum_congr _ _ fun i h1 h2 => ?_
    rw [List.getElem?_map, List.getElem?_eq_getElem (show i < (Lx es J).length by omega)]
    show hF _ = hF (((Lx es J)[((i : Nat) : Int).toNat]?).getD [])
    rw [Int.toNat_natCast, List.getElem?_eq_getElem (show i < (Lx es J).length by omega)]
    rfl
  unfold evW
  have e10 : hF (at? (ext (es.map fun e => [e]) J) ((es.length : Int) + J.length - 1)) = Hh (Lx es J) ((es.length : Int) + J.length - 1) := rfl
  rw [e10, e9]
  rw [Nat.zero_add] at e6
  omega
theorem gsum {es : List En} {J : Jn} {O : List Int} {H : Int → Int} (hO : OvOk es.length J O) (hJ : JOk es.length J) (he : ∀ x : Int, 0 ≤ x → x < es.length → H x = 2 * (gE es x).s) : ((rgI O.length).map fun x => H (lenAt O x) - H x).sum = jsum (fun i => H i) es.length J.length + H ((es.length : Int) + J.length - 1) - 2 * (es.map En.s).sum := by
  have hol := hO.len
  have hjl := hJ.len
  have hs := sds_sum (f := fun x => H (lenAt O x) - H x) (H := H) J es.length fun i r hr => by
    have ho := hO.hit i r hr
    have q1 : lenAt O r.1 = ((es.length + i : Nat) : Int) := by unfold lenAt; rw [ho.1]; rfl
    have q2 : lenAt O r.2 = ((es.length + i : Nat) : Int) := by unfold lenAt; rw [ho.2]; rfl
    rw [q1, q2]
    exact ⟨by omega, by omega⟩
  have eO : O.length + 1 = es.length + J.length := by omega
  have pm : ∀ f : Int → Int, ((rgI O.length).map f).sum = ((sds J).map f).sum := fun f => by
    have p := sum_pm (hJ.use.map f)
    rw [← eO, rgI_succ, List.map_append, List.map_append, List.sum_append, List.sum_append, show (es.length : Int) + J.length - 1 = (O.length : Int) by omega] at p
    omega
  have e1 := pm (fun x => H (lenAt O x) - H x)
  have e2 := pm H
  have e4 := sum_rg H O.length
  have e5 := jsum_add (fun i : Nat => H (i : Int)) O.length 0 1
  have e6 := jsum_add (fun i : Nat => H (i : Int)) es.length 0 J.length
  rw [← eO] at e6
  have e7 : jsum (fun i : Nat => H (i : Int)) (0 + O.length) 1 = H ((es.length : Int) + J.length - 1) := by
    show H ((0 + O.length : Nat) : Int) + 0 = _
    rw [show ((0 + O.length : Nat) : Int) = (es.length : Int) + J.length - 1 by omega]
    omega
  have e8 : jsum (fun i : Nat => H (i : Int)) 0 es.length = 2 * (es.map En.s).sum := by
    rw [← sum_rg]
    have m : (rgI es.length).map H = es.map fun e => 2 * e.s := by
      apply List.ext_getElem?
      intro i
      by_cases hi : i < es.length
      · rw [List.getElem?_map, List.getElem?_map, rgI_get hi, List.getElem?_eq_getElem hi]
        show some (H (i : Int)) = some _
        rw [he _ (by omega) (by omega), gE_get (List.getElem?_eq_getElem hi)]
      · rw [List.getElem?_eq_none (by rw [List.length_map, rgI_len]; omega), List.getElem?_eq_none (by rw [List.length_map]; omega)]
    rw [m]
    exact sum_two es
  rw [Nat.zero_add] at e6
  omega
theorem evW_js {es : List En} {J : Jn} {O : List Int} (h1 : 1 ≤ es.length) (hO : OvOk es.length J O) (hJ : JOk es.length J) : evW es J = jsum (fun i => Hh (Lx es J) i) es.length J.length + Hh (Lx es J) ((es.length : Int) + J.length - 1) - 2 * (es.map En.s).sum := by
  rw [← ls_sum h1 hO hJ]
  exact gsum hO hJ Hh_ends
theorem last_at {l : List Int} {w : Int} (h : l.getLast? = some w) : l[l.length - 1]? = some w := by
  rw [List.getLast?_eq_getElem?] at h
  exact h
theorem sum_js {g : Nat → Int} : ∀ (l : List Int) (a : Nat), (∀ (i : Nat) (x : Int), l[i]? = some x → x ≤ g (a + i)) → l.sum ≤ jsum g a l.length
  | [], _, _ => Int.le_refl _
  | y :: l, a, h => by
    have h1 := h 0 y rfl
    have h2 := sum_js (g := g) l (a + 1) fun i x hx => by
      have := h (i + 1) x hx
      rw [show a + (i + 1) = a + 1 + i by omega] at this
      exact this
    rw [List.sum_cons]
    show _ ≤ g a + jsum g (a + 1) l.length
    rw [Nat.add_zero] at h1
    omega
theorem wnt_le {es : List En} {J : Jn} {B : List (List Int)} (hB : BOk es J B) {i : Nat} {r : Int × Int} (h1 : r.1 ∈ at? B ((es.length + i : Nat) : Int)) (h2 : r.2 ∈ at? B ((es.length + i : Nat) : Int)) : wnt es r ≤ Hh (Lx es J) ((es.length + i : Nat) : Int) := by
  rw [← hB.hFat (by omega)]
  exact want_le (List.mem_map.mpr ⟨_, h1, rfl⟩) (List.mem_map.mpr ⟨_, h2, rfl⟩)
theorem shW_le {es : List En} {J : Jn} {B : List (List Int)} {O : List Int} {R : Jn} (h1 : 1 ≤ es.length) (hO : OvOk es.length J O) (hJ : JOk es.length J) (hB : BOk es J B) (hR : Pp es J B R) : shW es R ≤ evW es J := by
  have hjl := hJ.len
  have hrl := hR.len
  rw [evW_js h1 hO hJ]
  unfold shW
  by_cases q : es.length = 1
  · rw [if_pos q]
    have hj0 : J.length = 0 := by omega
    rw [hj0]
    show 0 ≤ 0 + _ - _
    obtain ⟨e, rfl⟩ : ∃ e, es = [e] := List.length_eq_one_iff.mp q
    rw [Hh_ends _ (by simp) (by simp)]
    show 0 ≤ 0 + 2 * (gE [e] _).s - 2 * (e.s + 0)
    rw [show ((([e] : List En).length : Int) + ((0 : Nat) : Int) - 1) = 0 by simp]
    show 0 ≤ 0 + 2 * e.s - 2 * (e.s + 0)
    omega
  · rw [if_neg q]
    have wl : ∀ (i : Nat) (x : Int), (R.map (wnt es))[i]? = some x → x ≤ (fun i : Nat => Hh (Lx es J) i) (es.length + i) := fun i x hx => by
      rw [List.getElem?_map] at hx
      cases hr : R[i]? with
      | none => rw [hr] at hx; cases hx
      | some r =>
        rw [hr] at hx
        cases hx
        obtain ⟨a1, a2, _⟩ := hR.at' i r hr
        exact wnt_le hB a1 a2
    have s := sum_js (g := fun i : Nat => Hh (Lx es J) i) (R.map (wnt es)) es.length wl
    rw [List.length_map, hrl] at s
    cases hl : (R.map (wnt es)).getLast? with
    | none =>
      have := congrArg List.length (List.getLast?_eq_none_iff.mp hl)
      rw [List.length_map, List.length_nil] at this
      omega
    | some w =>
      have h2 := wl _ _ (last_at hl)
      rw [List.length_map, hrl] at h2
      have e : ((es.length + (J.length - 1) : Nat) : Int) = (es.length : Int) + J.length - 1 := by omega
      have h3 : w ≤ Hh (Lx es J) ((es.length + (J.length - 1) : Nat) : Int) := h2
      rw [e] at h3
      show _ + w - _ ≤ _
      omega
theorem shW_eq {es : List En} {J : Jn} {B : List (List Int)} {O : List Int} {R : Jn} (h1 : 1 ≤ es.length) (hO : OvOk es.length J O) (hJ : JOk es.length J) (hB : BOk es J B) (hR : Pp es J B R) (hw : ∀ (i : Nat) (r : Int × Int), R[i]? = some r → wnt es r = Hh (Lx es J) ((es.length + i : Nat) : Int)) : shW es R = evW es J := by
  have hjl := hJ.len
  have hrl := hR.len
  have le := shW_le h1 hO hJ hB hR
  suffices evW es J ≤ shW es R by omega
  rw [evW_js h1 hO hJ]
  unfold shW
  by_cases q : es.length = 1
  · rw [if_pos q]
    have hj0 : J.length = 0 := by omega
    rw [hj0]
    show 0 + _ - _ ≤ 0
    obtain ⟨e, rfl⟩ : ∃ e, es = [e] := List.length_eq_one_iff.mp q
    rw [Hh_ends _ (by simp) (by simp)]
    show 0 + 2 * (gE [e] _).s - 2 * (e.s + 0) ≤ 0
    rw [show ((([e] : List En).length : Int) + ((0 : Nat) : Int) - 1) = 0 by simp]
    show 0 + 2 * e.s - 2 * (e.s + 0) ≤ 0
    omega
  · rw [if_neg q]
    have wl : ∀ (i : Nat) (x : Int), (R.map (wnt es))[i]? = some x → (fun i : Nat => Hh (Lx es J) i) (es.length + i) ≤ x := fun i x hx => by
      rw [List.getElem?_map] at hx
      cases hr : R[i]? with
      | none => rw [hr] at hx; cases hx
      | some r =>
        rw [hr] at hx
        cases hx
        rw [hw i r hr]
        exact Int.le_refl _
    have s := sum_jg (g := fun i : Nat => Hh (Lx es J) i) (R.map (wnt es)) es.length wl
    rw [List.length_map, hrl] at s
    cases hl : (R.map (wnt es)).getLast? with
    | none =>
      have := congrArg List.length (List.getLast?_eq_none_iff.mp hl)
      rw [List.length_map, List.length_nil] at this
      omega
    | some w =>
      have h2 := wl _ _ (last_at hl)
      rw [List.length_map, hrl] at h2
      have e : ((es.length + (J.length - 1) : Nat) : Int) = (es.length : Int) + J.length - 1 := by omega
      have h3 : Hh (Lx es J) ((es.length + (J.length - 1) : Nat) : Int) ≤ w := h2
      rw [e] at h3
      show _ ≤ _ + w - _
      omega
abbrev ilD (is : List Int) : D := .lst (is.map D.int)
theorem at_app {α : Type} {L : List (List α)} {l : List α} {i : Int} (h : 0 ≤ i) : at? (L ++ [l]) i = if i < L.length then at? L i else if i = L.length then l else [] := by
  unfold at?
  split
  · rw [List.getElem?_append_left (by omega)]
  · rw [List.getElem?_append_right (by omega)]
    split
    · rw [show i.toNat - L.length = 0 by omega]; rfl
    · rw [List.getElem?_eq_none (by simp; omega)]; rfl
theorem atB {B : List (List Int)} {i : Int} (h0 : 0 ≤ i) (h1 : i < B.length) : atI (B.map ilD) i = some (ilD (at? B i)) := at_nat h0 (by rw [List.getElem?_map, (at_mem h0 h1).2]; rfl)
theorem beneath_loop {v0 v1 v3 : SV} {K : PK'} : ∀ (J : Jn) (B E : List (List Int)) (v4 v5 : SV), JV B.length J → 0 < B.length → B.length = E.length → (∀ i : Int, 0 ≤ i → (at? B i).Perm (at? E i)) → (∀ i, (at? (ext E J) i).length ≤ 100) → B.length + J.length ≤ 1000 → (∀ l ∈ B, l.Pairwise (· ≤ ·)) →
    (∀ B', B'.length = (ext E J).length → (∀ i : Int, 0 ≤ i → (at? B' i).Perm (at? (ext E J) i)) → (∀ l ∈ B', l.Pairwise (· ≤ ·)) → ∀ v4 v5, K.nx [v0, v1, SV.own (.lst (B'.map ilD)), v3, v4, v5]) →
    forP (gtTup 2 (gtCons (gtName 4) (gtCons (gtName 5) gtNil))) (sAppend 2 (eCall gSorted (aCons (eOp dAdd (eOp dIx (eO 2) (eV 4)) (eOp dIx (eO 2) (eV 5))) aNil))) (J.map jD) [v0, v1, SV.own (.lst (B.map ilD)), v3, v4, v5] K
  | [], B, E, v4, v5, _, _, hl, hp, _, _, hs, hk => by
    simp only [List.map_nil, forP]
    exact hk B hl hp hs v4 v5
  | r :: J, B, E, v4, v5, hv, hpos, hl, hp, hf, hm, hs, hk => by
    obtain ⟨⟨h1, h2, h3, h4⟩, hv'⟩ := hv
    have hm' : B.length + (J.length + 1) ≤ 1000 := by simpa using hm
    have f1 : (at? B r.1).length ≤ 100 := by
      rw [(hp r.1 h1).length_eq, ← at_ext (J := r :: J) (by omega) (by omega)]; exact hf _
    have f2 : (at? B r.2).length ≤ 100 := by
      rw [(hp r.2 h3).length_eq, ← at_ext (J := r :: J) (by omega) (by omega)]; exact hf _
    rw [List.map_cons]
    unfold forP
    repeat walk_at "ps"
    refine dIx_l (atB h1 h2) ?_
    repeat walk_at "ps"
    refine dIx_l (atB h3 h4) ?_
    refine dAdd_l (by rw [List.length_map, List.length_map]; omega) ?_
    repeat walk_at "ps"
    rw [← List.map_append]
    refine gSorted_i (intsD_map _) fun ms hms hsm => ?_
    refine ⟨by rw [List.length_map]; omega, ?_⟩
    repeat walk_at "ps"
    have := beneath_loop (v0 := v0) (v1 := v1) (v3 := v3) (K := K) J (B ++ [ms]) (E ++ [at? E r.1 ++ at? E r.2]) (SV.val (.int r.1)) (SV.val (.int r.2)) (by rw [List.length_append]; exact hv') (by simp) (by simp [hl]) (fun i i0 => ?_) hf (by rw [List.length_append, List.length_singleton]; omega) (fun l q => ?_) hk
    · rw [List.map_append] at this
      exact this
    · rw [at_app i0, at_app i0, hl]
      split
      · exact hp i i0
      · split
        · exact hms.trans (List.Perm.append (hp _ h1) (hp _ h3))
        · exact List.Perm.refl _
    · rcases List.mem_append.mp q with q | q
      · exact hs l q
      · rw [List.mem_singleton.mp q]; exact hsm
theorem idx_len {n : Nat} : (idx n).length = n := by simp [idx]
theorem flat_idx (n : Nat) : (idx n).flatten.length = n := by
  unfold idx
  induction n with
  | zero => rfl
  | succ n ih => rw [List.range_succ, List.map_append, List.flatten_append, List.length_append, ih]; rfl
theorem beneath_i {n : Nat} {J : Jn} {k : D → Prop} (n0 : 1 ≤ n) (n1 : n ≤ 24) (hJ : JOk n J) (h : ∀ B : List (List Int), B.length = (ext (idx n) J).length → (∀ i : Int, 0 ≤ i → (at? B i).Perm (at? (ext (idx n) J) i)) → (∀ l ∈ B, l.Pairwise (· ≤ ·)) → k (.lst (B.map ilD))) : wp__law_beneath [.int n, .tup (J.map jD)] k := by
  have hlen := hJ.len
  unfold wp__law_beneath wpOf
  walk_at "psenv"
  unfold P__law_beneath
  repeat walk_at "ps"
  refine rgK1_i (by omega) (by omega) ⟨by simp [noOwn], ?_⟩
  rw [rangeD0]
  refine lcP_m (fun i : Nat => D.int ((i : Nat) : Int)) (fun i : Nat => ilD [((i : Nat) : Int)]) (List.range n) (by rw [List.length_range]; omega) ?_ ?_
  · intro i hi A B hA
    repeat walk_at "ps"
    exact hA
  repeat walk_at "ps"
  rw [show ((List.range n).map fun i : Nat => ilD [((i : Nat) : Int)]) = (idx n).map ilD by unfold idx; rw [List.map_map]; rfl]
  refine beneath_loop J (idx n) (idx n) _ _ (by rw [idx_len]; exact hJ.v) (by rw [idx_len]; omega) rfl (fun i _ => List.Perm.refl _) (fun i => ?_) (by rw [idx_len]; omega) (fun l q => ?_) fun B' h1 h2 h3 v4 v5 => ?_
  · have := hJ.few (idx n) idx_len i
    rw [flat_idx] at this
    omega
  · unfold idx at q
    obtain ⟨j, _, rfl⟩ := List.mem_map.mp q
    exact List.pairwise_singleton _ _
  repeat walk_at "ps"
  exact h B' h1 h2 h3
theorem ext_map {α β : Type} (g : α → β) : ∀ (J : Jn) (L : List (List α)), ext (L.map (List.map g)) J = (ext L J).map (List.map g)
  | [], L => rfl
  | r :: J, L => by
    have am : ∀ i, at? (L.map (List.map g)) i = (at? L i).map g := fun i => by
      unfold at?
      rw [List.getElem?_map]
      cases L[i.toNat]? <;> rfl
    show ext (L.map (List.map g) ++ [at? (L.map (List.map g)) r.1 ++ at? (L.map (List.map g)) r.2]) J = _
    rw [am, am, ← List.map_append, show L.map (List.map g) ++ [(at? L r.1 ++ at? L r.2).map g] = (L ++ [at? L r.1 ++ at? L r.2]).map (List.map g) by simp, ext_map g J]
    rfl
theorem at_map {α β : Type} (g : α → β) (L : List (List α)) (i : Int) : at? (L.map (List.map g)) i = (at? L i).map g := by
  unfold at?
  rw [List.getElem?_map]
  cases L[i.toNat]? <;> rfl
theorem ext_all {α : Type} (P : α → Prop) : ∀ (J : Jn) (L : List (List α)), (∀ l ∈ L, ∀ x ∈ l, P x) → ∀ l ∈ ext L J, ∀ x ∈ l, P x
  | [], L, h => h
  | r :: J, L, h => by
    have ha : ∀ i, ∀ x ∈ at? L i, P x := fun i x hx => by
      unfold at? at hx
      cases q : L[i.toNat]? with
      | none => rw [q] at hx; exact (List.not_mem_nil hx).elim
      | some l => rw [q] at hx; exact h l (List.mem_of_getElem? q) x hx
    refine ext_all P J _ fun l hl x hx => ?_
    rcases List.mem_append.mp hl with q | q
    · exact h l q x hx
    · rw [List.mem_singleton.mp q] at hx
      rcases List.mem_append.mp hx with q | q
      · exact ha _ x q
      · exact ha _ x q
theorem idx_map (es : List En) : (idx es.length).map (List.map (gE es)) = es.map fun e => [e] := by
  unfold idx
  rw [List.map_map]
  apply List.ext_getElem?
  intro i
  by_cases hi : i < es.length
  · simp [List.getElem?_map, List.getElem?_range hi, List.getElem?_eq_getElem hi, gE]
  · simp [List.getElem?_eq_none, hi, Nat.not_lt.mp hi]
theorem bOk {es : List En} {J : Jn} {B : List (List Int)} (h1 : 1 ≤ es.length) (h2 : es.length ≤ 24) (hJ : JOk es.length J) (hB1 : B.length = (ext (idx es.length) J).length) (hB2 : ∀ i : Int, 0 ≤ i → (at? B i).Perm (at? (ext (idx es.length) J) i)) (hB3 : ∀ l ∈ B, l.Pairwise (· ≤ ·)) : BOk es J B := by
  have hil : (ext (idx es.length) J).length = es.length + J.length := by rw [ext_len, idx_len]
  have hne : ∀ l ∈ ext (idx es.length) J, l ≠ [] := ext_ne J _ (by rw [idx_len]; exact hJ.v) fun l hl => by
    unfold idx at hl
    obtain ⟨j, _, rfl⟩ := List.mem_map.mp hl
    simp
  have mem : ∀ b ∈ B, ∃ i : Int, 0 ≤ i ∧ i < B.length ∧ b = at? B i := fun b hb => by
    obtain ⟨i, hi, e⟩ := List.getElem_of_mem hb
    refine ⟨(i : Int), by omega, by omega, ?_⟩
    unfold at?
    rw [Int.toNat_natCast, List.getElem?_eq_getElem hi, ← e]
    rfl
  refine ⟨by rw [hB1, hil], fun i i0 => ?_, fun b hb x hx => ?_, fun i i0 => ?_, fun b hb q => ?_, hB3, hB2⟩
  · rw [(hB2 i i0).length_eq]
    have := hJ.few (idx es.length) idx_len i
    rw [flat_idx] at this
    omega
  · obtain ⟨i, i0, i1, rfl⟩ := mem b hb
    have hm : at? (ext (idx es.length) J) i ∈ ext (idx es.length) J := (at_mem i0 (by rw [← hB1]; exact i1)).1
    refine ext_all (fun x : Int => 0 ≤ x ∧ x < es.length) J (idx es.length) (fun l hl y hy => ?_) _ hm x ((hB2 i i0).mem_iff.mp hx)
    unfold idx at hl
    obtain ⟨j, hj, rfl⟩ := List.mem_map.mp hl
    rw [List.mem_singleton.mp hy]
    have := List.mem_range.mp hj
    omega
  · have := (hB2 i i0).map (gE es)
    rw [← at_map (gE es) (ext (idx es.length) J), ← ext_map, idx_map] at this
    exact this
  · obtain ⟨i, i0, i1, rfl⟩ := mem b hb
    have hm : at? (ext (idx es.length) J) i ∈ ext (idx es.length) J := (at_mem i0 (by rw [← hB1]; exact i1)).1
    have w := hB2 i i0
    rw [q] at w
    exact hne _ hm w.symm.eq_nil
theorem jv_at50 : ∀ (J : Jn) (n i : Nat) (r : Int × Int), JV n J → J[i]? = some r → 0 ≤ r.1 ∧ r.1 < (n + i : Nat) ∧ 0 ≤ r.2 ∧ r.2 < (n + i : Nat)
  | [], n, i, r, _, h => by cases h
  | q :: J, n, 0, r, v, h => by
    cases h
    have := v.1
    exact ⟨this.1, by simpa using this.2.1, this.2.2.1, by simpa using this.2.2.2⟩
  | q :: J, n, i + 1, r, v, h => by
    have := jv_at50 J (n + 1) i r v.2 h
    rw [show n + 1 + i = n + (i + 1) by omega] at this
    exact this
theorem sds_app (J K : Jn) : sds (J ++ K) = sds J ++ sds K := by simp [sds]
theorem jok_of {n : Nat} {J : Jn} (v : JV n J) (len : J.length + 1 = n) (nd : (sds J).Nodup) : JOk n J := by
  have hs : ∀ i, i ≤ J.length → ∃ W, JInv n i W (J.take i) := by
    intro i
    induction i with
    | zero => intro _; exact ⟨rgI n, by rw [List.take_zero]; exact JInv.start n⟩
    | succ i ih =>
      intro hi
      obtain ⟨W, h⟩ := ih (by omega)
      obtain ⟨r, hr⟩ : ∃ r, J[i]? = some r := ⟨J[i], List.getElem?_eq_getElem (by omega)⟩
      have b := jv_at50 J n i r v hr
      have e : J.take (i + 1) = J.take i ++ [r] := by rw [List.take_succ, hr]; rfl
      have n' : (sds (J.take (i + 1))).Nodup := by
        have h2 := nd
        rw [← List.take_append_drop (i + 1) J, sds_app] at h2
        exact (List.nodup_append.mp h2).1
      rw [e, sds_app] at n'
      have n2 := List.nodup_append.mp n'
      have ne : r.1 ≠ r.2 := by
        have := (List.pairwise_cons.mp (show List.Pairwise (· ≠ ·) [r.1, r.2] from n2.2.1)).1 r.2 (by simp)
        exact this
      have mw : ∀ x, 0 ≤ x → x < ((n + i : Nat) : Int) → x ∈ [r.1, r.2] → x ∈ W := fun x x0 x1 hx => by
        have := h.use.mem_iff.mpr (rgI_mem.mpr ⟨x0, x1⟩)
        rcases List.mem_append.mp this with q | q
        · exact absurd rfl (n2.2.2 x q x hx)
        · exact q
      have m1 := mw r.1 b.1 b.2.1 (by simp)
      have m2 := mw r.2 b.2.2.1 b.2.2.2 (by simp)
      refine ⟨((n + i : Nat) : Int) :: (W.erase r.1).erase r.2, ?_⟩
      rw [e]
      exact h.step (W2 := (W.erase r.1).erase r.2) (x := r.1) (y := r.2) ((List.perm_cons_erase m1).trans (.cons _ (List.perm_cons_erase ((List.mem_erase_of_ne (Ne.symm ne)).mpr m2)))) (.inl rfl) (.refl _)
  obtain ⟨W, h⟩ := hs J.length (Nat.le_refl _)
  rw [List.take_length] at h
  have wl := h.wl
  obtain ⟨w, rfl⟩ := List.length_eq_one_iff.mp (show W.length = 1 by omega)
  refine h.done ?_
  have hb := h.bnd (w := w) (by simp)
  have hm := h.use.mem_iff.mpr (show (n : Int) + J.length - 1 ∈ rgI (n + J.length) from rgI_mem.mpr ⟨by omega, by omega⟩)
  rcases List.mem_append.mp hm with q | q
  · obtain ⟨i, r, hi, hx⟩ := mem_sds.mp q
    have := jv_at50 J n i r v hi
    have := (List.getElem?_eq_some_iff.mp hi).1
    omega
  · exact (List.mem_singleton.mp q).symm
/-! ### an even wire told by sums over all knots; the same wire of the same ends otherwise -/
def sH (es : List En) (J : Jn) (l : List Int) : Int := (l.map (Hh (Lx es J))).sum
theorem lx_row {es : List En} {J : Jn} (hv : JV es.length J) {i : Nat} {r : Int × Int} (hr : J[i]? = some r) : at? (Lx es J) ((es.length + i : Nat) : Int) = at? (Lx es J) r.1 ++ at? (Lx es J) r.2 ∧ 0 ≤ r.1 ∧ r.1 < (es.length + i : Nat) ∧ 0 ≤ r.2 ∧ r.2 < (es.length + i : Nat) := by
  have hl : (es.map fun e => [e]).length = es.length := List.length_map ..
  have e := ext_at J (es.map fun e => [e]) i r (by rw [hl]; exact hv) hr
  rw [hl] at e
  refine ⟨?_, e.2⟩
  show (((Lx es J)[((es.length + i : Nat) : Int).toNat]?).getD [] : List En) = _
  rw [Int.toNat_natCast, e.1]
  rfl
theorem hs_rg {es : List En} {J : Jn} : (Lx es J).map hF = (rgI (es.length + J.length)).map (Hh (Lx es J)) := by
  have hl := lx_len es J
  apply List.ext_getElem?
  intro i
  by_cases hi : i < es.length + J.length
  · have := (at_mem (L := Lx es J) (i := (i : Int)) (by omega) (by omega)).2
    rw [Int.toNat_natCast] at this
    rw [List.getElem?_map, this]
    unfold rgI
    rw [List.getElem?_map, List.getElem?_map, List.getElem?_range hi]
    rfl
  · rw [List.getElem?_eq_none (by rw [List.length_map]; omega), List.getElem?_eq_none (by rw [List.length_map, rgI_len]; omega)]
theorem rg_tk (n m : Nat) : (rgI (n + m)).take n = rgI n := by
  induction m with
  | zero => rw [Nat.add_zero]; exact List.take_of_length_le (by rw [rgI_len]; exact Nat.le_refl _)
  | succ m ih => rw [← Nat.add_assoc, rgI_succ, List.take_append_of_le_length (by rw [rgI_len]; omega), ih]
theorem two_sum : ∀ E : List En, (E.map fun e => 2 * e.s).sum = 2 * (E.map En.s).sum
  | [] => rfl
  | e :: E => by
    have ih := two_sum E
    simp only [List.map_cons, List.sum_cons] at ih ⊢
    omega
theorem leaf_sum {es : List En} {J : Jn} : sH es J (rgI es.length) = 2 * (es.map En.s).sum := by
  have : (rgI es.length).map (Hh (Lx es J)) = es.map fun e => 2 * e.s := by
    apply List.ext_getElem?
    intro i
    by_cases hi : i < es.length
    · have h := Hh_ends (es := es) (J := J) ((i : Nat) : Int) (by omega) (by omega)
      unfold rgI
      rw [List.getElem?_map, List.getElem?_map, List.getElem?_range hi]
      show some (Hh (Lx es J) ((i : Nat) : Int)) = _
      rw [h, List.getElem?_map, List.getElem?_eq_getElem hi]
      have : gE es ((i : Nat) : Int) = es[i] := by unfold gE; rw [Int.toNat_natCast, List.getElem?_eq_getElem hi]; rfl
      rw [this]
      rfl
    · rw [List.getElem?_eq_none (by rw [List.length_map, rgI_len]; omega), List.getElem?_eq_none (by rw [List.length_map]; omega)]
  unfold sH
  rw [this]
  exact two_sum es
theorem ev_sum {es : List En} {J : Jn} : evW es J = sH es J (rgI (es.length + J.length)) + Hh (Lx es J) ((es.length : Int) + J.length - 1) - 2 * sH es J (rgI es.length) := by
  have t := congrArg List.sum (List.take_append_drop es.length ((Lx es J).map hF))
  rw [List.sum_append] at t
  have e : ((Lx es J).map hF).take es.length = (rgI es.length).map (Hh (Lx es J)) := by rw [hs_rg, ← List.map_take, rg_tk]
  have l := leaf_sum (es := es) (J := J)
  unfold sH at l ⊢
  rw [e, l, hs_rg] at t
  unfold evW
  show ((((Lx es J).map hF)).drop es.length).sum + hF (at? (Lx es J) _) - _ = _
  rw [hs_rg] at *
  unfold Hh at *
  omega
/-- the same ends lie beneath the knot that a knot becomes -/
theorem lx_iso {es es' : List En} {J J' : Jn} (hv : JV es.length J) (hv' : JV es'.length J') (φ : Int → Int) (base : ∀ x : Int, 0 ≤ x → x < es.length → ∀ p, p ∈ at? (Lx es' J') (φ x) ↔ p ∈ at? (Lx es J) x)
    (row : ∀ (i : Nat) (r : Int × Int), J[i]? = some r → ∃ (i' : Nat) (r' : Int × Int), J'[i']? = some r' ∧ φ ((es.length + i : Nat) : Int) = ((es'.length + i' : Nat) : Int) ∧ (r' = (φ r.1, φ r.2) ∨ r' = (φ r.2, φ r.1))) :
    ∀ (m : Nat) (x : Int), x.toNat < m → 0 ≤ x → x < (es.length + J.length : Nat) → ∀ p, p ∈ at? (Lx es' J') (φ x) ↔ p ∈ at? (Lx es J) x
  | 0, x, hm, _, _, _ => absurd hm (Nat.not_lt_zero _)
  | m + 1, x, hm, x0, x1, p => by
    by_cases q : x < es.length
    · exact base x x0 q p
    · obtain ⟨i, rfl⟩ : ∃ i : Nat, x = ((es.length + i : Nat) : Int) := ⟨(x - es.length).toNat, by omega⟩
      have hi : i < J.length := by omega
      obtain ⟨r, hr⟩ : ∃ r, J[i]? = some r := ⟨_, List.getElem?_eq_getElem hi⟩
      obtain ⟨e, b1, b2, b3, b4⟩ := lx_row hv hr
      obtain ⟨i', r', hr', hφ, hs⟩ := row i r hr
      have e' := (lx_row hv' hr').1
      have i1 := lx_iso hv hv' φ base row m r.1 (by omega) b1 (by omega) p
      have i2 := lx_iso hv hv' φ base row m r.2 (by omega) b3 (by omega) p
      rw [hφ, e', e, List.mem_append, List.mem_append]
      rcases hs with rfl | rfl
      · rw [i1, i2]
      · rw [i1, i2, Or.comm]
/-- a renumbering -/
structure Ren (es es' : List En) (J J' : Jn) (φ : Int → Int) : Prop where
  n : es'.length = es.length
  m : J'.length = J.length
  ends : ∀ x : Int, 0 ≤ x → x < es.length → 0 ≤ φ x ∧ φ x < es.length ∧ gE es' (φ x) = gE es x
  row : ∀ (i : Nat) (r : Int × Int), J[i]? = some r → ∃ (i' : Nat) (r' : Int × Int), J'[i']? = some r' ∧ φ ((es.length + i : Nat) : Int) = ((es'.length + i' : Nat) : Int) ∧ (r' = (φ r.1, φ r.2) ∨ r' = (φ r.2, φ r.1))
  low : ((rgI es.length).map φ).Perm (rgI es.length)
  all : ((rgI (es.length + J.length)).map φ).Perm (rgI (es.length + J.length))
theorem Ren.hh {es es' : List En} {J J' : Jn} {φ : Int → Int} (h : Ren es es' J J' φ) (hv : JV es.length J) (hv' : JV es'.length J') {x : Int} (x0 : 0 ≤ x) (x1 : x < (es.length + J.length : Nat)) : Hh (Lx es' J') (φ x) = Hh (Lx es J) x := by
  refine hF_congr fun p => lx_iso hv hv' φ (fun x x0 x1 p => ?_) h.row (x.toNat + 1) x (Nat.lt_succ_self _) x0 x1 p
  obtain ⟨a, b, c⟩ := h.ends x x0 x1
  rw [lx_end a (by rw [h.n]; exact b), lx_end x0 x1, c]
theorem Ren.sum {es es' : List En} {J J' : Jn} {φ : Int → Int} (h : Ren es es' J J' φ) (hv : JV es.length J) (hv' : JV es'.length J') {l : List Int} (hl : ∀ x ∈ l, 0 ≤ x ∧ x < (es.length + J.length : Nat)) (hp : (l.map φ).Perm l) : sH es' J' l = sH es J l := by
  have e := sum_pm (hp.map (Hh (Lx es' J')))
  unfold sH
  rw [← e, List.map_map]
  congr 1
  apply List.map_congr_left
  intro x hx
  exact h.hh hv hv' (hl x hx).1 (hl x hx).2
theorem flat1 : ∀ es : List En, (es.map fun e => [e]).flatten = es
  | [] => rfl
  | a :: l => by rw [List.map_cons, List.flatten_cons, flat1 l]; rfl
theorem root_hh {es : List En} {J : Jn} (hJ : JOk es.length J) : Hh (Lx es J) ((es.length : Int) + J.length - 1) = hF es := by
  have p := hJ.all (es.map fun e => [e]) (List.length_map ..)
  refine hF_congr fun e => ?_
  rw [p.mem_iff, flat1]
theorem mem_gE {es : List En} {e : En} : e ∈ es ↔ ∃ x : Int, 0 ≤ x ∧ x < es.length ∧ gE es x = e := by
  constructor
  · intro h
    obtain ⟨i, hi, he⟩ := List.getElem_of_mem h
    refine ⟨(i : Int), by omega, by omega, ?_⟩
    unfold gE
    rw [Int.toNat_natCast, List.getElem?_eq_getElem hi, he]
    rfl
  · rintro ⟨x, x0, x1, rfl⟩
    unfold gE
    rw [List.getElem?_eq_getElem (by omega)]
    exact List.getElem_mem _
theorem Ren.ends_iff {es es' : List En} {J J' : Jn} {φ : Int → Int} (h : Ren es es' J J' φ) (e : En) : e ∈ es' ↔ e ∈ es := by
  rw [mem_gE, mem_gE]
  constructor
  · rintro ⟨y, y0, y1, rfl⟩
    have : y ∈ (rgI es.length).map φ := h.low.mem_iff.mpr (rgI_mem.mpr ⟨y0, by rw [← h.n]; exact y1⟩)
    obtain ⟨x, hx, rfl⟩ := List.mem_map.mp this
    have hb := rgI_mem.mp hx
    exact ⟨x, hb.1, hb.2, (h.ends x hb.1 hb.2).2.2.symm⟩
  · rintro ⟨x, x0, x1, rfl⟩
    obtain ⟨a, b, c⟩ := h.ends x x0 x1
    exact ⟨φ x, a, by rw [h.n]; exact b, c⟩
theorem Ren.wire {es es' : List En} {J J' : Jn} {φ : Int → Int} (h : Ren es es' J J' φ) (hJ : JOk es.length J) (hJ' : JOk es'.length J') : evW es' J' = evW es J := by
  rw [ev_sum, ev_sum, root_hh hJ, root_hh hJ', hF_congr h.ends_iff, h.n, h.m, h.sum hJ.v hJ'.v (fun x hx => by have := rgI_mem.mp hx; omega) h.all, h.sum hJ.v hJ'.v (fun x hx => by have := rgI_mem.mp hx; omega) h.low]
/-! starts by as much more -/
def up1 (m : Int) (e : En) : En := ⟨e.x, e.y, e.s + m, e.l⟩
theorem hF_up {m : Int} {l : List En} (h : l ≠ []) : hF (l.map (up1 m)) = hF l + 2 * m := by
  have w : ∀ p q : En, want (up1 m p) (up1 m q) = want p q + 2 * m := fun p q => by unfold want up1; dsimp only; omega
  apply Int.le_antisymm
  · obtain ⟨p, hp, q, hq, e⟩ := hF_mem (l := l.map (up1 m)) (by simpa using h)
    obtain ⟨p, hp', rfl⟩ := List.mem_map.mp hp
    obtain ⟨q, hq', rfl⟩ := List.mem_map.mp hq
    have t : want p q ≤ hF l := want_le hp' hq'
    rw [e, w]
    omega
  · obtain ⟨p, hp, q, hq, e⟩ := hF_mem h
    have := want_le (List.mem_map_of_mem (f := up1 m) hp) (List.mem_map_of_mem (f := up1 m) hq)
    rw [w] at this
    omega
theorem ext_mp {α β : Type} (g : α → β) : ∀ (J : Jn) (L : List (List α)), ext (L.map (List.map g)) J = (ext L J).map (List.map g)
  | [], L => rfl
  | r :: J, L => by
    have am : ∀ i, at? (L.map (List.map g)) i = (at? L i).map g := fun i => by
      unfold at?
      rw [List.getElem?_map]
      cases L[i.toNat]? <;> rfl
    show ext (L.map (List.map g) ++ [at? (L.map (List.map g)) r.1 ++ at? (L.map (List.map g)) r.2]) J = _
    rw [am, am, ← List.map_append, show L.map (List.map g) ++ [(at? L r.1 ++ at? L r.2).map g] = (L ++ [at? L r.1 ++ at? L r.2]).map (List.map g) by simp, ext_mp g J]
    rfl
theorem hh_up1 {es : List En} {J : Jn} {m : Int} (hv : JV es.length J) {x : Int} (x0 : 0 ≤ x) (x1 : x < (es.length + J.length : Nat)) : Hh (Lx (es.map (up1 m)) J) x = Hh (Lx es J) x + 2 * m := by
  have e : Lx (es.map (up1 m)) J = (Lx es J).map (List.map (up1 m)) := by
    show ext ((es.map (up1 m)).map fun e => [e]) J = _
    rw [← ext_mp, List.map_map, List.map_map]
    rfl
  have a : at? ((Lx es J).map (List.map (up1 m))) x = (at? (Lx es J) x).map (up1 m) := by
    unfold at?
    rw [List.getElem?_map]
    cases (Lx es J)[x.toNat]? <;> rfl
  unfold Hh
  rw [e, a]
  exact hF_up (lx_ne hv x0 x1)
theorem up_wire {es : List En} {J : Jn} {m : Int} (hJ : JOk es.length J) (h1 : 1 ≤ es.length) : evW (es.map (up1 m)) J = evW es J := by
  have hl := hJ.len
  have key : ∀ l : List Int, (∀ x ∈ l, 0 ≤ x ∧ x < (es.length + J.length : Nat)) → sH (es.map (up1 m)) J l = sH es J l + 2 * m * (l.length : Int) := fun l => by
    unfold sH
    induction l with
    | nil => intro _; simp
    | cons x l ih =>
      intro h
      have a := hh_up1 (m := m) hJ.v (h x List.mem_cons_self).1 (h x List.mem_cons_self).2
      have b := ih fun y hy => h y (List.mem_cons_of_mem _ hy)
      simp only [List.map_cons, List.sum_cons, List.length_cons]
      rw [a, b, Int.natCast_add, Int.mul_add]
      omega
  rw [ev_sum, ev_sum, List.length_map, key _ (fun x hx => by have := rgI_mem.mp hx; omega), key _ (fun x hx => by have := rgI_mem.mp hx; omega), hh_up1 hJ.v (by omega) (by omega), rgI_len, rgI_len]
  have e : ((es.length + J.length : Nat) : Int) = 2 * (es.length : Int) - 1 := by omega
  rw [e, Int.mul_sub, show 2 * m * (2 * (es.length : Int)) = 2 * (2 * m * (es.length : Int)) by rw [Int.mul_left_comm]]
  omega
/-! ### one end told once more, joined beside itself -/
def dlt (n : Nat) (e x : Int) : Int := if x = e then (n : Int) + 1 else if (n : Int) ≤ x then x + 2 else x
def dblJ (n : Nat) (e : Int) (J : Jn) : Jn := (e, (n : Int)) :: J.map fun r => (dlt n e r.1, dlt n e r.2)
theorem dlt_inj {n : Nat} {e x y : Int} (e1 : e < n) (h : dlt n e x = dlt n e y) : x = y := by
  unfold dlt at h
  split at h <;> split at h <;> (try split at h) <;> (try split at h) <;> omega
theorem dlt_ne {n : Nat} {e x : Int} (e1 : e < n) : dlt n e x ≠ e ∧ dlt n e x ≠ n := by
  unfold dlt
  split
  · omega
  · split <;> omega
theorem dlt_jv {n : Nat} {e : Int} (e0 : 0 ≤ e) (e1 : e < n) : ∀ (J : Jn) (m : Nat), n ≤ m → JV m J → JV (m + 2) (J.map fun r => (dlt n e r.1, dlt n e r.2))
  | [], _, _, _ => trivial
  | r :: J, m, hm, ⟨⟨h1, h2, h3, h4⟩, h5⟩ => by
    have b : ∀ x : Int, 0 ≤ x → x < (m : Int) → 0 ≤ dlt n e x ∧ dlt n e x < ((m + 2 : Nat) : Int) := fun x x0 x1 => by
      unfold dlt
      split
      · omega
      · split <;> omega
    obtain ⟨a1, a2⟩ := b r.1 h1 h2
    obtain ⟨a3, a4⟩ := b r.2 h3 h4
    exact ⟨⟨a1, a2, a3, a4⟩, dlt_jv e0 e1 J (m + 1) (by omega) h5⟩
theorem sds_map (f : Int → Int) : ∀ J : Jn, sds (J.map fun r => (f r.1, f r.2)) = (sds J).map f
  | [] => rfl
  | r :: J => by
    have ih := sds_map f J
    show f r.1 :: f r.2 :: sds (J.map fun r => (f r.1, f r.2)) = _
    rw [ih]
    rfl
theorem nd_map {f : Int → Int} (hf : ∀ x y, f x = f y → x = y) {l : List Int} (h : l.Nodup) : (l.map f).Nodup := by
  unfold List.Nodup at h ⊢
  rw [List.pairwise_map]
  exact h.imp fun hab q => hab (hf _ _ q)
theorem dbl_ok {n : Nat} {e : Int} {J : Jn} (e0 : 0 ≤ e) (e1 : e < n) (h : JOk n J) : JOk (n + 1) (dblJ n e J) := by
  refine jok_of ⟨⟨e0, by show e < ((n + 1 : Nat) : Int); omega, by show (0 : Int) ≤ n; omega, by show (n : Int) < ((n + 1 : Nat) : Int); omega⟩, dlt_jv e0 e1 J n (Nat.le_refl _) h.v⟩ (by unfold dblJ; rw [List.length_cons, List.length_map, h.len]) ?_
  show (e :: (n : Int) :: sds (J.map fun r => (dlt n e r.1, dlt n e r.2))).Nodup
  rw [sds_map]
  have ne := fun x : Int => dlt_ne (x := x) e1
  refine List.nodup_cons.mpr ⟨fun q => ?_, List.nodup_cons.mpr ⟨fun q => ?_, nd_map (fun x y => dlt_inj e1) h.nd⟩⟩
  · rcases List.mem_cons.mp q with q | q
    · omega
    · obtain ⟨x, _, hx⟩ := List.mem_map.mp q
      exact (ne x).1 hx
  · obtain ⟨x, _, hx⟩ := List.mem_map.mp q
    exact (ne x).2 hx
def dblE (es : List En) (e : Int) : List En := es ++ [gE es e]
theorem gE_old {es : List En} {e x : Int} (x0 : 0 ≤ x) (x1 : x < es.length) : gE (dblE es e) x = gE es x := by
  unfold gE dblE
  rw [List.getElem?_append_left (by omega)]
theorem gE_new {es : List En} {e : Int} : gE (dblE es e) (es.length : Int) = gE es e := by
  have : (dblE es e)[((es.length : Nat) : Int).toNat]? = some (gE es e) := by
    unfold dblE
    rw [Int.toNat_natCast, List.getElem?_append_right (Nat.le_refl _), Nat.sub_self]
    rfl
  show ((dblE es e)[((es.length : Nat) : Int).toNat]?).getD _ = _
  rw [this]
  rfl
theorem dbl_hh {es : List En} {J : Jn} {e : Int} (e0 : 0 ≤ e) (e1 : e < es.length) (h : JOk es.length J) {x : Int} (x0 : 0 ≤ x) (x1 : x < (es.length + J.length : Nat)) : Hh (Lx (dblE es e) (dblJ es.length e J)) (dlt es.length e x) = Hh (Lx es J) x := by
  have hl : (dblE es e).length = es.length + 1 := by unfold dblE; rw [List.length_append]; rfl
  have h' : JOk (dblE es e).length (dblJ es.length e J) := by rw [hl]; exact dbl_ok e0 e1 h
  refine hF_congr fun p => lx_iso h.v h'.v (dlt es.length e) (fun x x0 x1 p => ?_) (fun i r hr => ?_) (x.toNat + 1) x (Nat.lt_succ_self _) x0 x1 p
  · by_cases q : x = e
    · have a := (lx_row h'.v (i := 0) (r := (e, (es.length : Int))) rfl).1
      have d : dlt es.length e x = (((dblE es e).length + 0 : Nat) : Int) := by unfold dlt; rw [if_pos q, hl]; rfl
      rw [d, a, lx_end e0 (by omega), lx_end (by omega) (by omega), gE_old e0 e1, gE_new, lx_end x0 x1, q]
      simp
    · have d : dlt es.length e x = x := by unfold dlt; rw [if_neg q, if_neg (by omega)]
      rw [d, lx_end x0 (by omega), lx_end x0 x1, gE_old x0 x1]
  · refine ⟨i + 1, (dlt es.length e r.1, dlt es.length e r.2), ?_, ?_, .inl rfl⟩
    · show (J.map fun r => (dlt es.length e r.1, dlt es.length e r.2))[i]? = _
      rw [List.getElem?_map, hr]
      rfl
    · unfold dlt
      rw [if_neg (by omega), if_pos (by omega), hl]
      omega
theorem dbl_wire {es : List En} {J : Jn} {e : Int} (e0 : 0 ≤ e) (e1 : e < es.length) (h : JOk es.length J) : evW (dblE es e) (dblJ es.length e J) = evW es J := by
  have hl : (dblE es e).length = es.length + 1 := by unfold dblE; rw [List.length_append]; rfl
  have hjl : (dblJ es.length e J).length = J.length + 1 := by unfold dblJ; rw [List.length_cons, List.length_map]
  have h' : JOk (dblE es e).length (dblJ es.length e J) := by rw [hl]; exact dbl_ok e0 e1 h
  have p : (rgI (es.length + J.length + 2)).Perm (e :: (es.length : Int) :: (rgI (es.length + J.length)).map (dlt es.length e)) := by
    have ne := fun x : Int => dlt_ne (x := x) e1
    refine (List.perm_ext_iff_of_nodup (rgI_nd _) ?_).mpr fun y => ?_
    · refine List.nodup_cons.mpr ⟨fun q => ?_, List.nodup_cons.mpr ⟨fun q => ?_, nd_map (fun x y => dlt_inj e1) (rgI_nd _)⟩⟩
      · rcases List.mem_cons.mp q with q | q
        · omega
        · obtain ⟨x, _, hx⟩ := List.mem_map.mp q
          exact (ne x).1 hx
      · obtain ⟨x, _, hx⟩ := List.mem_map.mp q
        exact (ne x).2 hx
    · rw [rgI_mem, List.mem_cons, List.mem_cons, List.mem_map]
      constructor
      · intro ⟨y0, y1⟩
        by_cases q : y = e
        · exact .inl q
        by_cases q2 : y = es.length
        · exact .inr (.inl q2)
        refine .inr (.inr ?_)
        by_cases q3 : y = (es.length : Int) + 1
        · exact ⟨e, rgI_mem.mpr ⟨e0, by omega⟩, by unfold dlt; rw [if_pos rfl, q3]⟩
        by_cases q4 : y < es.length
        · exact ⟨y, rgI_mem.mpr ⟨y0, by omega⟩, by unfold dlt; rw [if_neg q, if_neg (by omega)]⟩
        · exact ⟨y - 2, rgI_mem.mpr ⟨by omega, by omega⟩, by unfold dlt; rw [if_neg (by omega), if_pos (by omega)]; omega⟩
      · rintro (rfl | rfl | ⟨x, hx, rfl⟩)
        · omega
        · omega
        · have hb := rgI_mem.mp hx
          unfold dlt
          split
          · omega
          · split <;> omega
  have he : Hh (Lx (dblE es e) (dblJ es.length e J)) e = 2 * (gE es e).s := by rw [Hh_ends e e0 (by omega), gE_old e0 e1]
  have hn : Hh (Lx (dblE es e) (dblJ es.length e J)) (es.length : Int) = 2 * (gE es e).s := by rw [Hh_ends _ (by omega) (by omega), gE_new]
  have a1 : sH (dblE es e) (dblJ es.length e J) (rgI (es.length + J.length + 2)) = 4 * (gE es e).s + sH es J (rgI (es.length + J.length)) := by
    have s := sum_pm (p.map (Hh (Lx (dblE es e) (dblJ es.length e J))))
    have m : ((rgI (es.length + J.length)).map (dlt es.length e)).map (Hh (Lx (dblE es e) (dblJ es.length e J))) = (rgI (es.length + J.length)).map (Hh (Lx es J)) := by
      rw [List.map_map]
      apply List.map_congr_left
      intro x hx
      have hb := rgI_mem.mp hx
      exact dbl_hh e0 e1 h hb.1 hb.2
    unfold sH
    rw [s, List.map_cons, List.map_cons, m, List.sum_cons, List.sum_cons, he, hn]
    omega
  have a2 : sH (dblE es e) (dblJ es.length e J) (rgI (es.length + 1)) = sH es J (rgI es.length) + 2 * (gE es e).s := by
    unfold sH
    rw [rgI_succ, List.map_append, List.sum_append, List.map_cons, List.map_nil, List.sum_cons, List.sum_nil, hn]
    have : (rgI es.length).map (Hh (Lx (dblE es e) (dblJ es.length e J))) = (rgI es.length).map (Hh (Lx es J)) := by
      apply List.map_congr_left
      intro x hx
      have hb := rgI_mem.mp hx
      rw [Hh_ends x hb.1 (by omega), Hh_ends x hb.1 hb.2, gE_old hb.1 hb.2]
    rw [this]
    omega
  rw [ev_sum, ev_sum, root_hh h, root_hh h', hl, hjl, show es.length + 1 + (J.length + 1) = es.length + J.length + 2 by omega, a1, a2]
  have hm : hF (dblE es e) = hF es := hF_congr fun p => by
    unfold dblE
    rw [List.mem_append]
    constructor
    · rintro (q | q)
      · exact q
      · rw [List.mem_singleton.mp q]
        exact mem_gE.mpr ⟨e, e0, e1, rfl⟩
    · exact .inl
  rw [hm]
  omega
def par : Nat → Jn → Int → Int
  | _, [], _ => 0
  | m, r :: J, x => if x = r.1 ∨ x = r.2 then (m : Int) else par (m + 1) J x
theorem par_hit : ∀ (J : Jn) (m i : Nat) (r : Int × Int) (x : Int), (sds J).Nodup → J[i]? = some r → (x = r.1 ∨ x = r.2) → par m J x = ((m + i : Nat) : Int)
  | r0 :: J, m, 0, r, x, _, hr, hx => by
    cases hr
    unfold par
    rw [if_pos hx]
    rfl
  | r0 :: J, m, i + 1, r, x, hn, hr, hx => by
    have hn' : (r0.1 :: r0.2 :: sds J).Nodup := hn
    obtain ⟨n1, n2⟩ := List.nodup_cons.mp hn'
    obtain ⟨n3, n4⟩ := List.nodup_cons.mp n2
    have hxs : x ∈ sds J := mem_sds.mpr ⟨i, r, by simpa using hr, hx⟩
    have x1 : ¬ (x = r0.1 ∨ x = r0.2) := by
      rintro (q | q)
      · exact n1 (by rw [← q]; exact List.mem_cons_of_mem _ hxs)
      · exact n3 (by rw [← q]; exact hxs)
    unfold par
    rw [if_neg x1, par_hit J (m + 1) i r x n4 (by simpa using hr) hx, show m + 1 + i = m + (i + 1) by omega]
theorem ov_exists {n : Nat} {J : Jn} (hJ : JOk n J) : ∃ O, OvOk n J O := by
  have hl := hJ.len
  refine ⟨(List.range (n + J.length - 1)).map fun x : Nat => par n J (x : Int), ⟨by rw [List.length_map, List.length_range]; omega, fun i r hr => ?_⟩⟩
  have go : ∀ x : Int, (x = r.1 ∨ x = r.2) → ((List.range (n + J.length - 1)).map fun x : Nat => par n J (x : Int))[x.toNat]? = some ((n + i : Nat) : Int) := fun x hx => by
    have := in_sds hJ (mem_sds.mpr ⟨i, r, hr, hx⟩)
    rw [List.getElem?_map, List.getElem?_range (by omega)]
    show some (par n J ((x.toNat : Nat) : Int)) = _
    rw [show ((x.toNat : Nat) : Int) = x by omega, par_hit J n i r x hJ.nd hr hx]
  exact ⟨go _ (.inl rfl), go _ (.inr rfl)⟩
/-! ### what is told of an even tree -/
theorem crn_in {l : List En} (h : l ≠ []) : InB l (crn l) := by
  have b := bok h
  unfold crn
  exact ⟨Int.le_refl _, b.ab, Int.le_refl _, b.cd⟩
theorem bOk_ex {es : List En} {J : Jn} (h1 : 1 ≤ es.length) (h2 : es.length ≤ 24) (hJ : JOk es.length J) : ∃ B, BOk es J B := by
  refine ⟨(ext (idx es.length) J).map fun l => l.mergeSort fun a b => decide (a ≤ b), bOk h1 h2 hJ (List.length_map ..) (fun i _ => ?_) fun l hl => ?_⟩
  · unfold at?
    rw [List.getElem?_map]
    cases (ext (idx es.length) J)[i.toNat]? with
    | none => exact List.Perm.refl _
    | some l => exact List.mergeSort_perm _ _
  · obtain ⟨m, _, rfl⟩ := List.mem_map.mp hl
    have s := List.pairwise_mergeSort (le := fun a b : Int => decide (a ≤ b)) (fun a b c h1 h2 => by
      have := of_decide_eq_true h1
      have := of_decide_eq_true h2
      exact decide_eq_true (by omega)) (fun a b => by
      rcases Int.le_total a b with h | h
      · rw [decide_eq_true h]; rfl
      · rw [decide_eq_true h, Bool.or_true]) m
    exact s.imp fun h => of_decide_eq_true h
theorem told_i {es : List En} {J : Jn} {k : D → Prop} (h1 : 1 ≤ es.length) (n1 : es.length ≤ 24) (hJ : JOk es.length J) (h : k (.bl true)) : wp__law_told [.tup (es.map enD), .tup (J.map jD), .int (evW es J)] k := by
  obtain ⟨O, hO⟩ := ov_exists hJ
  obtain ⟨B, hB⟩ := bOk_ex h1 n1 hJ
  have hjl := hJ.len
  have hne : at? (Lx es J) ((es.length : Int) + J.length - 1) ≠ [] := lx_ne hJ.v (by omega) (by omega)
  unfold wp__law_told wpOf
  walk_at "psenv"
  unfold P__law_told
  repeat walk_at "ps"
  refine even_tree_n h1 n1 hJ hO rfl fun S hS => ?_
  repeat walk_at "ps"
  refine is_tree_i h1 n1 hJ hO (crn_in hne) hS ?_
  unfold treeD
  repeat walk_at "ps"
  refine gSumA_t ?_
  rw [ls_sum h1 hO hJ]
  repeat walk_at "ps"
  rw [decide_eq_true rfl]
  repeat walk_at "ps"
  refine even_wire_i h1 (by omega) (by omega) hJ.v ?_
  repeat walk_at "ps"
  rw [decide_eq_true rfl]
  repeat walk_at "ps"
  refine pairs_for_w h1 n1 hJ hB fun R hR hw => ?_
  repeat walk_at "ps"
  refine shown_i h1 n1 hJ hB hR ?_
  rw [shW_eq h1 hO hJ hB hR hw]
  repeat walk_at "ps"
  rw [decide_eq_true rfl]
  exact h
/-- the told tree's lengths -/
theorem tree_i {es : List En} {J : Jn} {k : D → Prop} (h1 : 1 ≤ es.length) (n1 : es.length ≤ 24) (hJ : JOk es.length J) (h : ∀ (O : List Int) (S : Jn), OvOk es.length J O → k (treeD (Lx es J) O S)) : wp_even_tree [.tup (es.map enD), .tup (J.map jD), .non] k := by
  obtain ⟨O, hO⟩ := ov_exists hJ
  exact even_tree_n h1 n1 hJ hO rfl fun S hS => h O S hO
/-! ### the law's renumbering -/
/-- the dict of known knots: each to its place in the list -/
structure Kd (kvs : List (Key × D)) (L : List Int) : Prop where
  yes : ∀ (j : Nat) (y : Int), L[j]? = some y → valD kvs (.inl y) = some (.int (j : Nat))
  no : ∀ y : Int, y ∉ L → valD kvs (.inl y) = none
  len : kvs.length ≤ L.length
theorem Kd.nil : Kd [] [] := ⟨fun j y h => by simp at h, fun _ _ => rfl, Nat.le_refl _⟩
theorem putD_len1 (ds : List (Key × D)) (k : Key) (d : D) : (putD ds k d).length ≤ ds.length + 1 := by
  unfold putD
  split
  · rw [List.length_map]; omega
  · rw [List.length_append]; exact Nat.le_refl _
theorem Kd.put {kvs : List (Key × D)} {L : List Int} (h : Kd kvs L) {y : Int} (hy : y ∉ L) : Kd (putD kvs (.inl y) (.int (L.length : Nat))) (L ++ [y]) := by
  refine ⟨fun j z hz => ?_, fun z hz => ?_, by rw [List.length_append]; exact Nat.le_trans (putD_len1 ..) (Nat.add_le_add_right h.len 1)⟩
  · rw [valD_put]
    by_cases q : j < L.length
    · rw [List.getElem?_append_left q] at hz
      have hm := List.mem_of_getElem? hz
      rw [if_neg (fun e => hy (by cases e; exact hm)), h.yes j z hz]
    · have hj : j = L.length := by
        have := (List.getElem?_eq_some_iff.mp hz).1
        rw [List.length_append] at this
        simp at this
        omega
      subst hj
      rw [List.getElem?_append_right (Nat.le_refl _), Nat.sub_self] at hz
      cases hz
      rw [if_pos rfl]
  · rw [valD_put]
    have h1 : z ∉ L := fun q => hz (List.mem_append_left _ q)
    have h2 : z ≠ y := fun q => hz (List.mem_append_right _ (by rw [q]; exact List.mem_singleton_self _))
    rw [if_neg (fun e => h2 (by cases e; rfl)), h.no z h1]
theorem Kd.isSome {kvs : List (Key × D)} {L : List Int} (h : Kd kvs L) {y : Int} : (valD kvs (.inl y)).isSome = decide (y ∈ L) := by
  by_cases q : y ∈ L
  · obtain ⟨j, hj, e⟩ := List.getElem_of_mem q
    rw [h.yes j y (by rw [List.getElem?_eq_getElem hj, e]), decide_eq_true q]
    rfl
  · rw [h.no y q, decide_eq_false q]
    rfl
/-- so far: the knots known, in the order in which they became known; the rows told -/
structure Nb (n : Nat) (J : Jn) (O L : List Int) (W : List Int) (R : Jn) : Prop where
  all : (L ++ W.map fun k => (n : Int) + k).Perm (rgI (n + J.length))
  len : L.length = n + R.length
  low : L.take n = O
  rows : ∀ (j : Nat) (q : Int × Int), R[j]? = some q → ∃ (k : Nat) (r : Int × Int) (a b : Nat), J[k]? = some r ∧ L[n + j]? = some ((n + k : Nat) : Int) ∧ L[a]? = some r.1 ∧ L[b]? = some r.2 ∧ a < n + j ∧ b < n + j ∧ (q = ((a : Int), (b : Int)) ∨ q = ((b : Int), (a : Int)))
theorem Nb.nd {n : Nat} {J : Jn} {O L W : List Int} {R : Jn} (h : Nb n J O L W R) : (L ++ W.map fun k => (n : Int) + k).Nodup := h.all.nodup_iff.mpr (rgI_nd _)
theorem Nb.wbnd {n : Nat} {J : Jn} {O L W : List Int} {R : Jn} (h : Nb n J O L W R) (ho : ∀ x ∈ rgI n, x ∈ L) {k : Int} (hk : k ∈ W) : 0 ≤ k ∧ k < J.length := by
  have hm := h.all.mem_iff.mp (List.mem_append_right _ (List.mem_map_of_mem (f := fun k => (n : Int) + k) hk))
  have hb := rgI_mem.mp hm
  refine ⟨?_, by omega⟩
  by_cases q : 0 ≤ k
  · exact q
  · have : (n : Int) + k ∈ L := ho _ (rgI_mem.mpr ⟨by omega, by omega⟩)
    exact absurd rfl ((List.nodup_append.mp h.nd).2.2 _ this _ (List.mem_map_of_mem (f := fun k => (n : Int) + k) hk))
/-- some row is ready -/
theorem Nb.ready {n : Nat} {J : Jn} {O L W : List Int} {R : Jn} (h : Nb n J O L W R) (hv : JV n J) (ho : ∀ x ∈ rgI n, x ∈ L) (hw : W ≠ []) : ∃ k ∈ W, ∀ r, J[k.toNat]? = some r → r.1 ∈ L ∧ r.2 ∈ L := by
  have : ∀ (W : List Int), W ≠ [] → ∃ k ∈ W, ∀ y ∈ W, k ≤ y := fun W hW => ⟨minI W, minI_mem hW, fun y hy => minI_le hy⟩
  obtain ⟨k, hk, least⟩ := this W hw
  have hb := h.wbnd ho hk
  refine ⟨k, hk, fun r hr => ?_⟩
  have b := jv_at J n k.toNat r hv hr
  have inL : ∀ x : Int, 0 ≤ x → x < (n + k.toNat : Nat) → x ∈ L := fun x x0 x1 => by
    have hm := h.all.mem_iff.mpr (rgI_mem.mpr ⟨x0, by have := hb.2; omega⟩)
    rcases List.mem_append.mp hm with q | q
    · exact q
    · obtain ⟨y, hy, e⟩ := List.mem_map.mp q
      have := least y hy
      omega
  exact ⟨inL r.1 b.1 b.2.1, inL r.2 b.2.2.1 b.2.2.2⟩
theorem Nb.step {n : Nat} {J : Jn} {O L W : List Int} {R : Jn} (h : Nb n J O L W R) {k : Int} (k0 : 0 ≤ k) (hk : k ∈ W) {r : Int × Int} (hr : J[k.toNat]? = some r) {a b : Nat} (ha : L[a]? = some r.1) (hb : L[b]? = some r.2) {q : Int × Int} (hq : q = ((a : Int), (b : Int)) ∨ q = ((b : Int), (a : Int))) : Nb n J O (L ++ [(n : Int) + k]) (W.erase k) (R ++ [q]) := by
  have la := (List.getElem?_eq_some_iff.mp ha).1
  have lb := (List.getElem?_eq_some_iff.mp hb).1
  have hl := h.len
  refine ⟨?_, by rw [List.length_append, List.length_append, hl]; simp; omega, by rw [List.take_append_of_le_length (by omega), h.low], fun j q' hj => ?_⟩
  · refine List.Perm.trans ?_ h.all
    rw [List.append_assoc]
    refine List.Perm.append_left _ ?_
    show (((n : Int) + k) :: (W.erase k).map fun k => (n : Int) + k).Perm _
    exact ((List.perm_cons_erase hk).map fun k => (n : Int) + k).symm
  · by_cases w : j < R.length
    · rw [List.getElem?_append_left w] at hj
      obtain ⟨k', r', a', b', h1, h2, h3, h4, h5, h6, h7⟩ := h.rows j q' hj
      exact ⟨k', r', a', b', h1, by rw [List.getElem?_append_left (by omega)]; exact h2, by rw [List.getElem?_append_left (by omega)]; exact h3, by rw [List.getElem?_append_left (by omega)]; exact h4, h5, h6, h7⟩
    · have hj' : j = R.length := by
        have := (List.getElem?_eq_some_iff.mp hj).1
        rw [List.length_append] at this
        simp at this
        omega
      subst hj'
      rw [List.getElem?_append_right (Nat.le_refl _), Nat.sub_self] at hj
      cases hj
      refine ⟨k.toNat, r, a, b, hr, ?_, by rw [List.getElem?_append_left la]; exact ha, by rw [List.getElem?_append_left lb]; exact hb, by omega, by omega, hq⟩
      rw [← hl, List.getElem?_append_right (Nat.le_refl _), Nat.sub_self]
      show some ((n : Int) + k) = _
      congr 1
      omega
theorem perm_sub : ∀ (l m : List Int), l.Nodup → (∀ x ∈ l, x ∈ m) → m.length ≤ l.length → l.Perm m
  | [], m, _, _, h => by rw [List.length_eq_zero_iff.mp (Nat.le_zero.mp h)]
  | a :: l, m, nd, sub, h => by
    have nd' := List.nodup_cons.mp nd
    have p := List.perm_cons_erase (sub a List.mem_cons_self)
    have pl := p.length_eq
    rw [List.length_cons] at pl h
    exact (List.Perm.cons a (perm_sub l (m.erase a) nd'.2 (fun x hx => (List.mem_erase_of_ne (fun q => nd'.1 (by rw [← q]; exact hx))).mpr (sub x (List.mem_cons_of_mem _ hx))) (by omega))).trans p.symm
theorem at_inj {L : List Int} (h : L.Nodup) {i j : Nat} {x : Int} (hi : L[i]? = some x) (hj : L[j]? = some x) : i = j := by
  have a := (List.getElem?_eq_some_iff.mp hi)
  have b := (List.getElem?_eq_some_iff.mp hj)
  exact (List.getElem_inj (h₀ := a.1) (h₁ := b.1) h).mp (by rw [a.2, b.2])
/-- all rows told: a renumbering, and a joining -/
theorem Nb.ren {es : List En} {J : Jn} {O L : List Int} {R : Jn} (h : Nb es.length J O L [] R) (hJ : JOk es.length J) (hO : O.Perm (rgI es.length)) : ∃ φ, Ren es (O.map (gE es)) J R φ ∧ JOk es.length R := by
  have hall : L.Perm (rgI (es.length + J.length)) := by
    have := h.all
    rw [List.map_nil, List.append_nil] at this
    exact this
  have hnd : L.Nodup := hall.nodup_iff.mpr (rgI_nd _)
  have hol : O.length = es.length := by rw [hO.length_eq, rgI_len]
  have hll : L.length = es.length + J.length := by rw [hall.length_eq, rgI_len]
  have hrl : R.length = J.length := by have := h.len; omega
  let φ : Int → Int := fun y => ((L.idxOf y : Nat) : Int)
  have hφ : ∀ (j : Nat) (y : Int), L[j]? = some y → φ y = (j : Int) := fun j y hj => by
    have hm := List.mem_of_getElem? hj
    have : L[L.idxOf y]? = some y := by
      have hlt := List.idxOf_lt_length_of_mem hm
      rw [List.getElem?_eq_getElem hlt]
      exact congrArg some (List.getElem_idxOf hlt)
    show ((L.idxOf y : Nat) : Int) = _
    rw [at_inj hnd this hj]
  have hex : ∀ y : Int, 0 ≤ y → y < (es.length + J.length : Nat) → ∃ j : Nat, L[j]? = some y ∧ j < es.length + J.length := fun y y0 y1 => by
    have hm := hall.mem_iff.mpr (rgI_mem.mpr ⟨y0, y1⟩)
    obtain ⟨j, hj, e⟩ := List.getElem_of_mem hm
    exact ⟨j, by rw [List.getElem?_eq_getElem hj, e], by omega⟩
  have hOt : ∀ (j : Nat), j < es.length → O[j]? = L[j]? := fun j hj => by rw [← h.low, List.getElem?_take_of_lt hj]
  have hend : ∀ x : Int, 0 ≤ x → x < es.length → ∃ j : Nat, j < es.length ∧ L[j]? = some x ∧ O[j]? = some x := fun x x0 x1 => by
    have hm := hO.mem_iff.mpr (rgI_mem.mpr ⟨x0, x1⟩)
    obtain ⟨j, hj, e⟩ := List.getElem_of_mem hm
    have e' : O[j]? = some x := by rw [List.getElem?_eq_getElem hj, e]
    exact ⟨j, by omega, by rw [← hOt j (by omega), e'], e'⟩
  have hjt : ∀ (k : Nat) (r : Int × Int), J[k]? = some r → ∃ (j : Nat) (q : Int × Int), j < R.length ∧ R[j]? = some q ∧ L[es.length + j]? = some ((es.length + k : Nat) : Int) ∧ (q = (φ r.1, φ r.2) ∨ q = (φ r.2, φ r.1)) := fun k r hr => by
    have hk := (List.getElem?_eq_some_iff.mp hr).1
    obtain ⟨p, hp, hp1⟩ := hex ((es.length + k : Nat) : Int) (by omega) (by omega)
    have hp2 : es.length ≤ p := by
      by_cases w : es.length ≤ p
      · exact w
      · have e := hOt p (by omega)
        rw [hp] at e
        have := rgI_mem.mp (hO.mem_iff.mp (List.mem_of_getElem? e))
        omega
    obtain ⟨j, rfl⟩ : ∃ j, p = es.length + j := ⟨p - es.length, by omega⟩
    have hj : j < R.length := by omega
    obtain ⟨q, hq⟩ : ∃ q, R[j]? = some q := ⟨_, List.getElem?_eq_getElem hj⟩
    obtain ⟨k', r', a, b, h1, h2, h3, h4, h5, h6, h7⟩ := h.rows j q hq
    have ek : k' = k := by
      rw [hp] at h2
      have := Option.some.inj h2
      omega
    subst ek
    rw [hr] at h1
    cases h1
    exact ⟨j, q, hj, hq, hp, by rw [hφ a _ h3, hφ b _ h4]; exact h7⟩
  have pm : ∀ (M : List Int) (N : Nat), M.Perm (rgI N) → (∀ (j : Nat) (y : Int), M[j]? = some y → φ y = (j : Int)) → ((rgI N).map φ).Perm (rgI N) := fun M N hM hj => by
    refine ((hM.symm.map φ).trans ?_)
    have : M.map φ = rgI N := by
      have hl : M.length = N := by rw [hM.length_eq, rgI_len]
      apply List.ext_getElem?
      intro i
      by_cases hi : i < N
      · have e : M[i]? = some M[i] := List.getElem?_eq_getElem (by omega)
        rw [List.getElem?_map, e]
        unfold rgI
        rw [List.getElem?_map, List.getElem?_range hi]
        exact congrArg some (hj i _ e)
      · rw [List.getElem?_eq_none (by rw [List.length_map]; omega), List.getElem?_eq_none (by rw [rgI_len]; omega)]
    rw [this]
  have ren : Ren es (O.map (gE es)) J R φ := by
    refine ⟨by rw [List.length_map, hol], hrl, fun x x0 x1 => ?_, fun i r hr => ?_, pm O _ hO fun j y hj => ?_, pm L _ hall hφ⟩
    · obtain ⟨j, hj, h1, h2⟩ := hend x x0 x1
      rw [hφ j x h1]
      refine ⟨by omega, by omega, ?_⟩
      show ((O.map (gE es))[((j : Nat) : Int).toNat]?).getD _ = _
      rw [Int.toNat_natCast, List.getElem?_map, h2]
      rfl
    · obtain ⟨j, q, hj, hq, hp, hs⟩ := hjt i r hr
      exact ⟨j, q, hq, by rw [hφ _ _ hp, List.length_map, hol], hs⟩
    · have hl := (List.getElem?_eq_some_iff.mp hj).1
      refine hφ j y ?_
      rw [← hOt j (by omega)]
      exact hj
  refine ⟨φ, ren, jok_of ?_ (by rw [hrl]; exact hJ.len) ?_⟩
  · have : ∀ (R : Jn) (m : Nat), (∀ (j : Nat) (q : Int × Int), R[j]? = some q → 0 ≤ q.1 ∧ q.1 < (m + j : Nat) ∧ 0 ≤ q.2 ∧ q.2 < (m + j : Nat)) → JV m R := fun R => by
      induction R with
      | nil => intro _ _; trivial
      | cons q R ih =>
        intro m hh
        have h0 := hh 0 q rfl
        exact ⟨by simpa using h0, ih (m + 1) fun j q' hj => by
          have := hh (j + 1) q' hj
          rw [show m + 1 + j = m + (j + 1) by omega]
          exact this⟩
    refine this R es.length fun j q hq => ?_
    obtain ⟨k, r, a, b, _, _, _, _, h5, h6, h7⟩ := h.rows j q hq
    rcases h7 with rfl | rfl
    · exact ⟨by show (0 : Int) ≤ a; omega, by show (a : Int) < _; omega, by show (0 : Int) ≤ b; omega, by show (b : Int) < _; omega⟩
    · exact ⟨by show (0 : Int) ≤ b; omega, by show (b : Int) < _; omega, by show (0 : Int) ≤ a; omega, by show (a : Int) < _; omega⟩
  · have fl : ∀ x ∈ sds J, φ x ∈ sds R := fun x hx => by
      obtain ⟨i, r, hr, hs⟩ := mem_sds.mp hx
      obtain ⟨j, q, hj, hq, hp, hw⟩ := hjt i r hr
      refine mem_sds.mpr ⟨j, q, hq, ?_⟩
      rcases hs with rfl | rfl <;> rcases hw with rfl | rfl <;> simp
    have inj : ∀ x ∈ sds J, ∀ y ∈ sds J, φ x = φ y → x = y := fun x hx y hy e => by
      have bx := sds_bnd hJ x hx
      have by' := sds_bnd hJ y hy
      obtain ⟨i, hi, _⟩ := hex x bx.1 bx.2
      obtain ⟨j, hj, _⟩ := hex y by'.1 by'.2
      rw [hφ i x hi, hφ j y hj] at e
      have : i = j := by omega
      subst this
      rw [hi] at hj
      exact Option.some.inj hj
    have nd : ((sds J).map φ).Nodup := by
      have h0 := hJ.nd
      unfold List.Nodup at h0 ⊢
      rw [List.pairwise_map]
      have key : ∀ l : List Int, (∀ x ∈ l, x ∈ sds J) → l.Pairwise (· ≠ ·) → l.Pairwise fun a b => φ a ≠ φ b := fun l => by
        induction l with
        | nil => intro _ _; exact .nil
        | cons a l ih =>
          intro hin hp
          obtain ⟨h1, h2⟩ := List.pairwise_cons.mp hp
          exact List.pairwise_cons.mpr ⟨fun b hb e => h1 b hb (inj a (hin a List.mem_cons_self) b (hin b (List.mem_cons_of_mem _ hb)) e), ih (fun x hx => hin x (List.mem_cons_of_mem _ hx)) h2⟩
      exact key _ (fun _ hx => hx) h0
    have ll : ∀ J : Jn, (sds J).length = 2 * J.length := fun J => by
      induction J with
      | nil => rfl
      | cons r J ih =>
        show (r.1 :: r.2 :: sds J).length = _
        rw [List.length_cons, List.length_cons, ih, List.length_cons]
        omega
    have pe : ((sds J).map φ).Perm (sds R) := perm_sub _ _ nd (fun y hy => by
      obtain ⟨x, hx, rfl⟩ := List.mem_map.mp hy
      exact fl x hx) (by rw [List.length_map, ll, ll, hrl]; exact Nat.le_refl _)
    exact pe.nodup_iff.mp nd
theorem while_i {c : PTs'} {body : PSt} {K : PK'} (Inv : Nat → List SV → Prop) (hs : ∀ n env, Inv n env → ∀ N : List SV → Prop, (∀ m e, n = m + 1 → Inv m e → N e) → c env fun b => if b = true then body env { nx := N, rt := K.rt, bk := K.nx, ct := N } else K.nx env) : ∀ (n : Nat) (env : List SV), Inv n env → whileN c body K (n + 1) env
  | 0, env, h => whileN_i (hs 0 env h _ fun m e q => by omega)
  | n + 1, env, h => whileN_i (hs (n + 1) env h _ fun m e q hm => by
      cases q
      exact while_i Inv hs n e hm)
theorem sWhile_i {c : PTs'} {body : PSt} {env : List SV} {K : PK'} (Inv : Nat → List SV → Prop) (n : Nat) (h : Inv n env) (hs : ∀ n env, Inv n env → ∀ N : List SV → Prop, (∀ m e, n = m + 1 → Inv m e → N e) → c env fun b => if b = true then body env { nx := N, rt := K.rt, bk := K.nx, ct := N } else K.nx env) : sWhile c body env K := ⟨n + 1, while_i Inv hs n env h⟩
theorem plnI (ns : List Int) {n : Nat} : plnA (n + 1) (ns.map D.int) = true := by
  rw [plnA_iff]
  intro x hx
  obtain ⟨a, _, rfl⟩ := List.mem_map.mp hx
  rfl
/-! ### the law's renumbering, read -/
theorem draws_perm {A W R : List Int} {t : Nat} (h : (A ++ W).Perm R) (ht : t < W.length) : (A ++ [W[t]] ++ W.eraseIdx t).Perm R := by
  refine List.Perm.trans ?_ h
  rw [List.append_assoc]
  exact List.Perm.append_left _ (perm_er (List.getElem?_eq_getElem ht)).symm
theorem rgD (n : Nat) : rangeD 0 ((n : Int) - 0).toNat = (rgI n).map D.int := by
  unfold rangeD rgI
  rw [List.map_map, show ((n : Int) - 0).toNat = n by omega]
  apply List.map_congr_left
  intro i _
  show D.int (0 + (i : Int)) = D.int (i : Int)
  rw [Int.zero_add]
theorem eDic0_i {env : List SV} {k : D → Prop} (h : k (.dic [])) : eDic0 env k := h
def rdy (J : Jn) (L : List Int) (k : Int) : Bool := decide (((J[k.toNat]?).getD (0, 0)).1 ∈ L) && decide (((J[k.toNat]?).getD (0, 0)).2 ∈ L)
def nmE (deck E J : D) (n : Int) (O : List Int) (v6 : SV) (kvs : List (Key × D)) (v8 v9 : SV) (W : List Int) (R : Jn) (v12 v13 : SV) : List SV :=
  [SV.val deck, SV.val E, SV.val J, SV.val (.int n), SV.val (.lst []), SV.val (.lst (O.map D.int)), v6, SV.own (.dic kvs), v8, v9, SV.own (.lst (W.map D.int)), SV.own (.lst (R.map jD)), v12, v13]
set_option maxHeartbeats 4000000 in
theorem numbered_i {es : List En} {J : Jn} {k : D → Prop} (h1 : 1 ≤ es.length) (n1 : es.length ≤ 24) (hJ : JOk es.length J)
    (h : ∀ (O : List Int) (R : Jn) (φ : Int → Int), O.length = es.length → (∀ x ∈ O, 0 ≤ x ∧ x < es.length) → Ren es (O.map (gE es)) J R φ → JOk es.length R → k (.tup [.tup ((O.map (gE es)).map enD), .tup (R.map jD)])) : wp__law_numbered [.deck 3, .tup (es.map enD), .tup (J.map jD)] k := by
  have hjl := hJ.len
  unfold wp__law_numbered wpOf
  walk_at "psenv"
  unfold P__law_numbered
  repeat walk_at "ps"
  rw [List.length_map]
  refine dRg_i (by omega) ?_
  rw [rgD]
  repeat walk_at "ps"
  refine mLc_i ?_
  repeat walk_at "ps"
  refine rgK1_i (by omega) (by omega) ⟨by simp [noOwn], ?_⟩
  refine lcM_i (fun i env acc => ∃ A W : List Int, A.length = i ∧ (A ++ W).Perm (rgI es.length) ∧ acc = A.map D.int ∧ env = [SV.val (.deck 3), SV.val (.tup (es.map enD)), SV.val (.tup (J.map jD)), SV.val (.int (es.length : Int)), SV.own (.lst (W.map D.int)), SV.no, SV.no, SV.no, SV.no, SV.no, SV.no, SV.no, SV.no, SV.no]) _ 0 ⟨[], rgI es.length, rfl, List.Perm.refl _, rfl, rfl⟩ ?_ ?_
  · rintro i d env acc hd ⟨A, W, hA, hp, rfl, rfl⟩ B hB
    have hi := (List.getElem?_eq_some_iff.mp hd).1
    rw [rangeD_len] at hi
    rw [Nat.zero_add] at hA hB
    have hl := hp.length_eq
    rw [List.length_append, rgI_len] at hl
    repeat walk_at "ps"
    rw [List.length_map]
    refine draw_i (by omega) (by omega) fun t t0 t1 => ?_
    repeat walk_at "ps"
    have ht : t.toNat < W.length := by omega
    have hw : W[t.toNat]? = some W[t.toNat] := List.getElem?_eq_getElem ht
    refine ⟨by omega, t.toNat, .int W[t.toNat], seqIx t0 t1, by rw [List.getElem?_map, hw]; rfl, ?_⟩
    refine hB _ _ ⟨by rw [List.length_map]; omega, A ++ [W[t.toNat]], W.eraseIdx t.toNat, by simp [hA], draws_perm hp ht, by rw [List.map_append]; rfl, ?_⟩
    rw [er_map]
    rfl
  rintro env acc ⟨O, W, hA, hp, rfl, rfl⟩
  rw [rangeD_len, Nat.zero_add] at hA
  have hW : W = [] := by
    have hl := hp.length_eq
    rw [List.length_append, rgI_len] at hl
    exact List.length_eq_zero_iff.mp (by omega)
  subst hW
  rw [List.append_nil] at hp
  have hol : O.length = es.length := by rw [hp.length_eq, rgI_len]
  repeat walk_at "ps"
  refine eDic0_i ?_
  repeat walk_at "ps"
  refine forP_i (fun i env => ∃ (kvs : List (Key × D)) (v8 v9 : SV), Kd kvs (O.take i) ∧ (v9 = SV.no ∨ ∃ i, v9 = SV.val (.int i)) ∧ env = [SV.val (.deck 3), SV.val (.tup (es.map enD)), SV.val (.tup (J.map jD)), SV.val (.int (es.length : Int)), SV.val (.lst []), SV.val (.lst (O.map D.int)), SV.no, SV.own (.dic kvs), v8, v9, SV.no, SV.no, SV.no, SV.no]) _ 0 ⟨[], _, _, Kd.nil, .inl rfl, rfl⟩ ?_ ?_
  · rintro i d env hd ⟨kvs, v8, v9, hk, _, rfl⟩ N hN
    obtain ⟨y, hy, rfl⟩ := enumD_get hd
    rw [List.getElem?_map] at hy
    obtain ⟨x, hx, rfl⟩ := Option.map_eq_some_iff.mp hy
    rw [Nat.zero_add] at hN hk
    have hil := (List.getElem?_eq_some_iff.mp hx).1
    have hnd : O.Nodup := hp.nodup_iff.mpr (rgI_nd _)
    have hni : x ∉ O.take i := fun q => by
      obtain ⟨j, hj, e⟩ := List.getElem_of_mem q
      rw [List.length_take] at hj
      have e2 : O[j]? = some x := by
        rw [← List.getElem?_take_of_lt (show j < i by omega), List.getElem?_eq_getElem (by rw [List.length_take]; omega), e]
      have := at_inj hnd hx e2
      omega
    have hp' := hk.put hni
    rw [List.length_take, Nat.min_eq_left (by omega)] at hp'
    have hs : O.take (i + 1) = O.take i ++ [x] := by rw [List.take_succ, hx]; rfl
    repeat walk_at "ps"
    have hlen := hk.len
    rw [List.length_take] at hlen
    refine ⟨by omega, ?_⟩
    repeat walk_at "ps"
    exact hN _ ⟨putD kvs (.inl x) (.int (i : Int)), SV.val (.int (i : Int)), SV.val (.int x), by rw [hs]; exact hp', .inr ⟨x, rfl⟩, by rw [Int.zero_add]; rfl⟩
  rintro env ⟨kvs0, v8, v9, hk0, h9, rfl⟩
  rw [show 0 + (enumD 0 (O.map D.int)).length = O.length by simp [enumD], List.take_length] at hk0
  repeat walk_at "ps"
  rw [List.length_map]
  refine dRg_i (by omega) ?_
  rw [rgD]
  repeat walk_at "ps"
  have start : Nb es.length J O O (rgI J.length) [] := by
    refine ⟨?_, by rw [hol]; rfl, List.take_of_length_le (by omega), fun j q hq => by simp at hq⟩
    have : rgI (es.length + J.length) = rgI es.length ++ (rgI J.length).map fun k => (es.length : Int) + k := by
      generalize J.length = m
      induction m with
      | zero => simp [rgI]
      | succ m ih => rw [← Nat.add_assoc, rgI_succ, ih, rgI_succ, List.map_append, List.append_assoc]; rfl
    rw [this]
    exact hp.append_right _
  have hO : ∀ (L : List Int), L.take es.length = O → ∀ x ∈ rgI es.length, x ∈ L := fun L hL x hx => List.mem_of_mem_take (by rw [hL]; exact hp.mem_iff.mpr hx)
  refine sWhile_i (fun f env => ∃ (L W : List Int) (R : Jn) (kvs : List (Key × D)) (v6 v12 v13 : SV), Nb es.length J O L W R ∧ Kd kvs L ∧ W.length = f ∧ (v6 = SV.no ∨ ∃ i, v6 = SV.val (.int i)) ∧ env = nmE (.deck 3) (.tup (es.map enD)) (.tup (J.map jD)) (es.length : Int) O v6 kvs v8 v9 W R v12 v13) J.length ⟨O, rgI J.length, [], kvs0, _, _, _, start, hk0, rgI_len _, .inl rfl, rfl⟩ ?_
  rintro f env ⟨L, W, R, kvs, v6, v12, v13, hb, hk, hf, h6, rfl⟩ N hN
  have hll := hb.len
  have htot := hb.all.length_eq
  rw [List.length_append, List.length_map, rgI_len] at htot
  unfold nmE
  repeat walk_at "ps"
  refine dNe_i (by simp only [pln]; exact plnI _) rfl fun c hc => ?_
  cases c with
  | true =>
    have hw : W = [] := by
      have := hc.mp rfl
      cases W with
      | nil => rfl
      | cons a l => cases this
    subst hw
    obtain ⟨φ, hren, hok⟩ := hb.ren hJ hp
    repeat walk_at "ps"
    refine ⟨by rcases h9 with rfl | ⟨_, rfl⟩ <;> simp [noOwn], ?_⟩
    refine lcP_m D.int (fun x => enD (gE es x)) O (by omega) ?_ ?_
    · intro x hx A B hA
      have hb := rgI_mem.mp (hp.mem_iff.mp hx)
      repeat walk_at "ps"
      refine dIx_t (d := enD (gE es x)) (at_nat hb.1 (by rw [List.getElem?_map, List.getElem?_eq_getElem (by omega)]; unfold gE; rw [List.getElem?_eq_getElem (by omega)]; rfl)) ?_
      exact hA
    repeat walk_at "ps"
    have := h O R φ hol (fun x hx => rgI_mem.mp (hp.mem_iff.mp hx)) hren hok
    rw [List.map_map] at this
    exact this
  | false =>
    have hw : W ≠ [] := fun e => by
      have := hc.mpr (by rw [e]; rfl)
      cases this
    obtain ⟨k0, hk0W, hk0r⟩ := hb.ready hJ.v (hO L hb.low) hw
    have hbd : ∀ k ∈ W, 0 ≤ k ∧ k < J.length := fun k hk => hb.wbnd (hO L hb.low) hk
    repeat walk_at "ps"
    refine eLcO_i rfl ⟨by rcases h6 with rfl | ⟨_, rfl⟩ <;> simp [noOwn], ?_⟩
    refine lcP_flt D.int (fun k => rdy J L k) D.int W (by omega) ?_ ?_
    · intro y hy A B hA hB
      have hyb := hbd y hy
      obtain ⟨r, hr⟩ : ∃ r, J[y.toNat]? = some r := ⟨_, List.getElem?_eq_getElem (by omega)⟩
      have hrd : rdy J L y = (decide (r.1 ∈ L) && decide (r.2 ∈ L)) := by unfold rdy; rw [hr]; rfl
      have hat : atI (J.map jD) y = some (jD r) := at_nat hyb.1 (by rw [List.getElem?_map, hr]; rfl)
      rw [hrd] at hA hB
      have e6 : ∀ v : SV, (v = SV.no ∨ ∃ i, v = SV.val (.int i)) → True := fun _ _ => trivial
      repeat walk_at "ps"
      refine dIx_t hat ?_
      repeat walk_at "ps"
      rw [hk.isSome]
      by_cases q1 : r.1 ∈ L
      · rw [decide_eq_true q1] at hA hB ⊢
        repeat walk_at "ps"
        refine dIx_t hat ?_
        repeat walk_at "ps"
        rw [hk.isSome]
        by_cases q2 : r.2 ∈ L
        · rw [decide_eq_true q2] at hA hB ⊢
          repeat walk_at "ps"
          exact hA rfl
        · rw [decide_eq_false q2] at hA hB ⊢
          repeat walk_at "ps"
          exact hB rfl
      · rw [decide_eq_false q1] at hA hB ⊢
        repeat walk_at "ps"
        exact hB rfl
    have hne : 0 < (W.filter fun k => rdy J L k).length := by
      refine List.length_pos_iff.mpr fun e => ?_
      have hm : k0 ∈ W.filter fun k => rdy J L k := by
        refine List.mem_filter.mpr ⟨hk0W, ?_⟩
        have hyb := hbd k0 hk0W
        obtain ⟨r, hr⟩ : ∃ r, J[k0.toNat]? = some r := ⟨_, List.getElem?_eq_getElem (by omega)⟩
        obtain ⟨a, b⟩ := hk0r r hr
        unfold rdy
        rw [hr]
        show (decide (r.1 ∈ L) && decide (r.2 ∈ L)) = true
        rw [decide_eq_true a, decide_eq_true b]
        rfl
      rw [e] at hm
      cases hm
    have hfl := List.length_filter_le (fun k => rdy J L k) W
    have hmem : ∀ y ∈ W.filter (fun k => rdy J L k), y ∈ W ∧ rdy J L y = true := fun y hy => List.mem_filter.mp hy
    generalize (W.filter fun k => rdy J L k) = Y at hne hfl hmem ⊢
    repeat walk_at "ps"
    rw [List.length_map]
    refine draw_i (by omega) (by omega) fun t t0 t1 => ?_
    have ht : t.toNat < Y.length := by omega
    obtain ⟨hyW, hyr⟩ := hmem Y[t.toNat] (List.getElem_mem _)
    have hyat : atI (Y.map D.int) t = some (.int Y[t.toNat]) := at_nat t0 (by rw [List.getElem?_map, List.getElem?_eq_getElem ht]; rfl)
    generalize Y[t.toNat] = y at hyW hyr hyat
    have hyb := hbd y hyW
    obtain ⟨r, hr⟩ : ∃ r, J[y.toNat]? = some r := ⟨_, List.getElem?_eq_getElem (by omega)⟩
    have hat : atI (J.map jD) y = some (jD r) := at_nat hyb.1 (by rw [List.getElem?_map, hr]; rfl)
    have hrd : rdy J L y = (decide (r.1 ∈ L) && decide (r.2 ∈ L)) := by unfold rdy; rw [hr]; rfl
    rw [hrd, Bool.and_eq_true] at hyr
    obtain ⟨a, ha, ea⟩ := List.getElem_of_mem (of_decide_eq_true hyr.1)
    obtain ⟨b, hbl, eb⟩ := List.getElem_of_mem (of_decide_eq_true hyr.2)
    have ga : L[a]? = some r.1 := by rw [List.getElem?_eq_getElem ha, ea]
    have gb : L[b]? = some r.2 := by rw [List.getElem?_eq_getElem hbl, eb]
    have va := hk.yes a r.1 ga
    have vb := hk.yes b r.2 gb
    refine dIx_l hyat ?_
    repeat walk_at "ps"
    refine sRemove_v rfl rfl hyW ?_
    repeat walk_at "ps"
    refine dIx_t hat ?_
    repeat walk_at "ps"
    refine dDget_i va ?_
    repeat walk_at "ps"
    refine dIx_t hat ?_
    repeat walk_at "ps"
    refine dDget_i vb ?_
    repeat walk_at "ps"
    refine draw_i (by decide) (by decide) fun u u0 u1 => ?_
    have hny : (es.length : Int) + y ∉ L := fun q => absurd rfl ((List.nodup_append.mp hb.nd).2.2 _ q _ (List.mem_map_of_mem (f := fun k => (es.length : Int) + k) hyW))
    have hput := hk.put hny
    have hklen := hk.len
    have hwl : (W.erase y).length = W.length - 1 := List.length_erase_of_mem hyW
    have hwp : 0 < W.length := List.length_pos_iff.mpr hw
    have fin : ∀ q : Int × Int, (q = ((a : Int), (b : Int)) ∨ q = ((b : Int), (a : Int))) → ∀ v13' : SV, N (nmE (.deck 3) (.tup (es.map enD)) (.tup (J.map jD)) (es.length : Int) O (SV.val (.int y)) (putD kvs (.inl ((es.length : Int) + y)) (.int (L.length : Nat))) v8 v9 (W.erase y) (R ++ [q]) (SV.val (.lst (Y.map D.int))) v13') := fun q hq v13' =>
      hN (f - 1) _ (by omega) ⟨_, _, _, _, _, _, _, hb.step hyb.1 hyW hr ga gb hq, hput, by omega, .inr ⟨y, rfl⟩, rfl⟩
    have two : u = 0 ∨ u = 1 := by omega
    have val : (es.length : Int) + ((R.map jD ++ [jD ((0 : Int), (0 : Int))]).length : Nat) - 1 = (L.length : Nat) := by rw [List.length_append, List.length_map]; show (es.length : Int) + ((R.length + 1 : Nat) : Int) - 1 = _; omega
    rcases two with rfl | rfl
    · refine dIx_l (d := jD ((a : Int), (b : Int))) rfl ⟨by rw [List.length_map]; omega, ?_⟩
      repeat walk_at "ps"
      refine ⟨by omega, ?_⟩
      repeat walk_at "ps"
      have := fin ((a : Int), (b : Int)) (.inl rfl) (SV.val (jD ((a : Int), (b : Int))))
      unfold nmE at this
      rw [List.map_append] at this
      rw [show (es.length : Int) + ((R.map jD ++ [jD ((a : Int), (b : Int))]).length : Nat) - 1 = (L.length : Nat) by rw [← val, List.length_append, List.length_append]; rfl]
      exact this
    · refine dIx_l (d := jD ((b : Int), (a : Int))) rfl ⟨by rw [List.length_map]; omega, ?_⟩
      repeat walk_at "ps"
      refine ⟨by omega, ?_⟩
      repeat walk_at "ps"
      have := fin ((b : Int), (a : Int)) (.inr rfl) (SV.val (jD ((a : Int), (b : Int))))
      unfold nmE at this
      rw [List.map_append] at this
      rw [show (es.length : Int) + ((R.map jD ++ [jD ((b : Int), (a : Int))]).length : Nat) - 1 = (L.length : Nat) by rw [← val, List.length_append, List.length_append]; rfl]
      exact this
/-! ### the two sides of the root by themselves -/
abbrev Ti (n : Nat) (J : Jn) (x : Int) : List Int := at? (ext (idx n) J) x
theorem ti_row {n : Nat} {J : Jn} (hv : JV n J) {i : Nat} {r : Int × Int} (hr : J[i]? = some r) : Ti n J ((n + i : Nat) : Int) = Ti n J r.1 ++ Ti n J r.2 := by
  have e := ext_at J (idx n) i r (by rw [idx_len]; exact hv) hr
  rw [idx_len] at e
  show (((ext (idx n) J)[((n + i : Nat) : Int).toNat]?).getD [] : List Int) = _
  rw [Int.toNat_natCast, e.1]
  rfl
theorem ti_ne {n : Nat} {J : Jn} (hv : JV n J) {x : Int} (x0 : 0 ≤ x) (x1 : x < (n + J.length : Nat)) : Ti n J x ≠ [] := by
  refine ext_ne J (idx n) (by rw [idx_len]; exact hv) (fun l q => ?_) _ (at_mem x0 (by rw [ext_len, idx_len]; omega)).1
  unfold idx at q
  obtain ⟨e, _, rfl⟩ := List.mem_map.mp q
  exact List.cons_ne_nil _ _
theorem ti_end {n : Nat} {J : Jn} {x : Int} (x0 : 0 ≤ x) (x1 : x < n) : Ti n J x = [x] := by
  show at? (ext (idx n) J) x = _
  rw [at_ext (by rw [idx_len]; exact x1) (by rw [idx_len]; omega), at_idx x0 x1]
def Sub (n : Nat) (J : Jn) (x w : Int) : Prop := ∀ y ∈ Ti n J x, y ∈ Ti n J w
theorem par_of {n : Nat} {J : Jn} (hJ : JOk n J) {x : Int} (x0 : 0 ≤ x) (x1 : x < (n : Int) + J.length - 1) : ∃ (i : Nat) (r : Int × Int), J[i]? = some r ∧ (x = r.1 ∨ x = r.2) ∧ x < ((n + i : Nat) : Int) ∧ i < J.length := by
  by_cases q : x ∈ sds J
  · obtain ⟨i, r, hr, hs⟩ := mem_sds.mp q
    have b := jv_at J n i r hJ.v hr
    exact ⟨i, r, hr, hs, by rcases hs with rfl | rfl <;> omega, (List.getElem?_eq_some_iff.mp hr).1⟩
  · have := root_only hJ x0 (by omega) q
    omega
theorem sub_par {n : Nat} {J : Jn} (hJ : JOk n J) {i : Nat} {r : Int × Int} (hr : J[i]? = some r) {x : Int} (hs : x = r.1 ∨ x = r.2) : Sub n J x ((n + i : Nat) : Int) := fun y hy => by
  rw [ti_row hJ.v hr]
  rcases hs with rfl | rfl
  · exact List.mem_append_left _ hy
  · exact List.mem_append_right _ hy
theorem lam {n : Nat} {J : Jn} (hJ : JOk n J) {r : Int × Int} (hr : J[J.length - 1]? = some r) (j1 : 1 ≤ J.length) : ∀ (f : Nat) (x : Int), n + J.length - x.toNat ≤ f → 0 ≤ x → x < (n : Int) + J.length - 1 → Sub n J x r.1 ∨ Sub n J x r.2
  | 0, x, hf, x0, x1 => by omega
  | f + 1, x, hf, x0, x1 => by
    obtain ⟨i, q, hq, hs, hx, hi⟩ := par_of hJ x0 x1
    by_cases w : i = J.length - 1
    · subst w
      rw [hr] at hq
      cases hq
      rcases hs with rfl | rfl
      · exact .inl fun y hy => hy
      · exact .inr fun y hy => hy
    · have sp := sub_par hJ hq hs
      rcases lam hJ hr j1 f ((n + i : Nat) : Int) (by omega) (by omega) (by omega) with h | h
      · exact .inl fun y hy => h y (sp y hy)
      · exact .inr fun y hy => h y (sp y hy)
theorem dis {n : Nat} {J : Jn} (hJ : JOk n J) {r : Int × Int} (hr : J[J.length - 1]? = some r) (j1 : 1 ≤ J.length) {y : Int} (h1 : y ∈ Ti n J r.1) (h2 : y ∈ Ti n J r.2) : False := by
  have nd := at_nodup J n ((n + (J.length - 1) : Nat) : Int) hJ.nd hJ.v (by omega) (by omega)
  rw [show at? (ext (idx n) J) ((n + (J.length - 1) : Nat) : Int) = Ti n J r.1 ++ Ti n J r.2 from ti_row hJ.v hr] at nd
  exact absurd rfl ((List.nodup_append.mp nd).2.2 y h1 y h2)
/-- the same ends beneath, on the knots of P alone -/
theorem lx_isoP {es es' : List En} {J J' : Jn} (hv : JV es.length J) (hv' : JV es'.length J') (φ : Int → Int) (P : Int → Prop) (base : ∀ x : Int, P x → 0 ≤ x → x < es.length → ∀ p, p ∈ at? (Lx es' J') (φ x) ↔ p ∈ at? (Lx es J) x)
    (row : ∀ (i : Nat) (r : Int × Int), J[i]? = some r → P ((es.length + i : Nat) : Int) → P r.1 ∧ P r.2 ∧ ∃ i' : Nat, J'[i']? = some (φ r.1, φ r.2) ∧ φ ((es.length + i : Nat) : Int) = ((es'.length + i' : Nat) : Int)) :
    ∀ (m : Nat) (x : Int), x.toNat < m → 0 ≤ x → x < (es.length + J.length : Nat) → P x → ∀ p, p ∈ at? (Lx es' J') (φ x) ↔ p ∈ at? (Lx es J) x
  | 0, x, hm, _, _, _, _ => absurd hm (Nat.not_lt_zero _)
  | m + 1, x, hm, x0, x1, hP, p => by
    by_cases q : x < es.length
    · exact base x hP x0 q p
    · obtain ⟨i, rfl⟩ : ∃ i : Nat, x = ((es.length + i : Nat) : Int) := ⟨(x - es.length).toNat, by omega⟩
      have hi : i < J.length := by omega
      obtain ⟨r, hr⟩ : ∃ r, J[i]? = some r := ⟨_, List.getElem?_eq_getElem hi⟩
      obtain ⟨e, b1, b2, b3, b4⟩ := lx_row hv hr
      obtain ⟨p1, p2, i', hr', hφ⟩ := row i r hr hP
      have e' := (lx_row hv' hr').1
      have i1 := lx_isoP hv hv' φ P base row m r.1 (by omega) b1 (by omega) p1 p
      have i2 := lx_isoP hv hv' φ P base row m r.2 (by omega) b3 (by omega) p2 p
      rw [hφ, e', e, List.mem_append, List.mem_append, i1, i2]
/-- what has been told of a side, rows ahead of i looked at -/
structure Sd8 (n : Nat) (J : Jn) (b : List Int) (i : Nat) (L : List Int) (R : Jn) : Prop where
  nd : L.Nodup
  mem : ∀ x, x ∈ L ↔ x ∈ b ∨ ∃ k : Nat, k < i ∧ k < J.length ∧ x = ((n + k : Nat) : Int) ∧ ∀ y ∈ Ti n J x, y ∈ b
  len : L.length = b.length + R.length
  low : L.take b.length = b
  rows : ∀ (j : Nat) (q : Int × Int), R[j]? = some q → ∃ (k : Nat) (r : Int × Int) (u v : Nat), J[k]? = some r ∧ L[b.length + j]? = some ((n + k : Nat) : Int) ∧ L[u]? = some r.1 ∧ L[v]? = some r.2 ∧ u < b.length + j ∧ v < b.length + j ∧ q = ((u : Int), (v : Int))
theorem Sd8.skip {n : Nat} {J : Jn} {b L : List Int} {i : Nat} {R : Jn} (h : Sd8 n J b i L R) (hn : ¬ ∀ y ∈ Ti n J ((n + i : Nat) : Int), y ∈ b) : Sd8 n J b (i + 1) L R := by
  refine ⟨h.nd, fun x => ?_, h.len, h.low, h.rows⟩
  rw [h.mem]
  constructor
  · rintro (q | ⟨k, h1, h2, h3, h4⟩)
    · exact .inl q
    · exact .inr ⟨k, by omega, h2, h3, h4⟩
  · rintro (q | ⟨k, h1, h2, h3, h4⟩)
    · exact .inl q
    · refine .inr ⟨k, ?_, h2, h3, h4⟩
      by_cases w : k = i
      · subst w
        exact absurd (by rw [← h3]; exact h4) hn
      · omega
theorem Sd8.sides {n : Nat} {J : Jn} {b L : List Int} {i : Nat} {R : Jn} (h : Sd8 n J b i L R) (hv : JV n J) {r : Int × Int} (hr : J[i]? = some r) (hy : ∀ y ∈ Ti n J ((n + i : Nat) : Int), y ∈ b) : r.1 ∈ L ∧ r.2 ∈ L := by
  have bb := jv_at J n i r hv hr
  rw [ti_row hv hr] at hy
  have go : ∀ x : Int, 0 ≤ x → x < (n + i : Nat) → (∀ y ∈ Ti n J x, y ∈ b) → x ∈ L := fun x x0 x1 hx => by
    rw [h.mem]
    by_cases q : x < n
    · refine .inl (hx x ?_)
      rw [ti_end x0 q]
      exact List.mem_singleton_self _
    · have hi := (List.getElem?_eq_some_iff.mp hr).1
      exact .inr ⟨(x - n).toNat, by omega, by omega, by omega, hx⟩
  exact ⟨go r.1 bb.1 bb.2.1 fun y q => hy y (List.mem_append_left _ q), go r.2 bb.2.2.1 bb.2.2.2 fun y q => hy y (List.mem_append_right _ q)⟩
theorem Sd8.fresh {n : Nat} {J : Jn} {b L : List Int} {i : Nat} {R : Jn} (h : Sd8 n J b i L R) (hb : ∀ x ∈ b, x < (n : Int)) : ((n + i : Nat) : Int) ∉ L := fun q => by
  rcases (h.mem _).mp q with w | ⟨k, h1, _, h3, _⟩
  · have := hb _ w
    omega
  · omega
theorem Sd8.step {n : Nat} {J : Jn} {b L : List Int} {i : Nat} {R : Jn} (h : Sd8 n J b i L R) (hb : ∀ x ∈ b, x < (n : Int)) {r : Int × Int} (hr : J[i]? = some r) (hy : ∀ y ∈ Ti n J ((n + i : Nat) : Int), y ∈ b) {u v : Nat} (hu : L[u]? = some r.1) (hv : L[v]? = some r.2) : Sd8 n J b (i + 1) (L ++ [((n + i : Nat) : Int)]) (R ++ [((u : Int), (v : Int))]) := by
  have lu := (List.getElem?_eq_some_iff.mp hu).1
  have lv := (List.getElem?_eq_some_iff.mp hv).1
  have hl := h.len
  have hi := (List.getElem?_eq_some_iff.mp hr).1
  refine ⟨?_, fun x => ?_, by rw [List.length_append, List.length_append, hl]; simp; omega, by rw [List.take_append_of_le_length (by omega), h.low], fun j q' hj => ?_⟩
  · refine List.nodup_append.mpr ⟨h.nd, List.nodup_cons.mpr ⟨List.not_mem_nil, List.nodup_nil⟩, fun x hx y hy' => ?_⟩
    rw [List.mem_singleton.mp hy']
    exact fun e => h.fresh hb (by rw [← e]; exact hx)
  · rw [List.mem_append, h.mem, List.mem_singleton]
    constructor
    · rintro ((q | ⟨k, h1, h2, h3, h4⟩) | q)
      · exact .inl q
      · exact .inr ⟨k, by omega, h2, h3, h4⟩
      · exact .inr ⟨i, by omega, hi, q, by rw [q]; exact hy⟩
    · rintro (q | ⟨k, h1, h2, h3, h4⟩)
      · exact .inl (.inl q)
      · by_cases w : k = i
        · exact .inr (by rw [h3, w])
        · exact .inl (.inr ⟨k, by omega, h2, h3, h4⟩)
  · by_cases w : j < R.length
    · rw [List.getElem?_append_left w] at hj
      obtain ⟨k', r', a', b', h1, h2, h3, h4, h5, h6, h7⟩ := h.rows j q' hj
      exact ⟨k', r', a', b', h1, by rw [List.getElem?_append_left (by omega)]; exact h2, by rw [List.getElem?_append_left (by omega)]; exact h3, by rw [List.getElem?_append_left (by omega)]; exact h4, h5, h6, h7⟩
    · have hj' : j = R.length := by
        have := (List.getElem?_eq_some_iff.mp hj).1
        rw [List.length_append] at this
        simp at this
        omega
      subst hj'
      rw [List.getElem?_append_right (Nat.le_refl _), Nat.sub_self] at hj
      cases hj
      refine ⟨i, r, u, v, hr, ?_, by rw [List.getElem?_append_left lu]; exact hu, by rw [List.getElem?_append_left lv]; exact hv, by omega, by omega, rfl⟩
      rw [← hl, List.getElem?_append_right (Nat.le_refl _), Nat.sub_self]
      rfl
theorem OvOk.nx' {n : Nat} {J : Jn} {O : List Int} (h : OvOk n J O) {i : Nat} {r : Int × Int} (hr : J[i]? = some r) {x : Int} (hx : x = r.1 ∨ x = r.2) : O[x.toNat]? = some ((n + i : Nat) : Int) := by
  obtain ⟨a, b⟩ := h.hit i r hr
  rcases hx with rfl | rfl
  · exact a
  · exact b
/-- the whole side told: a joining of its own, its wire by the heights of the side's knots -/
theorem Sd8.done {es : List En} {J : Jn} {w : Int} {b L : List Int} {R : Jn} (hJ : JOk es.length J) {r0 : Int × Int} (hr0 : J[J.length - 1]? = some r0) (hw : w = r0.1 ∨ w = r0.2) (hb : b.Perm (Ti es.length J w)) (hbd : ∀ y ∈ b, 0 ≤ y ∧ y < (es.length : Int)) (h : Sd8 es.length J b J.length L R) :
    JOk b.length R ∧ evW (b.map (gE es)) R - hF (b.map (gE es)) = sH es J L - 2 * sH es J b ∧ ∀ x, x ∈ L ↔ 0 ≤ x ∧ x < (es.length : Int) + J.length - 1 ∧ Sub es.length J x w := by
  have hjl := hJ.len
  have j1 : 1 ≤ J.length := by have := (List.getElem?_eq_some_iff.mp hr0).1; omega
  have bw0 := jv_at J es.length (J.length - 1) r0 hJ.v hr0
  have bw : 0 ≤ w ∧ w < (es.length : Int) + J.length - 1 := by rcases hw with rfl | rfl <;> omega
  have hbm : ∀ y, y ∈ b ↔ y ∈ Ti es.length J w := fun y => hb.mem_iff
  have hnw := ti_ne hJ.v bw.1 (by omega)
  have hL : ∀ x, x ∈ L ↔ 0 ≤ x ∧ x < (es.length : Int) + J.length - 1 ∧ Sub es.length J x w := fun x => by
    rw [h.mem]
    constructor
    · rintro (q | ⟨k, h1, h2, h3, h4⟩)
      · have hy := hbd x q
        refine ⟨hy.1, by omega, fun y hy' => ?_⟩
        rw [ti_end hy.1 hy.2] at hy'
        rw [List.mem_singleton.mp hy']
        exact (hbm x).mp q
      · refine ⟨by omega, ?_, fun y hy => (hbm y).mp (h4 y hy)⟩
        by_cases q : k = J.length - 1
        · exfalso
          have s : ∀ y ∈ Ti es.length J r0.1 ++ Ti es.length J r0.2, y ∈ Ti es.length J w := fun y hy => by
            refine (hbm y).mp (h4 y ?_)
            rw [h3, q, ti_row hJ.v hr0]
            exact hy
          rcases hw with rfl | rfl
          · obtain ⟨z, hz⟩ := List.exists_mem_of_ne_nil _ (ti_ne hJ.v bw0.2.2.1 (by omega) : Ti es.length J r0.2 ≠ [])
            exact dis hJ hr0 j1 (s z (List.mem_append_right _ hz)) hz
          · obtain ⟨z, hz⟩ := List.exists_mem_of_ne_nil _ (ti_ne hJ.v bw0.1 (by omega) : Ti es.length J r0.1 ≠ [])
            exact dis hJ hr0 j1 hz (s z (List.mem_append_left _ hz))
        · omega
    · rintro ⟨x0, x1, hs⟩
      by_cases q : x < es.length
      · refine .inl ((hbm x).mpr (hs x ?_))
        rw [ti_end x0 q]
        exact List.mem_singleton_self _
      · exact .inr ⟨(x - es.length).toNat, by omega, by omega, by omega, fun y hy => (hbm y).mpr (hs y hy)⟩
  have hrt : ∀ k r, J[k]? = some r → ((es.length + k : Nat) : Int) ∈ L → k ≠ J.length - 1 := fun k r hk hm => by
    have := (hL _).mp hm
    omega
  have pj : ∀ (i j : Nat) (r q : Int × Int) (x : Int), J[i]? = some r → J[j]? = some q → (x = r.1 ∨ x = r.2) → (x = q.1 ∨ x = q.2) → i = j := fun i j r q x hi hj h1 h2 => by
    obtain ⟨O, hO⟩ := ov_exists hJ
    have a := hO.nx' hi h1
    have c := hO.nx' hj h2
    rw [a] at c
    have := Option.some.inj c
    omega
  have r12 : ∀ (k : Nat) (r : Int × Int), J[k]? = some r → r.1 ≠ r.2 := fun k r hk e => by
    have bb := jv_at J es.length k r hJ.v hk
    have hki := (List.getElem?_eq_some_iff.mp hk).1
    have nd := at_nodup J es.length ((es.length + k : Nat) : Int) hJ.nd hJ.v (by omega) (by omega)
    rw [show at? (ext (idx es.length) J) ((es.length + k : Nat) : Int) = Ti es.length J r.1 ++ Ti es.length J r.2 from ti_row hJ.v hk, e] at nd
    obtain ⟨z, hz⟩ := List.exists_mem_of_ne_nil _ (ti_ne hJ.v bb.2.2.1 (by omega) : Ti es.length J r.2 ≠ [])
    exact absurd rfl ((List.nodup_append.mp nd).2.2 z hz z hz)
  let g : Int → Int := fun u => (L[u.toNat]?).getD 0
  have hg : ∀ (u : Nat) (x : Int), L[u]? = some x → g (u : Int) = x := fun u x hu => by
    show (L[((u : Nat) : Int).toNat]?).getD 0 = x
    rw [Int.toNat_natCast, hu]
    rfl
  have ndg : ((sds R).map g).Nodup := by
    have key : ∀ (j0 : Nat) (Q : Jn), (∀ j q, Q[j]? = some q → R[j0 + j]? = some q) → ((sds Q).map g).Nodup ∧ ∀ y ∈ (sds Q).map g, ∃ (j : Nat) (k : Nat) (r : Int × Int), j0 ≤ j ∧ L[b.length + j]? = some ((es.length + k : Nat) : Int) ∧ J[k]? = some r ∧ (y = r.1 ∨ y = r.2) := fun j0 Q => by
      induction Q generalizing j0 with
      | nil => exact fun _ => ⟨List.nodup_nil, fun y hy => nomatch hy⟩
      | cons q Q ih =>
        intro hq
        obtain ⟨i1, i2⟩ := ih (j0 + 1) fun j q' hj => by
          have := hq (j + 1) q' hj
          rw [show j0 + 1 + j = j0 + (j + 1) by omega]
          exact this
        obtain ⟨k, r, u, v, h1, h2, h3, h4, _, _, h7⟩ := h.rows j0 q (hq 0 q rfl)
        have e1 : g q.1 = r.1 := by rw [h7]; exact hg u _ h3
        have e2 : g q.2 = r.2 := by rw [h7]; exact hg v _ h4
        have far : ∀ y, (y = r.1 ∨ y = r.2) → y ∉ (sds Q).map g := fun y hy hm => by
          obtain ⟨j, k', r', c1, c2, c3, c4⟩ := i2 y hm
          have := pj k k' r r' y h1 c3 hy c4
          subst this
          have := at_inj h.nd h2 c2
          omega
        have e : (sds (q :: Q)).map g = r.1 :: r.2 :: (sds Q).map g := by
          show g q.1 :: g q.2 :: (sds Q).map g = _
          rw [e1, e2]
        rw [e]
        refine ⟨List.nodup_cons.mpr ⟨fun m => ?_, List.nodup_cons.mpr ⟨far _ (.inr rfl), i1⟩⟩, fun y hy => ?_⟩
        · rcases List.mem_cons.mp m with m | m
          · exact r12 k r h1 m
          · exact far _ (.inl rfl) m
        · rcases List.mem_cons.mp hy with m | m
          · exact ⟨j0, k, r, Nat.le_refl _, h2, h1, .inl m⟩
          · rcases List.mem_cons.mp m with m | m
            · exact ⟨j0, k, r, Nat.le_refl _, h2, h1, .inr m⟩
            · obtain ⟨j, k', r', c1, c2⟩ := i2 y m
              exact ⟨j, k', r', by omega, c2⟩
    exact (key 0 R fun j q hj => by rw [Nat.zero_add]; exact hj).1
  have hwL : w ∈ L := (hL w).mpr ⟨bw.1, bw.2, fun y hy => hy⟩
  have hrow : ∀ (k : Nat) (r : Int × Int), J[k]? = some r → ((es.length + k : Nat) : Int) ∈ L → ∃ (j : Nat) (q : Int × Int) (u v : Nat), R[j]? = some q ∧ L[b.length + j]? = some ((es.length + k : Nat) : Int) ∧ L[u]? = some r.1 ∧ L[v]? = some r.2 ∧ q = ((u : Int), (v : Int)) := fun k r hk hm => by
    obtain ⟨p, hp, e⟩ := List.getElem_of_mem hm
    have hp1 : L[p]? = some ((es.length + k : Nat) : Int) := by rw [List.getElem?_eq_getElem hp, e]
    have hpb : b.length ≤ p := by
      by_cases q : b.length ≤ p
      · exact q
      · have e2 : b[p]? = some ((es.length + k : Nat) : Int) := by rw [← h.low, List.getElem?_take_of_lt (by omega)]; exact hp1
        have := (hbd _ (List.mem_of_getElem? e2)).2
        omega
    obtain ⟨j, rfl⟩ : ∃ j, p = b.length + j := ⟨p - b.length, by omega⟩
    have hj : j < R.length := by have := h.len; omega
    obtain ⟨q, hq⟩ : ∃ q, R[j]? = some q := ⟨_, List.getElem?_eq_getElem hj⟩
    obtain ⟨k', r', u, v, h1, h2, h3, h4, h5, h6, h7⟩ := h.rows j q hq
    have ek : k' = k := by
      rw [hp1] at h2
      have := Option.some.inj h2
      omega
    subst ek
    rw [hk] at h1
    cases h1
    exact ⟨j, q, u, v, hq, hp1, h3, h4, h7⟩
  have ps : ((sds R).map g).Perm (L.erase w) := by
    refine (List.perm_ext_iff_of_nodup ndg (h.nd.erase w)).mpr fun y => ?_
    rw [List.mem_map, h.nd.mem_erase_iff]
    constructor
    · rintro ⟨z, hz, rfl⟩
      obtain ⟨j, q, hj, hs⟩ := mem_sds.mp hz
      obtain ⟨k, r, u, v, h1, h2, h3, h4, _, _, h7⟩ := h.rows j q hj
      have hk := hrt k r h1 (List.mem_of_getElem? h2)
      have hy : g z = r.1 ∨ g z = r.2 := by
        rw [h7] at hs
        rcases hs with rfl | rfl
        · exact .inl (hg u _ h3)
        · exact .inr (hg v _ h4)
      refine ⟨fun e => hk ?_, ?_⟩
      · rw [e] at hy
        exact pj k (J.length - 1) r r0 w h1 hr0 hy hw
      · rcases hy with e | e
        · rw [e]; exact List.mem_of_getElem? h3
        · rw [e]; exact List.mem_of_getElem? h4
    · rintro ⟨hne, hyL⟩
      obtain ⟨y0, y1, hs⟩ := (hL y).mp hyL
      obtain ⟨i, r, hr, hside, hx, hi⟩ := par_of hJ y0 y1
      have hir : i ≠ J.length - 1 := fun e => by
        subst e
        rw [hr0] at hr
        cases hr
        obtain ⟨z, hz⟩ := List.exists_mem_of_ne_nil _ (ti_ne hJ.v y0 (by omega) : Ti es.length J y ≠ [])
        have hz2 := hs z hz
        rcases hw with rfl | rfl <;> rcases hside with rfl | rfl
        · exact hne rfl
        · exact dis hJ hr0 j1 hz2 hz
        · exact dis hJ hr0 j1 hz hz2
        · exact hne rfl
      have sp := sub_par hJ hr hside
      obtain ⟨z, hz⟩ := List.exists_mem_of_ne_nil _ (ti_ne hJ.v y0 (by omega) : Ti es.length J y ≠ [])
      have hp : ((es.length + i : Nat) : Int) ∈ L := by
        refine (hL _).mpr ⟨by omega, by omega, ?_⟩
        rcases lam hJ hr0 j1 _ ((es.length + i : Nat) : Int) (Nat.le_refl _) (by omega) (by omega) with s | s
        · rcases hw with rfl | rfl
          · exact s
          · exact (dis hJ hr0 j1 (s z (sp z hz)) (hs z hz)).elim
        · rcases hw with rfl | rfl
          · exact (dis hJ hr0 j1 (hs z hz) (s z (sp z hz))).elim
          · exact s
      obtain ⟨j, q, u, v, hq, hp1, h3, h4, h7⟩ := hrow i r hr hp
      rcases hside with rfl | rfl
      · exact ⟨(u : Int), mem_sds.mpr ⟨j, q, hq, .inl (by rw [h7])⟩, hg u _ h3⟩
      · exact ⟨(v : Int), mem_sds.mpr ⟨j, q, hq, .inr (by rw [h7])⟩, hg v _ h4⟩
  have ll : ∀ J : Jn, (sds J).length = 2 * J.length := fun J => by
    induction J with
    | nil => rfl
    | cons r J ih =>
      show (r.1 :: r.2 :: sds J).length = _
      rw [List.length_cons, List.length_cons, ih, List.length_cons]
      omega
  have hlen : R.length + 1 = b.length := by
    have e := ps.length_eq
    rw [List.length_map, ll, List.length_erase_of_mem hwL] at e
    have := h.len
    have := List.length_pos_of_mem hwL
    omega
  have hok : JOk b.length R := by
    refine jok_of ?_ hlen ?_
    · have : ∀ (R : Jn) (m : Nat), (∀ (j : Nat) (q : Int × Int), R[j]? = some q → 0 ≤ q.1 ∧ q.1 < (m + j : Nat) ∧ 0 ≤ q.2 ∧ q.2 < (m + j : Nat)) → JV m R := fun R => by
        induction R with
        | nil => intro _ _; trivial
        | cons q R ih =>
          intro m hh
          have h0 := hh 0 q rfl
          exact ⟨by simpa using h0, ih (m + 1) fun j q' hj => by
            have := hh (j + 1) q' hj
            rw [show m + 1 + j = m + (j + 1) by omega]
            exact this⟩
      refine this R b.length fun j q hq => ?_
      obtain ⟨k, r, u, v, _, _, _, _, h5, h6, rfl⟩ := h.rows j q hq
      exact ⟨by show (0 : Int) ≤ u; omega, by show (u : Int) < _; omega, by show (0 : Int) ≤ v; omega, by show (v : Int) < _; omega⟩
    · have := ndg
      unfold List.Nodup at this ⊢
      rw [List.pairwise_map] at this
      exact this.imp fun hab e => hab (by rw [e])
  refine ⟨hok, ?_, hL⟩
  have hbl : (b.map (gE es)).length = b.length := List.length_map ..
  have hok' : JOk (b.map (gE es)).length R := by rw [hbl]; exact hok
  let φ : Int → Int := fun y => ((L.idxOf y : Nat) : Int)
  have hφ : ∀ (j : Nat) (y : Int), L[j]? = some y → φ y = (j : Int) := fun j y hj => by
    have hm := List.mem_of_getElem? hj
    have : L[L.idxOf y]? = some y := by
      have hlt := List.idxOf_lt_length_of_mem hm
      rw [List.getElem?_eq_getElem hlt]
      exact congrArg some (List.getElem_idxOf hlt)
    show ((L.idxOf y : Nat) : Int) = _
    rw [at_inj h.nd this hj]
  have hh : ∀ (j : Nat) (x : Int), L[j]? = some x → Hh (Lx (b.map (gE es)) R) (j : Int) = Hh (Lx es J) x := fun j x hj => by
    have hx := List.mem_of_getElem? hj
    obtain ⟨x0, x1, _⟩ := (hL x).mp hx
    rw [← hφ j x hj]
    refine hF_congr fun p => lx_isoP hJ.v hok'.v φ (fun x => x ∈ L) (fun x hx x0 x1 p => ?_) (fun i r hr hp => ?_) (x.toNat + 1) x (Nat.lt_succ_self _) x0 (by omega) hx p
    · have hxb : x ∈ b := by
        rcases (h.mem x).mp hx with q | ⟨k, _, _, h3, _⟩
        · exact q
        · omega
      obtain ⟨u, hu, e⟩ := List.getElem_of_mem hxb
      have e2 : b[u]? = some x := by rw [List.getElem?_eq_getElem hu, e]
      have e3 : L[u]? = some x := by
        rw [← e2]
        conv => rhs; rw [← h.low]
        rw [List.getElem?_take_of_lt hu]
      rw [hφ u x e3, lx_end (by omega) (by rw [hbl]; omega), lx_end x0 x1]
      have : gE (b.map (gE es)) ((u : Nat) : Int) = gE es x := by
        show ((b.map (gE es))[((u : Nat) : Int).toNat]?).getD _ = _
        rw [Int.toNat_natCast, List.getElem?_map, e2]
        rfl
      rw [this]
    · obtain ⟨j, q, u, v, hq, hp1, h3, h4, h7⟩ := hrow i r hr hp
      refine ⟨List.mem_of_getElem? h3, List.mem_of_getElem? h4, j, ?_, ?_⟩
      · rw [hq, h7, hφ u _ h3, hφ v _ h4]
      · rw [hφ _ _ hp1, hbl]
  have sm : ∀ (M : List Int) (N : Nat), M.length = N → (∀ (j : Nat) (x : Int), M[j]? = some x → L[j]? = some x) → sH (b.map (gE es)) R (rgI N) = sH es J M := fun M N hl hM => by
    unfold sH
    congr 1
    apply List.ext_getElem?
    intro i
    by_cases hi : i < N
    · have e : M[i]? = some M[i] := List.getElem?_eq_getElem (by omega)
      unfold rgI
      rw [List.getElem?_map, List.getElem?_map, List.getElem?_range hi, List.getElem?_map, e]
      exact congrArg some (hh i _ (hM i _ e))
    · rw [List.getElem?_eq_none (by rw [List.length_map, rgI_len]; omega), List.getElem?_eq_none (by rw [List.length_map]; omega)]
  rw [ev_sum, root_hh hok', hbl, sm L _ h.len fun _ _ q => q, sm b _ rfl fun j x hj => by
    rw [← h.low, List.getElem?_take] at hj
    split at hj
    · exact hj
    · cases hj]
  omega
/-! ### the law's side, read -/
theorem dIn_ll {x : Int} {ns : List Int} {k : D → Prop} (h : k (.bl (decide (x ∈ ns)))) : dIn false (.int x) (.lst (ns.map D.int)) k := ⟨x, _, ns, rfl, rfl, intsD_map _, h⟩
set_option maxHeartbeats 4000000 in
theorem side_i {es : List En} {J : Jn} {w : Int} {r0 : Int × Int} {k : D → Prop} (h1 : 1 ≤ es.length) (n1 : es.length ≤ 24) (hJ : JOk es.length J) (hr0 : J[J.length - 1]? = some r0) (hw : w = r0.1 ∨ w = r0.2)
    (h : ∀ (b L : List Int) (R : Jn), b.Perm (Ti es.length J w) → b.length ≤ 24 → L.Nodup → JOk b.length R → evW (b.map (gE es)) R - hF (b.map (gE es)) = sH es J L - 2 * sH es J b → (∀ x, x ∈ L ↔ 0 ≤ x ∧ x < (es.length : Int) + J.length - 1 ∧ Sub es.length J x w) → k (.tup [.tup ((b.map (gE es)).map enD), .tup (R.map jD)])) : wp__law_side [.tup (es.map enD), .tup (J.map jD), .int w] k := by
  have hjl := hJ.len
  have j1 : 1 ≤ J.length := by have := (List.getElem?_eq_some_iff.mp hr0).1; omega
  have bw0 := jv_at J es.length (J.length - 1) r0 hJ.v hr0
  have bw : 0 ≤ w ∧ w < (es.length : Int) + J.length - 1 := by rcases hw with rfl | rfl <;> omega
  unfold wp__law_side wpOf
  walk_at "psenv"
  unfold P__law_side
  repeat walk_at "ps"
  rw [List.length_map]
  refine beneath_i h1 n1 hJ fun B hB1 hB2 hB3 => ?_
  have hB := bOk h1 n1 hJ hB1 hB2 hB3
  have hbl := hB.len
  have hbw := atB (B := B) bw.1 (by omega)
  have hperm := hB.idp w bw.1
  have hfew := hB.few w bw.1
  have hbd : ∀ y ∈ at? B w, 0 ≤ y ∧ y < (es.length : Int) := hB.bnd _ (at_mem bw.1 (by omega)).1
  have hnd : (at? B w).Nodup := hperm.nodup_iff.mpr (at_nodup J es.length w hJ.nd hJ.v bw.1 (by omega))
  repeat walk_at "ps"
  refine eDic0_i ?_
  repeat walk_at "ps"
  refine dIx_l hbw ?_
  generalize hb : at? B w = b at *
  repeat walk_at "ps"
  refine forP_i (fun i env => ∃ (kvs : List (Key × D)) (v6 v7 : SV), Kd kvs (b.take i) ∧ (v7 = SV.no ∨ ∃ i, v7 = SV.val (.int i)) ∧ env = [SV.val (.tup (es.map enD)), SV.val (.tup (J.map jD)), SV.val (.int w), SV.val (.int (es.length : Int)), SV.val (.lst (B.map ilD)), SV.own (.dic kvs), v6, v7, SV.no, SV.no, SV.no]) _ 0 ⟨[], _, _, Kd.nil, .inl rfl, rfl⟩ ?_ ?_
  · rintro i d env hd ⟨kvs, v6, v7, hk, _, rfl⟩ N hN
    obtain ⟨y, hy, rfl⟩ := enumD_get hd
    rw [List.getElem?_map] at hy
    obtain ⟨x, hx, rfl⟩ := Option.map_eq_some_iff.mp hy
    rw [Nat.zero_add] at hN hk
    have hil := (List.getElem?_eq_some_iff.mp hx).1
    have hni : x ∉ b.take i := fun q => by
      obtain ⟨j, hj, e⟩ := List.getElem_of_mem q
      rw [List.length_take] at hj
      have e2 : b[j]? = some x := by
        rw [← List.getElem?_take_of_lt (show j < i by omega), List.getElem?_eq_getElem (by rw [List.length_take]; omega), e]
      have := at_inj hnd hx e2
      omega
    have hp' := hk.put hni
    rw [List.length_take, Nat.min_eq_left (by omega)] at hp'
    have hs : b.take (i + 1) = b.take i ++ [x] := by rw [List.take_succ, hx]; rfl
    repeat walk_at "ps"
    have hlen := hk.len
    rw [List.length_take] at hlen
    refine ⟨by omega, ?_⟩
    repeat walk_at "ps"
    exact hN _ ⟨putD kvs (.inl x) (.int (i : Int)), SV.val (.int (i : Int)), SV.val (.int x), by rw [hs]; exact hp', .inr ⟨x, rfl⟩, by rw [Int.zero_add]; rfl⟩
  rintro env ⟨kvs0, v6, v7, hk0, h7, rfl⟩
  rw [show 0 + (enumD 0 (b.map D.int)).length = b.length by simp [enumD], List.take_length] at hk0
  repeat walk_at "ps"
  have start : Sd8 es.length J b 0 b [] := ⟨hnd, fun x => ⟨.inl, fun q => by rcases q with q | ⟨k, h1, _⟩; exact q; omega⟩, rfl, List.take_length, fun j q hq => by simp at hq⟩
  refine forP_i (fun i env => ∃ (L : List Int) (R : Jn) (kvs : List (Key × D)) (v7 v9 v10 : SV), Sd8 es.length J b i L R ∧ Kd kvs L ∧ L.length ≤ b.length + i ∧ (v7 = SV.no ∨ ∃ i, v7 = SV.val (.int i)) ∧ env = [SV.val (.tup (es.map enD)), SV.val (.tup (J.map jD)), SV.val (.int w), SV.val (.int (es.length : Int)), SV.val (.lst (B.map ilD)), SV.own (.dic kvs), v6, v7, SV.own (.lst (R.map jD)), v9, v10]) _ 0 ⟨b, [], kvs0, _, _, _, start, hk0, by omega, h7, rfl⟩ ?_ ?_
  · rintro i d env hd ⟨L, R, kvs, v7, v9, v10, hS, hk, hle, h7, rfl⟩ N hN
    obtain ⟨y, hy, rfl⟩ := enumD_get hd
    rw [List.getElem?_map] at hy
    obtain ⟨r, hr, rfl⟩ := Option.map_eq_some_iff.mp hy
    rw [Nat.zero_add] at hN hS hle
    have hil := (List.getElem?_eq_some_iff.mp hr).1
    have hbi := atB (B := B) (i := (es.length : Int) + (0 + (i : Nat))) (by omega) (by omega)
    have hpi := hB.idp ((es.length : Int) + (0 + (i : Nat))) (by omega)
    have hfi := hB.few ((es.length : Int) + (0 + (i : Nat))) (by omega)
    have hTi : ∀ y, y ∈ at? B ((es.length : Int) + (0 + (i : Nat))) ↔ y ∈ Ti es.length J ((es.length + i : Nat) : Int) := fun y => by
      rw [hpi.mem_iff, show (es.length : Int) + (0 + (i : Nat)) = ((es.length + i : Nat) : Int) by omega]
    have hll := hS.len
    have hkl := hk.len
    repeat walk_at "ps"
    refine dIx_l hbi ?_
    generalize at? B ((es.length : Int) + (0 + (i : Nat))) = c at hfi hTi
    repeat walk_at "ps"
    refine ⟨by rcases h7 with rfl | ⟨_, rfl⟩ <;> simp [noOwn], ?_⟩
    refine lcP_m D.int (fun y => D.bl (decide (y ∈ b))) c (by omega) ?_ ?_
    · intro y hy A B' hA
      repeat walk_at "ps"
      refine dIx_l hbw ?_
      refine dIn_ll ?_
      exact hA
    repeat walk_at "ps"
    rw [show (c.map fun y => D.bl (decide (y ∈ b))) = (c.map fun y => decide (y ∈ b)).map D.bl by rw [List.map_map]; rfl]
    refine gAllL_i ?_
    have hc : ((c.map fun y => decide (y ∈ b)).all id) = decide (∀ y ∈ Ti es.length J ((es.length + i : Nat) : Int), y ∈ b) := by
      rw [Bool.eq_iff_iff, List.all_eq_true, decide_eq_true_iff]
      constructor
      · intro q y hy
        exact of_decide_eq_true (q _ (List.mem_map_of_mem (f := fun y => decide (y ∈ b)) ((hTi y).mpr hy)))
      · intro q z hz
        obtain ⟨y, hy, rfl⟩ := List.mem_map.mp hz
        exact decide_eq_true (q y ((hTi y).mp hy))
    rw [hc]
    by_cases q : ∀ y ∈ Ti es.length J ((es.length + i : Nat) : Int), y ∈ b
    · rw [decide_eq_true q]
      obtain ⟨m1, m2⟩ := hS.sides hJ.v hr q
      obtain ⟨u, hu, eu⟩ := List.getElem_of_mem m1
      obtain ⟨v, hv, ev⟩ := List.getElem_of_mem m2
      have gu : L[u]? = some r.1 := by rw [List.getElem?_eq_getElem hu, eu]
      have gv : L[v]? = some r.2 := by rw [List.getElem?_eq_getElem hv, ev]
      have hstep := hS.step (fun x hx => (hbd x hx).2) hr q gu gv
      have hput := hk.put (hS.fresh fun x hx => (hbd x hx).2)
      repeat walk_at "ps"
      refine dDget_i (hk.yes u r.1 gu) ?_
      repeat walk_at "ps"
      refine dDget_i (hk.yes v r.2 gv) ?_
      repeat walk_at "ps"
      refine ⟨by rw [List.length_map]; omega, ?_⟩
      repeat walk_at "ps"
      refine dIx_l hbw ?_
      repeat walk_at "ps"
      refine ⟨by omega, ?_⟩
      repeat walk_at "ps"
      have e1 : (es.length : Int) + (0 + (i : Nat)) = ((es.length + i : Nat) : Int) := by omega
      have e2 : ((List.map D.int b).length : Int) + ((List.map jD R ++ [jD ((u : Int), (v : Int))]).length : Int) - 1 = ((L.length : Nat) : Int) := by
        rw [List.length_map, List.length_append, List.length_map]
        show (b.length : Int) + ((R.length + 1 : Nat) : Int) - 1 = _
        omega
      have := hN _ ⟨L ++ [((es.length + i : Nat) : Int)], R ++ [((u : Int), (v : Int))], putD kvs (.inl ((es.length + i : Nat) : Int)) (.int (L.length : Nat)), v7, SV.val (.int (0 + (i : Nat))), SV.val (jD r), hstep, hput, by rw [List.length_append]; show L.length + 1 ≤ _; omega, h7, rfl⟩
      rw [List.map_append] at this
      rw [e1, e2]
      exact this
    · rw [decide_eq_false q]
      repeat walk_at "ps"
      exact hN _ ⟨L, R, kvs, v7, SV.val (.int (0 + (i : Nat))), SV.val (jD r), hS.skip q, hk, by omega, h7, rfl⟩
  rintro env ⟨L, R, kvs, v7, v9, v10, hS, hk, hle, h7, rfl⟩
  rw [show 0 + (enumD 0 (J.map jD)).length = J.length by simp [enumD]] at hS
  obtain ⟨d1, d2, d3⟩ := hS.done hJ hr0 hw hperm hbd
  repeat walk_at "ps"
  refine dIx_l hbw ?_
  repeat walk_at "ps"
  refine ⟨by rcases h7 with rfl | ⟨_, rfl⟩ <;> simp [noOwn], ?_⟩
  refine lcP_m D.int (fun x => enD (gE es x)) b (by omega) ?_ ?_
  · intro x hx A B' hA
    have hb := hbd x hx
    repeat walk_at "ps"
    refine dIx_t (d := enD (gE es x)) (at_nat hb.1 (by rw [List.getElem?_map, List.getElem?_eq_getElem (by omega)]; unfold gE; rw [List.getElem?_eq_getElem (by omega)]; rfl)) ?_
    exact hA
  repeat walk_at "ps"
  have := h b L R hperm hfew hS.nd d1 d2 d3
  rw [List.map_map] at this
  exact this
/-! ### heights, boxes, roots, sides -/
theorem hF_max {l : List En} (h0 : l ≠ []) : maxI (l.map fun p => maxI (l.map fun q => want p q)) = hF l := by
  symm
  apply maxI_eq
  · obtain ⟨p, hp, q, hq, e⟩ := hF_mem h0
    refine List.mem_map.mpr ⟨p, hp, ?_⟩
    symm
    rw [e]
    exact maxI_eq (List.mem_map.mpr ⟨q, hq, rfl⟩) fun y hy => by
      obtain ⟨r, hr, rfl⟩ := List.mem_map.mp hy
      rw [← e]
      exact want_le hp hr
  · intro y hy
    obtain ⟨p, hp, rfl⟩ := List.mem_map.mp hy
    have hne : l.map (fun q => want p q) ≠ [] := by simpa using h0
    obtain ⟨q, hq, e⟩ := List.mem_map.mp (maxI_mem hne)
    rw [← e]
    exact want_le hp hq
theorem rg_map {α : Type} (es : List En) (f : En → α) : (rgI es.length).map (fun x => f (gE es x)) = es.map f := by
  apply List.ext_getElem?
  intro i
  by_cases hi : i < es.length
  · unfold rgI
    rw [List.getElem?_map, List.getElem?_map, List.getElem?_range hi, List.getElem?_map, List.getElem?_eq_getElem hi]
    show some (f (gE es ((i : Nat) : Int))) = some (f es[i])
    have : gE es ((i : Nat) : Int) = es[i] := by unfold gE; rw [Int.toNat_natCast, List.getElem?_eq_getElem hi]; rfl
    rw [this]
  · rw [List.getElem?_eq_none (by rw [List.length_map, rgI_len]; omega), List.getElem?_eq_none (by rw [List.length_map]; omega)]
theorem gE_atI {es : List En} {x : Int} (x0 : 0 ≤ x) (x1 : x < es.length) : atI (es.map enD) x = some (enD (gE es x)) := at_nat x0 (by rw [List.getElem?_map, List.getElem?_eq_getElem (by omega)]; unfold gE; rw [List.getElem?_eq_getElem (by omega)]; rfl)
theorem wants_i {es : List En} {x y : Int} {k : D → Prop} (x0 : 0 ≤ x) (x1 : x < es.length) (y0 : 0 ≤ y) (y1 : y < es.length) (h : k (.int (want (gE es x) (gE es y)))) : wp__law_wants [.tup (es.map enD), .int x, .int y] k := by
  unfold wp__law_wants wpOf
  walk_at "psenv"
  unfold P__law_wants
  repeat walk_at "ps"
  refine dIx_t (gE_atI x0 x1) ?_
  repeat walk_at "ps"
  refine dIx_t (gE_atI y0 y1) ?_
  repeat walk_at "ps"
  generalize gE es x = p at *
  generalize gE es y = q at *
  rw [show max (p.x - q.x) (-(p.x - q.x)) + max (p.y - q.y) (-(p.y - q.y)) + p.s + q.s = want p q by unfold want; omega]
  exact h
theorem lheight_i {es : List En} {k : D → Prop} (h1 : 1 ≤ es.length) (n1 : es.length ≤ 24) (h : k (.int (hF es))) : wp__law_height [.tup (es.map enD), .lst ((rgI es.length).map D.int)] k := by
  have hne : es ≠ [] := by rintro rfl; simp at h1
  have hrn : rgI es.length ≠ [] := fun e => by have := rgI_len es.length; rw [e] at this; simp at this; omega
  unfold wp__law_height wpOf
  walk_at "psenv"
  unfold P__law_height
  repeat walk_at "ps"
  refine ⟨by simp [noOwn], ?_⟩
  refine lcP_m D.int (fun x => D.int (maxI (es.map fun q => want (gE es x) q))) (rgI es.length) (by rw [rgI_len]; omega) ?_ ?_
  · intro x hx A B hA
    have hb := rgI_mem.mp hx
    repeat walk_at "ps"
    refine ⟨by simp [noOwn, wipeE], ?_⟩
    refine lcP_m D.int (fun y => D.int (want (gE es x) (gE es y))) (rgI es.length) (by rw [rgI_len]; omega) ?_ ?_
    · intro y hy A' B' hA'
      have hb' := rgI_mem.mp hy
      repeat walk_at "ps"
      exact wants_i hb.1 hb.2 hb'.1 hb'.2 hA'
    repeat walk_at "ps"
    refine gMaxL_i (intsD_m _ fun y => want (gE es x) (gE es y)) (by simpa using hrn) ?_
    rw [rg_map es fun q => want (gE es x) q]
    exact hA
  repeat walk_at "ps"
  refine gMaxL_i (intsD_m _ fun x => maxI (es.map fun q => want (gE es x) q)) (by simpa using hrn) ?_
  rw [rg_map es fun p => maxI (es.map fun q => want p q), hF_max hne]
  exact h
theorem zip_mm {α : Type} (l : List α) (f g : α → D) : zipD (l.map f) (l.map g) = l.map fun x => .tup [f x, g x] := by
  unfold zipD
  rw [List.zip_map', List.map_map]
  rfl
set_option maxHeartbeats 1000000 in
theorem lbox_i {es : List En} {k : D → Prop} (h1 : 1 ≤ es.length) (n1 : es.length ≤ 24) (h : k (boxD (hF es) es)) : wp__law_box [.tup (es.map enD), .lst ((rgI es.length).map D.int), .int (hF es)] k := by
  have hne : es ≠ [] := by rintro rfl; simp at h1
  unfold wp__law_box wpOf
  walk_at "psenv"
  unfold P__law_box
  repeat walk_at "ps"
  refine ⟨by simp [noOwn], ?_⟩
  refine lcP_m D.int (fun x => jD (U (gE es x), Vv (gE es x))) (rgI es.length) (by rw [rgI_len]; omega) ?_ ?_
  · intro x hx A B hA
    have hb := rgI_mem.mp hx
    repeat walk_at "ps"
    refine dIx_t (gE_atI hb.1 hb.2) ?_
    repeat walk_at "ps"
    unfold wp__law_spot wpOf
    walk_at "psenv"
    unfold P__law_spot
    repeat walk_at "ps"
    exact hA
  rw [rg_map es fun e => jD (U e, Vv e)]
  repeat walk_at "ps"
  refine ⟨by simp [noOwn], ?_⟩
  refine lcP_m D.int (fun x => D.int (hF es - 2 * (gE es x).s)) (rgI es.length) (by rw [rgI_len]; omega) ?_ ?_
  · intro x hx A B hA
    have hb := rgI_mem.mp hx
    repeat walk_at "ps"
    refine dIx_t (gE_atI hb.1 hb.2) ?_
    repeat walk_at "ps"
    exact hA
  rw [rg_map es fun e => D.int (hF es - 2 * e.s)]
  repeat walk_at "ps"
  refine rgK1_i (by decide) (by decide) ?_
  show forP _ _ [.int 0, .int 1] _ _
  have mm : ∀ (f : En → Int) {k : D → Prop}, k (.int (maxI (es.map f))) → gMaxL [.lst (es.map fun e => D.int (f e))] k := fun f k hk => gMaxL_i (intsD_m es f) (by simpa using hne) hk
  have mn : ∀ (f : En → Int) {k : D → Prop}, k (.int (minI (es.map f))) → gMinL [.lst (es.map fun e => D.int (f e))] k := fun f k hk => gMinL_i (intsD_m es f) (by simpa using hne) hk
  unfold forP
  repeat walk_at "ps"
  refine iZipP_i ?_
  repeat walk_at "ps"
  refine zipK_l ?_
  rw [zip_mm es (fun e => jD (U e, Vv e)) fun e => D.int (hF es - 2 * e.s)]
  refine ⟨by simp [noOwn], ?_⟩
  refine lcP_m (fun e : En => D.tup [jD (U e, Vv e), D.int (hF es - 2 * e.s)]) (fun e => D.int (U e - (hF es - 2 * e.s))) es (by omega) ?_ ?_
  · intro e he A B hA
    repeat walk_at "ps"
    exact hA
  repeat walk_at "ps"
  refine mm (fun e => U e - (hF es - 2 * e.s)) ?_
  refine ⟨by simp, ?_⟩
  repeat walk_at "ps"
  refine iZipP_i ?_
  repeat walk_at "ps"
  refine zipK_l ?_
  rw [zip_mm es (fun e => jD (U e, Vv e)) fun e => D.int (hF es - 2 * e.s)]
  refine ⟨by simp [noOwn], ?_⟩
  refine lcP_m (fun e : En => D.tup [jD (U e, Vv e), D.int (hF es - 2 * e.s)]) (fun e => D.int (U e + (hF es - 2 * e.s))) es (by omega) ?_ ?_
  · intro e he A B hA
    repeat walk_at "ps"
    exact hA
  repeat walk_at "ps"
  refine mn (fun e => U e + (hF es - 2 * e.s)) ?_
  refine ⟨by simp, ?_⟩
  repeat walk_at "ps"
  unfold forP
  repeat walk_at "ps"
  refine iZipP_i ?_
  repeat walk_at "ps"
  refine zipK_l ?_
  rw [zip_mm es (fun e => jD (U e, Vv e)) fun e => D.int (hF es - 2 * e.s)]
  refine ⟨by simp [noOwn], ?_⟩
  refine lcP_m (fun e : En => D.tup [jD (U e, Vv e), D.int (hF es - 2 * e.s)]) (fun e => D.int (Vv e - (hF es - 2 * e.s))) es (by omega) ?_ ?_
  · intro e he A B hA
    repeat walk_at "ps"
    exact hA
  repeat walk_at "ps"
  refine mm (fun e => Vv e - (hF es - 2 * e.s)) ?_
  refine ⟨by simp, ?_⟩
  repeat walk_at "ps"
  refine iZipP_i ?_
  repeat walk_at "ps"
  refine zipK_l ?_
  rw [zip_mm es (fun e => jD (U e, Vv e)) fun e => D.int (hF es - 2 * e.s)]
  refine ⟨by simp [noOwn], ?_⟩
  refine lcP_m (fun e : En => D.tup [jD (U e, Vv e), D.int (hF es - 2 * e.s)]) (fun e => D.int (Vv e + (hF es - 2 * e.s))) es (by omega) ?_ ?_
  · intro e he A B hA
    repeat walk_at "ps"
    exact hA
  repeat walk_at "ps"
  refine mn (fun e => Vv e + (hF es - 2 * e.s)) ?_
  refine ⟨by simp, ?_⟩
  repeat walk_at "ps"
  unfold forP
  repeat walk_at "ps"
  exact h
theorem loU_cg {a b : List En} (h : ∀ e, e ∈ a ↔ e ∈ b) : loU (hF a) a = loU (hF b) b ∧ hiU (hF a) a = hiU (hF b) b ∧ loV (hF a) a = loV (hF b) b ∧ hiV (hF a) a = hiV (hF b) b := by
  rw [hF_congr h]
  refine ⟨maxI_congr fun x => ?_, minI_congr fun x => ?_, maxI_congr fun x => ?_, minI_congr fun x => ?_⟩ <;> simp only [List.mem_map, h]
theorem root_in {es : List En} {J : Jn} (hJ : JOk es.length J) {T : Int × Int} (h : InB es T) : InB (at? (Lx es J) ((es.length : Int) + J.length - 1)) T := by
  have p := hJ.all (es.map fun e => [e]) (List.length_map ..)
  rw [flat1] at p
  obtain ⟨a, b, c, d⟩ := loU_cg (fun e => (p.mem_iff : e ∈ at? (Lx es J) ((es.length : Int) + J.length - 1) ↔ e ∈ es))
  exact ⟨by rw [a]; exact h.a, by rw [b]; exact h.b, by rw [c]; exact h.c, by rw [d]; exact h.d⟩
/-! ### sides_right, roots_right, law -/
theorem sH_app (es : List En) (J : Jn) (a b : List Int) : sH es J (a ++ b) = sH es J a + sH es J b := by
  unfold sH
  rw [List.map_append, List.sum_append]
theorem sH_pm {es : List En} {J : Jn} {a b : List Int} (h : a.Perm b) : sH es J a = sH es J b := sum_pm (h.map _)
theorem sides_sum {es : List En} {J : Jn} {r0 : Int × Int} (hJ : JOk es.length J) (hr0 : J[J.length - 1]? = some r0) {b1 b2 L1 L2 : List Int} (p1 : b1.Perm (Ti es.length J r0.1)) (p2 : b2.Perm (Ti es.length J r0.2)) (n1 : L1.Nodup) (n2 : L2.Nodup)
    (m1 : ∀ x, x ∈ L1 ↔ 0 ≤ x ∧ x < (es.length : Int) + J.length - 1 ∧ Sub es.length J x r0.1) (m2 : ∀ x, x ∈ L2 ↔ 0 ≤ x ∧ x < (es.length : Int) + J.length - 1 ∧ Sub es.length J x r0.2) :
    2 * hF es + (sH es J L1 - 2 * sH es J b1) + (sH es J L2 - 2 * sH es J b2) = evW es J := by
  have hjl := hJ.len
  have j1 : 1 ≤ J.length := by have := (List.getElem?_eq_some_iff.mp hr0).1; omega
  have pb : (b1 ++ b2).Perm (rgI es.length) := by
    refine (p1.append p2).trans ?_
    have e : Ti es.length J ((es.length : Int) + J.length - 1) = Ti es.length J r0.1 ++ Ti es.length J r0.2 := by
      rw [← ti_row hJ.v hr0]
      congr 1
      omega
    rw [← e]
    refine (hJ.all (idx es.length) idx_len).trans ?_
    have : ∀ l : List Nat, (l.map fun i : Nat => [((i : Nat) : Int)]).flatten = l.map fun i : Nat => ((i : Nat) : Int) := fun l => by
      induction l with
      | nil => rfl
      | cons a l ih => rw [List.map_cons, List.flatten_cons, ih]; rfl
    unfold idx rgI
    rw [this]
  have pL : (L1 ++ L2).Perm (rgI (es.length + J.length - 1)) := by
    refine (List.perm_ext_iff_of_nodup (List.nodup_append.mpr ⟨n1, n2, fun x hx y hy e => ?_⟩) (rgI_nd _)).mpr fun x => ?_
    · subst e
      obtain ⟨x0, x1, s1⟩ := (m1 x).mp hx
      obtain ⟨_, _, s2⟩ := (m2 x).mp hy
      obtain ⟨z, hz⟩ := List.exists_mem_of_ne_nil _ (ti_ne hJ.v x0 (by omega) : Ti es.length J x ≠ [])
      exact dis hJ hr0 j1 (s1 z hz) (s2 z hz)
    · rw [List.mem_append, m1, m2, rgI_mem]
      constructor
      · rintro (⟨a, b, _⟩ | ⟨a, b, _⟩) <;> omega
      · rintro ⟨x0, x1⟩
        rcases lam hJ hr0 j1 _ x (Nat.le_refl _) x0 (by omega) with s | s
        · exact .inl ⟨x0, by omega, s⟩
        · exact .inr ⟨x0, by omega, s⟩
  have a := sH_pm (es := es) (J := J) pb
  have c := sH_pm (es := es) (J := J) pL
  rw [sH_app] at a c
  have t : sH es J (rgI (es.length + J.length)) = sH es J (rgI (es.length + J.length - 1)) + hF es := by
    obtain ⟨m, hm⟩ : ∃ m, es.length + J.length = m + 1 := ⟨es.length + J.length - 1, by omega⟩
    rw [hm, Nat.add_sub_cancel, rgI_succ, sH_app, ← root_hh hJ]
    congr 1
    unfold sH
    rw [List.map_cons, List.map_nil, List.sum_cons, List.sum_nil, Int.add_zero]
    congr 1
    omega
  rw [ev_sum, root_hh hJ, t]
  omega
set_option maxHeartbeats 2000000 in
theorem sides_i {es : List En} {J : Jn} {k : D → Prop} (h1 : 1 ≤ es.length) (n1 : es.length ≤ 24) (hJ : JOk es.length J) (h : k (.bl true)) : wp__law_sides_right [.tup (es.map enD), .tup (J.map jD), .int (evW es J)] k := by
  have hjl := hJ.len
  unfold wp__law_sides_right wpOf
  walk_at "psenv"
  unfold P__law_sides_right
  repeat walk_at "ps"
  refine dEq_i (by simp only [pln]; exact plnJ _) rfl fun c hc => ?_
  cases c with
  | true =>
    repeat walk_at "ps"
    have q : J = [] := by
      have := hc.mp rfl
      cases J with
      | nil => rfl
      | cons a l => cases this
    subst q
    have e : evW es [] = 0 := by
      have hl : es.length = 1 := by simpa using hjl.symm
      rw [ev_sum, root_hh hJ]
      have a := leaf_sum (es := es) (J := [])
      match es, hl with
      | [x], _ =>
        show sH [x] [] (rgI 1) + hF [x] - 2 * sH [x] [] (rgI 1) = 0
        rw [show sH [x] [] (rgI 1) = 2 * ([x].map En.s).sum from a, hF_one]
        show 2 * (x.s + 0) + 2 * x.s - 2 * (2 * (x.s + 0)) = 0
        omega
    rw [e, decide_eq_true rfl]
    exact h
  | false =>
    have q : J ≠ [] := fun q => by
      have := hc.mpr (by rw [q]; rfl)
      cases this
    have hjp : 0 < J.length := List.length_pos_iff.mpr q
    obtain ⟨r0, hr0⟩ : ∃ r0, J[J.length - 1]? = some r0 := ⟨_, List.getElem?_eq_getElem (by omega)⟩
    have hlast : atI (J.map jD) (-1) = some (jD r0) := last_map (by rw [List.getLast?_eq_getElem?, hr0])
    repeat walk_at "ps"
    rw [List.length_map]
    refine dRg_i (by omega) ?_
    rw [rgD]
    repeat walk_at "ps"
    refine lheight_i h1 n1 ?_
    repeat walk_at "ps"
    refine dIx_t hlast ?_
    repeat walk_at "ps"
    show forP _ _ [.int r0.1, .int r0.2] _ _
    unfold forP
    repeat walk_at "ps"
    refine side_i h1 n1 hJ hr0 (.inl rfl) fun b1 L1 R1 p1 l1 nd1 ok1 e1 m1 => ?_
    have b1p : 1 ≤ (b1.map (gE es)).length := by rw [List.length_map]; have := ok1.len; omega
    have ok1' : JOk (b1.map (gE es)).length R1 := by rw [List.length_map]; exact ok1
    have lb1 : (b1.map (gE es)).length ≤ 24 := by rw [List.length_map]; exact l1
    generalize b1.map (gE es) = E1 at *
    have hl1 := ok1'.len
    repeat walk_at "ps"
    refine even_wire_i b1p (by omega) (by omega) ok1'.v ?_
    repeat walk_at "ps"
    rw [List.length_map]
    refine dRg_i (by omega) ?_
    rw [rgD]
    repeat walk_at "ps"
    refine lheight_i b1p lb1 ?_
    repeat walk_at "ps"
    unfold forP
    repeat walk_at "ps"
    refine side_i h1 n1 hJ hr0 (.inr rfl) fun b2 L2 R2 p2 l2 nd2 ok2 e2 m2 => ?_
    have b2p : 1 ≤ (b2.map (gE es)).length := by rw [List.length_map]; have := ok2.len; omega
    have ok2' : JOk (b2.map (gE es)).length R2 := by rw [List.length_map]; exact ok2
    have lb2 : (b2.map (gE es)).length ≤ 24 := by rw [List.length_map]; exact l2
    have fs := sides_sum hJ hr0 p1 p2 nd1 nd2 m1 m2
    generalize b2.map (gE es) = E2 at *
    have hl2 := ok2'.len
    repeat walk_at "ps"
    refine even_wire_i b2p (by omega) (by omega) ok2'.v ?_
    repeat walk_at "ps"
    rw [List.length_map]
    refine dRg_i (by omega) ?_
    rw [rgD]
    repeat walk_at "ps"
    refine lheight_i b2p lb2 ?_
    repeat walk_at "ps"
    unfold forP
    repeat walk_at "ps"
    rw [show 2 * hF es + evW E1 R1 - hF E1 + evW E2 R2 - hF E2 = evW es J by omega, decide_eq_true rfl]
    exact h
theorem ends23_i {most : Int} {k : D → Prop} (hm : 1 ≤ most) (hm2 : most ≤ 23) (h : ∀ es : List En, 1 ≤ es.length → es.length ≤ 23 → (∀ e ∈ es, OkE e) → k (.tup (es.map enD))) : wp__law_ends [.deck 3, .int most] k := by
  unfold wp__law_ends wpOf
  walk_at "psenv"
  unfold P__law_ends
  repeat walk_at "ps"
  refine draw_i (by decide) (by decide) fun w w0 w1 => ?_
  repeat walk_at "ps"
  refine draw_i (by decide) (by decide) fun st st0 st1 => ?_
  repeat walk_at "ps"
  refine sSeq_mid (fun env => ∃ m : Int, 1 ≤ m ∧ m ≤ 23 ∧ env = [SV.val (.deck 3), SV.val (.int most), SV.val (.int w), SV.val (.int st), SV.val (.int m), SV.no, SV.no, SV.no, SV.no, SV.no]) ?_ ?_
  · intro N' hN'
    repeat walk_at "ps"
    refine draw_i (by decide) (by decide) fun t t0 t1 => ?_
    repeat walk_at "ps"
    refine ite_n (fun _ => ?_) (fun _ => ?_)
    · repeat walk_at "ps"
      refine draw_i (by decide) (by decide) fun t t0 t1 => ?_
      repeat walk_at "ps"
      exact hN' _ ⟨_, by omega, by omega, rfl⟩
    · repeat walk_at "ps"
      exact hN' _ ⟨_, hm, hm2, rfl⟩
  rintro env ⟨m, m0, m1, rfl⟩
  repeat walk_at "ps"
  refine draw_i (by decide) (by decide) fun ed ed0 ed1 => ?_
  repeat walk_at "ps"
  refine rgK1_i (by omega) (by omega) ?_
  refine forP_i (fun i env => ∃ (es : List En) (v7 v8 v9 : SV), env = [SV.val (.deck 3), SV.val (.int most), SV.val (.int w), SV.val (.int st), SV.val (.int m), SV.val (.int (ed - 3)), SV.own (.lst (es.map enD)), v7, v8, v9] ∧ es.length = i ∧ ∀ e ∈ es, OkE e) _ 0 ⟨[], _, _, _, rfl, rfl, by simp⟩ ?_ ?_
  · rintro i d env hd ⟨es, v7, v8, v9, rfl, hl, ho⟩ N hN
    obtain ⟨rfl, hi⟩ := rangeD_at hd
    refine gtName_i ?_
    refine sSeq_mid (fun env => ∃ (v7 : SV) (bb : Bool), (bb = true → es ≠ []) ∧ env = [SV.val (.deck 3), SV.val (.int most), SV.val (.int w), SV.val (.int st), SV.val (.int m), SV.val (.int (ed - 3)), SV.own (.lst (es.map enD)), v7, SV.val (.bl bb), v9]) ?_ ?_
    · intro N' hN'
      repeat walk_at "ps"
      refine draw_i (by decide) (by decide) fun a a0 a1 => ?_
      repeat walk_at "ps"
      refine bCase_d (fun _ => ?_) (fun _ => ?_)
      · repeat walk_at "ps"
        refine dNe_nil (plnEn es) ?_
        repeat walk_at "ps"
        refine hN' _ ⟨_, _, fun q => ?_, rfl⟩
        intro e
        rw [e] at q
        simp at q
      · repeat walk_at "ps"
        exact hN' _ ⟨_, false, (fun q => Bool.noConfusion q), rfl⟩
    rintro env ⟨v7, bb, hbb, rfl⟩
    repeat walk_at "ps"
    refine place_i ⟨by omega, by omega⟩ fun px py hpx hpy => ?_
    repeat walk_at "ps"
    refine sSeq_mid (fun env => ∃ (px py : Int) (v7 v8 : SV), OkI px ∧ OkI py ∧ env = [SV.val (.deck 3), SV.val (.int most), SV.val (.int w), SV.val (.int st), SV.val (.int m), SV.val (.int (ed - 3)), SV.own (.lst (es.map enD)), v7, v8, SV.val (.tup [.int px, .int py])]) ?_ ?_
    · intro N' hN'
      repeat walk_at "ps"
      cases bb with
      | true =>
        have hpos : 0 < es.length := by
          cases es with
          | nil => exact absurd rfl (hbb rfl)
          | cons _ _ => simp
        repeat walk_at "ps"
        refine draw_i (by rw [List.length_map]; omega) (by rw [List.length_map]; omega) fun j j0 j1 => ?_
        refine dIx_in j0 j1 fun d hd => ?_
        obtain ⟨e, he, rfl⟩ := List.mem_map.mp hd
        repeat walk_at "ps"
        exact hN' _ ⟨e.x, e.y, _, _, (ho e he).1, (ho e he).2.1, rfl⟩
      | false =>
        repeat walk_at "ps"
        exact hN' _ ⟨px, py, _, _, hpx, hpy, rfl⟩
    · rintro env ⟨px, py, v7, v8, hpx, hpy, rfl⟩
      repeat walk_at "ps"
      refine start_i fun u u0 u1 => ?_
      repeat walk_at "ps"
      refine draw_i (by decide) (by decide) fun l l0 l1 => ?_
      refine pick4 l0 l1 fun l hl4 => ?_
      have hl0 : 0 ≤ l ∧ l ≤ 1000000 := by rcases hl4 with rfl | rfl | rfl | rfl <;> exact ⟨by decide, by decide⟩
      repeat walk_at "ps"
      refine dAdd_t (Nat.le_of_ble_eq_true rfl) ?_
      refine ⟨by rw [List.length_map]; omega, hN _ ⟨es ++ [⟨px, py, u, l⟩], _, _, _, by rw [List.map_append]; rfl, by simp [hl], fun e he => ?_⟩⟩
      rcases List.mem_append.mp he with q | q
      · exact ho e q
      · rw [List.mem_singleton.mp q]
        exact ⟨hpx, hpy, u0, u1, hl0.1, hl0.2⟩
  · rintro env ⟨es, v7, v8, v9, rfl, hl, ho⟩
    rw [rangeD_len] at hl
    repeat walk_at "ps"
    exact h es (by omega) (by omega) ho
set_option maxHeartbeats 1000000 in
theorem roots_i {es : List En} {J : Jn} {k : D → Prop} (h1 : 1 ≤ es.length) (n1 : es.length ≤ 24) (hJ : JOk es.length J) (h : k (.bl true)) : wp__law_roots_right [.tup (es.map enD), .tup (J.map jD), .int (evW es J)] k := by
  have hjl := hJ.len
  have hne : es ≠ [] := by rintro rfl; simp at h1
  have bb := bok hne
  obtain ⟨O, hO⟩ := ov_exists hJ
  unfold wp__law_roots_right wpOf
  walk_at "psenv"
  unfold P__law_roots_right
  repeat walk_at "ps"
  rw [List.length_map]
  refine dRg_i (by omega) ?_
  rw [rgD]
  repeat walk_at "ps"
  rw [List.length_map]
  refine dRg_i (by omega) ?_
  rw [rgD]
  repeat walk_at "ps"
  refine lheight_i h1 n1 ?_
  repeat walk_at "ps"
  refine lbox_i h1 n1 ?_
  unfold boxD
  have hab := bb.ab
  have hcd := bb.cd
  have key : ∀ u v : Int, loU (hF es) es ≤ u → u ≤ hiU (hF es) es → loV (hF es) es ≤ v → v ≤ hiV (hF es) es → InB es (u, v) := fun u v a b c d => ⟨a, b, c, d⟩
  generalize loU (hF es) es = a at *
  generalize hiU (hF es) es = b at *
  generalize loV (hF es) es = c at *
  generalize hiV (hF es) es = d at *
  repeat walk_at "ps"
  have hall : ∀ x ∈ [D.tup [D.int a, D.int c], D.tup [D.int a, D.int d], D.tup [D.int b, D.int c], D.tup [D.int ((a + b) / 2), D.int ((c + d) / 2)]], ∃ T : Int × Int, x = jD T ∧ InB es T := fun x hx => by
    simp only [List.mem_cons, List.not_mem_nil, or_false] at hx
    rcases hx with rfl | rfl | rfl | rfl
    · exact ⟨(a, c), rfl, key _ _ (by omega) (by omega) (by omega) (by omega)⟩
    · exact ⟨(a, d), rfl, key _ _ (by omega) (by omega) (by omega) (by omega)⟩
    · exact ⟨(b, c), rfl, key _ _ (by omega) (by omega) (by omega) (by omega)⟩
    · exact ⟨((a + b) / 2, (c + d) / 2), rfl, key _ _ (by omega) (by omega) (by omega) (by omega)⟩
  generalize [D.tup [D.int a, D.int c], D.tup [D.int a, D.int d], D.tup [D.int b, D.int c], D.tup [D.int ((a + b) / 2), D.int ((c + d) / 2)]] = ds at hall ⊢
  refine forP_i (fun _ env => ∃ v5 : SV, env = [SV.val (.tup (es.map enD)), SV.val (.tup (J.map jD)), SV.val (.int (evW es J)), SV.val (bxD a b c d), SV.val (.tup [.int ((a + b) / 2), .int ((c + d) / 2)]), v5]) _ 0 ⟨_, rfl⟩ ?_ ?_
  · rintro i x env hx ⟨v5, rfl⟩ N hN
    obtain ⟨T, rfl, hT⟩ := hall x (List.mem_of_getElem? hx)
    repeat walk_at "ps"
    refine even_tree_i h1 n1 hJ hO (root_in hJ hT) fun S hS => ?_
    unfold treeD
    repeat walk_at "ps"
    refine gSumA_t ?_
    rw [ls_sum h1 hO hJ]
    repeat walk_at "ps"
    rw [decide_eq_true rfl]
    repeat walk_at "ps"
    exact hN _ ⟨_, rfl⟩
  · rintro env ⟨v5, rfl⟩
    repeat walk_at "ps"
    exact h
/-! ### the law -/
theorem ren_sorted {es es' : List En} {J J' : Jn} {φ : Int → Int} {O O' : List Int} (h : Ren es es' J J' φ) (hJ : JOk es.length J) (hJ' : JOk es'.length J') (hO : OvOk es.length J O) (hO' : OvOk es'.length J' O') : (lsF (Lx es' J') O').Perm (lsF (Lx es J) O) := by
  have hjl := hJ.len
  have hn := h.n
  have hm := h.m
  have hjl' := hJ'.len
  have hol : O.length = es.length + J.length - 1 := by have := hO.len; omega
  have hol' : O'.length = es.length + J.length - 1 := by have := hO'.len; omega
  have row : ∀ x : Int, 0 ≤ x → x < (es.length : Int) + J.length - 1 → ∃ p : Int, O[x.toNat]? = some p ∧ O'[(φ x).toNat]? = some (φ p) ∧ 0 ≤ φ x ∧ φ x < (es.length : Int) + J.length - 1 ∧ 0 ≤ p ∧ p < (es.length + J.length : Nat) := fun x x0 x1 => by
    obtain ⟨i, r, hr, hs, hx, hi⟩ := par_of hJ x0 x1
    obtain ⟨i', r', hr', hφ, hw⟩ := h.row i r hr
    have hs' : φ x = r'.1 ∨ φ x = r'.2 := by
      rcases hw with rfl | rfl <;> rcases hs with rfl | rfl <;> simp
    have b := in_sds hJ' (mem_sds.mpr ⟨i', r', hr', hs'⟩)
    exact ⟨_, hO.nx' hr hs, by rw [hφ]; exact hO'.nx' hr' hs', b.1, by omega, by omega, by omega⟩
  have nd : ((rgI (es.length + J.length)).map φ).Nodup := h.all.nodup_iff.mpr (rgI_nd _)
  have hp : ((rgI (es.length + J.length - 1)).map φ).Perm (rgI (es.length + J.length - 1)) := by
    refine perm_sub _ _ ?_ (fun y hy => ?_) (by rw [List.length_map]; exact Nat.le_refl _)
    · obtain ⟨m, hm'⟩ : ∃ m, es.length + J.length = m + 1 := ⟨es.length + J.length - 1, by omega⟩
      rw [hm', rgI_succ, List.map_append] at nd
      rw [hm', Nat.add_sub_cancel]
      exact (List.nodup_append.mp nd).1
    · obtain ⟨x, hx, rfl⟩ := List.mem_map.mp hy
      have hb := rgI_mem.mp hx
      obtain ⟨p, _, _, h3, h4, _⟩ := row x hb.1 (by omega)
      exact rgI_mem.mpr ⟨h3, by omega⟩
  unfold lsF
  rw [hol, hol']
  refine ((hp.map fun x => Hh (Lx es' J') (lenAt O' x) - Hh (Lx es' J') x).symm).trans ?_
  rw [List.map_map]
  have e : (rgI (es.length + J.length - 1)).map ((fun x => Hh (Lx es' J') (lenAt O' x) - Hh (Lx es' J') x) ∘ φ) = (rgI (es.length + J.length - 1)).map fun x => Hh (Lx es J) (lenAt O x) - Hh (Lx es J) x := by
    apply List.map_congr_left
    intro x hx
    have hb := rgI_mem.mp hx
    obtain ⟨p, h1, h2, h3, h4, h5, h6⟩ := row x hb.1 (by omega)
    have a1 : lenAt O x = p := by unfold lenAt; rw [h1]; rfl
    have a2 : lenAt O' (φ x) = φ p := by unfold lenAt; rw [h2]; rfl
    show Hh (Lx es' J') (lenAt O' (φ x)) - Hh (Lx es' J') (φ x) = _
    rw [a1, a2, h.hh hJ.v hJ'.v h5 h6, h.hh hJ.v hJ'.v hb.1 (by omega)]
  rw [e]
/-! ### the law's doubled end -/
set_option maxHeartbeats 1000000 in
theorem doubled_i {es : List En} {J : Jn} {k : D → Prop} (h1 : 1 ≤ es.length) (n1 : es.length ≤ 24) (hJ : JOk es.length J) (h : ∀ e : Int, 0 ≤ e → e < es.length → k (.tup [.tup ((dblE es e).map enD), .tup ((dblJ es.length e J).map jD)])) : wp__law_doubled [.deck 3, .tup (es.map enD), .tup (J.map jD)] k := by
  have hjl := hJ.len
  unfold wp__law_doubled wpOf
  walk_at "psenv"
  unfold P__law_doubled
  repeat walk_at "ps"
  rw [List.length_map]
  refine draw_i (by omega) (by omega) fun e e0 e1 => ?_
  have h := h e e0 e1
  repeat walk_at "ps"
  refine forP_i (fun i env => ∃ (v6 v7 : SV), env = [SV.val (.deck 3), SV.val (.tup (es.map enD)), SV.val (.tup (J.map jD)), SV.val (.int (es.length : Int)), SV.val (.int e), SV.own (.lst ((((e, (es.length : Int)) :: (J.take i).map fun r => (dlt es.length e r.1, dlt es.length e r.2)) : Jn).map jD)), v6, v7, SV.no]) _ 0 ⟨_, _, rfl⟩ ?_ ?_
  · rintro i d env hd ⟨v6, v7, rfl⟩ N hN
    rw [List.getElem?_map] at hd
    obtain ⟨r, hr, rfl⟩ := Option.map_eq_some_iff.mp hd
    rw [Nat.zero_add] at hN ⊢
    repeat walk_at "ps"
    refine ⟨by simp [noOwn], ?_⟩
    show lcP _ _ _ _ ([r.1, r.2].map D.int) _ _
    refine lcP_m D.int (fun x => D.int (x + 2 * (if decide ((es.length : Int) ≤ x) = true then 1 else 0))) [r.1, r.2] (by show 2 ≤ _; decide) ?_ ?_
    · intro x hx A B hA
      repeat walk_at "ps"
      exact hA
    repeat walk_at "ps"
    refine ⟨by simp [noOwn], ?_⟩
    show lcP _ _ _ _ ([r.1 + 2 * (if decide ((es.length : Int) ≤ r.1) = true then 1 else 0), r.2 + 2 * (if decide ((es.length : Int) ≤ r.2) = true then 1 else 0)].map D.int) _ _
    refine lcP_m D.int (fun x => D.int (if x = e then (es.length : Int) + 1 else x)) _ (by show 2 ≤ _; decide) ?_ ?_
    · intro x hx A B hA
      repeat walk_at "ps"
      by_cases q : x = e
      · rw [decide_eq_true q] at *
        rw [if_pos q] at hA
        refine dIx_l (d := .int ((es.length : Int) + 1)) (by first | rfl | simp [atI, ixN]) hA
      · rw [decide_eq_false q] at *
        rw [if_neg q] at hA
        refine dIx_l (d := .int x) (by first | rfl | simp [atI, ixN]) hA
    repeat walk_at "ps"
    refine ⟨by rw [List.length_map, List.length_cons, List.length_map, List.length_take]; omega, ?_⟩
    refine hN _ ⟨SV.val (jD r), SV.val (.lst [.int (r.1 + 2 * (if decide ((es.length : Int) ≤ r.1) = true then 1 else 0)), .int (r.2 + 2 * (if decide ((es.length : Int) ≤ r.2) = true then 1 else 0))]), ?_⟩
    have hs : J.take (i + 1) = J.take i ++ [r] := by rw [List.take_succ, hr]; rfl
    have hd : ∀ x : Int, (if x + 2 * (if decide ((es.length : Int) ≤ x) = true then (1 : Int) else 0) = e then (es.length : Int) + 1 else x + 2 * (if decide ((es.length : Int) ≤ x) = true then (1 : Int) else 0)) = dlt es.length e x := fun x => by
      unfold dlt
      by_cases q : (es.length : Int) ≤ x
      · rw [decide_eq_true q, if_pos rfl, if_neg (by omega), if_neg (by omega), if_pos q]
        omega
      · rw [decide_eq_false q, if_neg Bool.false_ne_true, Int.mul_zero, Int.add_zero, if_neg q]
    rw [hs]
    simp only [List.map_cons, List.map_append, List.map_nil, hd]
    rfl
  · rintro env ⟨v6, v7, rfl⟩
    rw [List.length_map, Nat.zero_add, List.take_length]
    repeat walk_at "ps"
    refine dIx_t (d := enD (gE es e)) (at_nat e0 (by rw [List.getElem?_map, List.getElem?_eq_getElem (by omega)]; unfold gE; rw [List.getElem?_eq_getElem (by omega)]; rfl)) ?_
    repeat walk_at "ps"
    refine dAdd_t (by rw [List.length_map]; show _ + 1 ≤ _; omega) ?_
    repeat walk_at "ps"
    have e2 : es.map enD ++ [enD (gE es e)] = (dblE es e).map enD := by unfold dblE; rw [List.map_append]; rfl
    rw [e2]
    exact h
theorem told_e {es : List En} {J : Jn} {v : Int} {k : D → Prop} (h1 : 1 ≤ es.length) (n1 : es.length ≤ 24) (hJ : JOk es.length J) (e : evW es J = v) (h : k (.bl true)) : wp__law_told [.tup (es.map enD), .tup (J.map jD), .int v] k := by
  rw [← e]
  exact told_i h1 n1 hJ h
theorem sort_eq : ∀ {a b : List Int}, a.Perm b → a.Pairwise (· ≤ ·) → b.Pairwise (· ≤ ·) → a = b
  | [], b, p, _, _ => (List.perm_nil.mp p.symm).symm
  | x :: a, [], p, _, _ => nomatch List.perm_nil.mp p
  | x :: a, y :: b, p, ha, hb => by
    obtain ⟨a1, a2⟩ := List.pairwise_cons.mp ha
    obtain ⟨b1, b2⟩ := List.pairwise_cons.mp hb
    have hxy : x = y := by
      have h1 : x ∈ y :: b := p.mem_iff.mp List.mem_cons_self
      have h2 : y ∈ x :: a := p.mem_iff.mpr List.mem_cons_self
      rcases List.mem_cons.mp h1 with e | m1
      · exact e
      · rcases List.mem_cons.mp h2 with e | m2
        · exact e.symm
        · have := a1 y m2
          have := b1 x m1
          omega
    subst hxy
    rw [sort_eq (List.Perm.cons_inv p) a2 b2]
set_option maxHeartbeats 4000000 in
theorem law_pure : P_law (SV.no :: SV.val (.deck 3) :: List.replicate (12 - 2) SV.no) { nx := fun _ => False, rt := fun d => d = .bl true } := by
  show P_law [SV.no, SV.val (.deck 3), SV.no, SV.no, SV.no, SV.no, SV.no, SV.no, SV.no, SV.no, SV.no, SV.no] _
  unfold P_law
  repeat walk_at "ps"
  refine ends23_i (by decide) (by decide) fun es h1 h23 ho => ?_
  have n1 : es.length ≤ 24 := by omega
  have hne : es ≠ [] := by rintro rfl; simp at h1
  repeat walk_at "ps"
  rw [List.length_map]
  refine joining_i h1 n1 fun J hJ => ?_
  have hjl := hJ.len
  repeat walk_at "ps"
  refine even_wire_i h1 (by omega) (by omega) hJ.v ?_
  repeat walk_at "ps"
  refine tree_i h1 n1 hJ fun O S hO => ?_
  unfold treeD
  repeat walk_at "ps"
  refine gSortedT_i fun ms pm sm => ?_
  repeat walk_at "ps"
  refine rgK1_i (by decide) (by decide) ?_
  refine forP_i (fun _ env => ∃ v6 v7 v8 : SV, env = [SV.no, SV.val (.deck 3), SV.val (.tup (es.map enD)), SV.val (.tup (J.map jD)), SV.val (.int (evW es J)), SV.val (.lst (ms.map D.int)), v6, v7, v8, SV.no, SV.no, SV.no]) _ 0 ⟨_, _, _, rfl⟩ ?_ ?_
  · rintro i d env hd ⟨v6, v7, v8, rfl⟩ N hN
    repeat walk_at "ps"
    refine numbered_i h1 n1 hJ fun O' R φ hol hbd hren hok => ?_
    have hl' : (O'.map (gE es)).length = es.length := by rw [List.length_map, hol]
    have hok' : JOk (O'.map (gE es)).length R := by rw [hl']; exact hok
    have hw := hren.wire hJ hok'
    generalize O'.map (gE es) = E' at *
    repeat walk_at "ps"
    refine told_e (by omega) (by omega) hok' hw ?_
    repeat walk_at "ps"
    refine tree_i (by omega) (by omega) hok' fun O2 S2 hO2 => ?_
    have hps := ren_sorted hren hJ hok' hO hO2
    unfold treeD
    repeat walk_at "ps"
    refine gSortedT_i fun ms2 pm2 sm2 => ?_
    have e : ms2 = ms := sort_eq (pm2.trans (hps.trans pm.symm)) sm2 sm
    subst e
    repeat walk_at "ps"
    refine dNe_i (by simp only [pln]; exact plnI _) (by simp only [pln]; exact plnI _) fun c hc => ?_
    rw [hc.mpr rfl]
    repeat walk_at "ps"
    exact hN _ ⟨_, _, _, rfl⟩
  rintro env ⟨v6, v7, v8, rfl⟩
  repeat walk_at "ps"
  refine ⟨by simp [noOwn], ?_⟩
  refine lcP_m enD (fun e => D.int e.s) es (by omega) ?_ ?_
  · intro e he A B hA
    repeat walk_at "ps"
    exact hA
  repeat walk_at "ps"
  refine gMaxL_i (intsD_m es En.s) (by simpa using hne) ?_
  have hmx : 0 ≤ maxI (es.map En.s) ∧ maxI (es.map En.s) ≤ 1000000 := by
    obtain ⟨e, he, q⟩ := List.mem_map.mp (maxI_mem (ns := es.map En.s) (by simpa using hne))
    rw [← q]
    exact ⟨(ho e he).2.2.1, (ho e he).2.2.2.1⟩
  generalize maxI (es.map En.s) = mx at hmx
  repeat walk_at "ps"
  refine draw_i (by omega) (by omega) fun m m0 m1 => ?_
  repeat walk_at "ps"
  refine ⟨by simp [noOwn], ?_⟩
  refine lcP_m enD (fun e => enD (up1 m e)) es (by omega) ?_ ?_
  · intro e he A B hA
    repeat walk_at "ps"
    exact hA
  repeat walk_at "ps"
  rw [show (es.map fun e => enD (up1 m e)) = (es.map (up1 m)).map enD by rw [List.map_map]; rfl]
  refine told_e (by rw [List.length_map]; exact h1) (by rw [List.length_map]; exact n1) (by rw [List.length_map]; exact hJ) (up_wire hJ h1) ?_
  repeat walk_at "ps"
  refine told_i h1 n1 hJ ?_
  repeat walk_at "ps"
  refine doubled_i h1 n1 hJ fun e e0 e1 => ?_
  have hl2 : (dblE es e).length = es.length + 1 := by unfold dblE; rw [List.length_append]; rfl
  repeat walk_at "ps"
  refine told_e (by omega) (by omega) (by rw [hl2]; exact dbl_ok e0 e1 hJ) (dbl_wire e0 e1 hJ) ?_
  repeat walk_at "ps"
  refine sides_i h1 n1 hJ ?_
  repeat walk_at "ps"
  refine roots_i h1 n1 hJ ?_
  repeat walk_at "ps"
  rfl
end
end Ew
namespace Ew
open PySem PySem.Spec PyProof.Rows L2
variable [Tbs]
def topS (i : Nat) : Stmt := PySem.Challenge.pw_evenwires_k85_whole_even_wires_otherwise.main.body.getD i (.Pass ⟨0, 0, 0, 0⟩)
abbrev s_chain : Stmt := topS 1
abbrev N_chain : List Str := ["many", "joining", "knot", "knots", "joint", "row"]
theorem sc_chain : FnScope N_chain ["many", "joining", "knot"] (defScope s_chain) := ⟨rfl, rfl, rfl, by decide +kernel, rfl, by decide +kernel, by decide +kernel⟩
abbrev s_beneath : Stmt := topS 2
abbrev N_beneath : List Str := ["many", "joining", "knot", "end"]
theorem sc_beneath : FnScope N_beneath ["many", "joining", "knot"] (defScope s_beneath) := ⟨rfl, rfl, rfl, by decide +kernel, rfl, by decide +kernel, by decide +kernel⟩
abbrev s_joints_above : Stmt := topS 3
abbrev N_joints_above : List Str := ["joining", "many", "found", "joint", "row", "knot"]
theorem sc_joints_above : FnScope N_joints_above ["joining"] (defScope s_joints_above) := ⟨rfl, rfl, rfl, by decide +kernel, rfl, by decide +kernel, by decide +kernel⟩
abbrev s_spot_of : Stmt := topS 5
abbrev N_spot_of : List Str := ["grain", "x", "y"]
theorem sc_spot_of : FnScope N_spot_of ["grain", "x", "y"] (defScope s_spot_of) := ⟨rfl, rfl, rfl, by decide +kernel, rfl, by decide +kernel, by decide +kernel⟩
abbrev s_grown : Stmt := topS 6
abbrev N_grown : List Str := ["box", "by", "least_u", "greatest_u", "least_v", "greatest_v"]
theorem sc_grown : FnScope N_grown ["box", "by"] (defScope s_grown) := ⟨rfl, rfl, rfl, by decide +kernel, rfl, by decide +kernel, by decide +kernel⟩
abbrev s_met : Stmt := topS 7
abbrev N_met : List Str := ["box", "other", "least_u", "greatest_u", "least_v", "greatest_v"]
theorem sc_met : FnScope N_met ["box", "other"] (defScope s_met) := ⟨rfl, rfl, rfl, by decide +kernel, rfl, by decide +kernel, by decide +kernel⟩
abbrev s_apart : Stmt := topS 8
abbrev N_apart : List Str := ["box", "other"]
theorem sc_apart : FnScope N_apart ["box", "other"] (defScope s_apart) := ⟨rfl, rfl, rfl, by decide +kernel, rfl, by decide +kernel, by decide +kernel⟩
abbrev s_nearest : Stmt := topS 9
abbrev N_nearest : List Str := ["box", "spot", "least_u", "greatest_u", "least_v", "greatest_v"]
theorem sc_nearest : FnScope N_nearest ["box", "spot"] (defScope s_nearest) := ⟨rfl, rfl, rfl, by decide +kernel, rfl, by decide +kernel, by decide +kernel⟩
abbrev s_within : Stmt := topS 10
abbrev N_within : List Str := ["least", "greatest", "number"]
theorem sc_within : FnScope N_within ["least", "greatest", "number"] (defScope s_within) := ⟨rfl, rfl, rfl, by decide +kernel, rfl, by decide +kernel, by decide +kernel⟩
abbrev s_corner : Stmt := topS 11
abbrev N_corner : List Str := ["box"]
theorem sc_corner : FnScope N_corner ["box"] (defScope s_corner) := ⟨rfl, rfl, rfl, by decide +kernel, rfl, by decide +kernel, by decide +kernel⟩
abbrev s_has : Stmt := topS 12
abbrev N_has : List Str := ["box", "spot"]
theorem sc_has : FnScope N_has ["box", "spot"] (defScope s_has) := ⟨rfl, rfl, rfl, by decide +kernel, rfl, by decide +kernel, by decide +kernel⟩
abbrev s_steps : Stmt := topS 14
abbrev N_steps : List Str := ["one", "other"]
theorem sc_steps : FnScope N_steps ["one", "other"] (defScope s_steps) := ⟨rfl, rfl, rfl, by decide +kernel, rfl, by decide +kernel, by decide +kernel⟩
abbrev s_wanted : Stmt := topS 17
abbrev N_wanted : List Str := ["ends", "one", "other", "first", "second"]
theorem sc_wanted : FnScope N_wanted ["ends", "one", "other"] (defScope s_wanted) := ⟨rfl, rfl, rfl, by decide +kernel, rfl, by decide +kernel, by decide +kernel⟩
abbrev s_started : Stmt := topS 18
abbrev N_started : List Str := ["ends", "x", "y", "start", "load"]
theorem sc_started : FnScope N_started ["ends"] (defScope s_started) := ⟨rfl, rfl, rfl, by decide +kernel, rfl, by decide +kernel, by decide +kernel⟩
abbrev s_height_of : Stmt := topS 19
abbrev N_height_of : List Str := ["ends", "some", "one", "other"]
theorem sc_height_of : FnScope N_height_of ["ends", "some"] (defScope s_height_of) := ⟨rfl, rfl, rfl, by decide +kernel, rfl, by decide +kernel, by decide +kernel⟩
abbrev s_row_of : Stmt := topS 20
abbrev N_row_of : List Str := ["ends", "some", "height", "box", "end"]
theorem sc_row_of : FnScope N_row_of ["ends", "some"] (defScope s_row_of) := ⟨rfl, rfl, rfl, by decide +kernel, rfl, by decide +kernel, by decide +kernel⟩
abbrev s_reached : Stmt := topS 21
abbrev N_reached : List Str := ["end", "height", "u", "v"]
theorem sc_reached : FnScope N_reached ["end", "height"] (defScope s_reached) := ⟨rfl, rfl, rfl, by decide +kernel, rfl, by decide +kernel, by decide +kernel⟩
abbrev s_joined : Stmt := topS 22
abbrev N_joined : List Str := ["one", "other", "first_height", "first_box", "second_height", "second_box", "between", "height", "first", "second"]
theorem sc_joined : FnScope N_joined ["one", "other"] (defScope s_joined) := ⟨rfl, rfl, rfl, by decide +kernel, rfl, by decide +kernel, by decide +kernel⟩
abbrev s_rows_of : Stmt := topS 23
abbrev N_rows_of : List Str := ["ends", "joining", "rows", "end", "one", "other"]
theorem sc_rows_of : FnScope N_rows_of ["ends", "joining"] (defScope s_rows_of) := ⟨rfl, rfl, rfl, by decide +kernel, rfl, by decide +kernel, by decide +kernel⟩
abbrev s_stood : Stmt := topS 28
abbrev N_stood : List Str := ["joining", "boxes", "root", "spots", "above", "knot"]
theorem sc_stood : FnScope N_stood ["joining", "boxes", "root"] (defScope s_stood) := ⟨rfl, rfl, rfl, by decide +kernel, rfl, by decide +kernel, by decide +kernel⟩
abbrev s_root_spot : Stmt := topS 29
abbrev N_root_spot : List Str := ["box", "root"]
theorem sc_root_spot : FnScope N_root_spot ["box", "root"] (defScope s_root_spot) := ⟨rfl, rfl, rfl, by decide +kernel, rfl, by decide +kernel, by decide +kernel⟩
abbrev s_even_wire : Stmt := topS 31
abbrev N_even_wire : List Str := ["ends", "joining", "heights", "height", "box"]
theorem sc_even_wire : FnScope N_even_wire ["ends", "joining"] (defScope s_even_wire) := ⟨rfl, rfl, rfl, by decide +kernel, rfl, by decide +kernel, by decide +kernel⟩
abbrev s_even_tree : Stmt := topS 32
abbrev N_even_tree : List Str := ["ends", "joining", "root", "rows", "spots", "height", "box", "lengths", "knot", "joint"]
theorem sc_even_tree : FnScope N_even_tree ["ends", "joining", "root"] (defScope s_even_tree) := ⟨rfl, rfl, rfl, by decide +kernel, rfl, by decide +kernel, by decide +kernel⟩
abbrev s_is_whole : Stmt := topS 34
abbrev N_is_whole : List Str := ["thing"]
theorem sc_is_whole : FnScope N_is_whole ["thing"] (defScope s_is_whole) := ⟨rfl, rfl, rfl, by decide +kernel, rfl, by decide +kernel, by decide +kernel⟩
abbrev s_are_wholes : Stmt := topS 35
abbrev N_are_wholes : List Str := ["thing", "many", "part"]
theorem sc_are_wholes : FnScope N_are_wholes ["thing", "many"] (defScope s_are_wholes) := ⟨rfl, rfl, rfl, by decide +kernel, rfl, by decide +kernel, by decide +kernel⟩
abbrev s_pairs_for : Stmt := topS 37
abbrev N_pairs_for : List Str := ["ends", "joining", "many", "heights", "height", "box", "joint"]
theorem sc_pairs_for : FnScope N_pairs_for ["ends", "joining"] (defScope s_pairs_for) := ⟨rfl, rfl, rfl, by decide +kernel, rfl, by decide +kernel, by decide +kernel⟩
abbrev s_first_pair : Stmt := topS 38
abbrev N_first_pair : List Str := ["ends", "some", "height", "one", "other"]
theorem sc_first_pair : FnScope N_first_pair ["ends", "some", "height"] (defScope s_first_pair) := ⟨rfl, rfl, rfl, by decide +kernel, rfl, by decide +kernel, by decide +kernel⟩
abbrev s_pairs_shown : Stmt := topS 39
abbrev N_pairs_shown : List Str := ["ends", "joining", "thing", "wants", "one", "other"]
theorem sc_pairs_shown : FnScope N_pairs_shown ["ends", "joining", "thing"] (defScope s_pairs_shown) := ⟨rfl, rfl, rfl, by decide +kernel, rfl, by decide +kernel, by decide +kernel⟩
abbrev s_is_paper : Stmt := topS 40
abbrev N_is_paper : List Str := ["many", "joining", "thing", "joint", "part"]
theorem sc_is_paper : FnScope N_is_paper ["many", "joining", "thing"] (defScope s_is_paper) := ⟨rfl, rfl, rfl, by decide +kernel, rfl, by decide +kernel, by decide +kernel⟩
abbrev s_is_pair : Stmt := topS 41
abbrev N_is_pair : List Str := ["some", "thing", "one", "other"]
theorem sc_is_pair : FnScope N_is_pair ["some", "thing"] (defScope s_is_pair) := ⟨rfl, rfl, rfl, by decide +kernel, rfl, by decide +kernel, by decide +kernel⟩
abbrev s__law_deck : Stmt := topS 43
abbrev N__law_deck : List Str := ["_law_script", "_law_cells", "_law_k", "_law_cell"]
theorem sc__law_deck : FnScope N__law_deck ["_law_script"] (defScope s__law_deck) := ⟨rfl, rfl, rfl, by decide +kernel, rfl, by decide +kernel, by decide +kernel⟩
abbrev s__law_draw : Stmt := topS 44
abbrev N__law_draw : List Str := ["_law_deck_here", "_law_most", "_law_number", "_law_digit"]
theorem sc__law_draw : FnScope N__law_draw ["_law_deck_here", "_law_most"] (defScope s__law_draw) := ⟨rfl, rfl, rfl, by decide +kernel, rfl, by decide +kernel, by decide +kernel⟩
abbrev s__law_place : Stmt := topS 45
abbrev N__law_place : List Str := ["_law_deck_here", "_law_way", "_law_edge", "_law_x", "_law_k"]
theorem sc__law_place : FnScope N__law_place ["_law_deck_here", "_law_way", "_law_edge"] (defScope s__law_place) := ⟨rfl, rfl, rfl, by decide +kernel, rfl, by decide +kernel, by decide +kernel⟩
abbrev s__law_start : Stmt := topS 46
abbrev N__law_start : List Str := ["_law_deck_here", "_law_way", "_law_kind"]
theorem sc__law_start : FnScope N__law_start ["_law_deck_here", "_law_way"] (defScope s__law_start) := ⟨rfl, rfl, rfl, by decide +kernel, rfl, by decide +kernel, by decide +kernel⟩
abbrev s__law_ends : Stmt := topS 47
abbrev N__law_ends : List Str := ["_law_deck_here", "_law_most", "_law_way", "_law_starts", "_law_many", "_law_edge", "_law_ends_here", "_law_k", "_law_again", "_law_place_here"]
theorem sc__law_ends : FnScope N__law_ends ["_law_deck_here", "_law_most"] (defScope s__law_ends) := ⟨rfl, rfl, rfl, by decide +kernel, rfl, by decide +kernel, by decide +kernel⟩
abbrev s__law_joining : Stmt := topS 48
abbrev N__law_joining : List Str := ["_law_deck_here", "_law_many", "_law_chained", "_law_left", "_law_rows", "_law_k", "_law_turned", "_law_one", "_law_other"]
theorem sc__law_joining : FnScope N__law_joining ["_law_deck_here", "_law_many"] (defScope s__law_joining) := ⟨rfl, rfl, rfl, by decide +kernel, rfl, by decide +kernel, by decide +kernel⟩
abbrev s__law_beneath : Stmt := topS 49
abbrev N__law_beneath : List Str := ["_law_many", "_law_joining_here", "_law_some", "_law_k", "_law_one", "_law_other"]
theorem sc__law_beneath : FnScope N__law_beneath ["_law_many", "_law_joining_here"] (defScope s__law_beneath) := ⟨rfl, rfl, rfl, by decide +kernel, rfl, by decide +kernel, by decide +kernel⟩
abbrev s__law_wants : Stmt := topS 50
abbrev N__law_wants : List Str := ["_law_ends_here", "_law_one", "_law_other", "_law_a", "_law_b"]
theorem sc__law_wants : FnScope N__law_wants ["_law_ends_here", "_law_one", "_law_other"] (defScope s__law_wants) := ⟨rfl, rfl, rfl, by decide +kernel, rfl, by decide +kernel, by decide +kernel⟩
abbrev s__law_height : Stmt := topS 51
abbrev N__law_height : List Str := ["_law_ends_here", "_law_some", "_law_other", "_law_one"]
theorem sc__law_height : FnScope N__law_height ["_law_ends_here", "_law_some"] (defScope s__law_height) := ⟨rfl, rfl, rfl, by decide +kernel, rfl, by decide +kernel, by decide +kernel⟩
abbrev s__law_off : Stmt := topS 52
abbrev N__law_off : List Str := ["_law_one", "_law_other"]
theorem sc__law_off : FnScope N__law_off ["_law_one", "_law_other"] (defScope s__law_off) := ⟨rfl, rfl, rfl, by decide +kernel, rfl, by decide +kernel, by decide +kernel⟩
abbrev s__law_spot : Stmt := topS 53
abbrev N__law_spot : List Str := ["_law_grain", "_law_end"]
theorem sc__law_spot : FnScope N__law_spot ["_law_grain", "_law_end"] (defScope s__law_spot) := ⟨rfl, rfl, rfl, by decide +kernel, rfl, by decide +kernel, by decide +kernel⟩
abbrev s__law_over : Stmt := topS 54
abbrev N__law_over : List Str := ["_law_many", "_law_joining_here", "_law_over_here", "_law_k", "_law_row", "_law_side_here"]
theorem sc__law_over : FnScope N__law_over ["_law_many", "_law_joining_here"] (defScope s__law_over) := ⟨rfl, rfl, rfl, by decide +kernel, rfl, by decide +kernel, by decide +kernel⟩
abbrev s__law_sums : Stmt := topS 55
abbrev N__law_sums : List Str := ["_law_ends_here", "_law_joining_here", "_law_grain", "_law_lengths", "_law_over_here", "_law_sums_here", "_law_k", "_law_end", "_law_total"]
theorem sc__law_sums : FnScope N__law_sums ["_law_ends_here", "_law_joining_here", "_law_grain", "_law_lengths"] (defScope s__law_sums) := ⟨rfl, rfl, rfl, by decide +kernel, rfl, by decide +kernel, by decide +kernel⟩
abbrev s__law_whole : Stmt := topS 56
abbrev N__law_whole : List Str := ["_law_thing"]
theorem sc__law_whole : FnScope N__law_whole ["_law_thing"] (defScope s__law_whole) := ⟨rfl, rfl, rfl, by decide +kernel, rfl, by decide +kernel, by decide +kernel⟩
abbrev s__law_pair : Stmt := topS 57
abbrev N__law_pair : List Str := ["_law_thing"]
theorem sc__law_pair : FnScope N__law_pair ["_law_thing"] (defScope s__law_pair) := ⟨rfl, rfl, rfl, by decide +kernel, rfl, by decide +kernel, by decide +kernel⟩
abbrev s__law_is_tree : Stmt := topS 58
abbrev N__law_is_tree : List Str := ["_law_ends_here", "_law_joining_here", "_law_gap", "_law_thing", "_law_grain", "_law_spots", "_law_lengths", "_law_knots", "_law_spot_here", "_law_length", "_law_end", "_law_over_here", "_law_k", "_law_joint", "_law_sums_here"]
theorem sc__law_is_tree : FnScope N__law_is_tree ["_law_ends_here", "_law_joining_here", "_law_gap", "_law_thing"] (defScope s__law_is_tree) := ⟨rfl, rfl, rfl, by decide +kernel, rfl, by decide +kernel, by decide +kernel⟩
abbrev s__law_box : Stmt := topS 59
abbrev N__law_box : List Str := ["_law_ends_here", "_law_some", "_law_height_here", "_law_spots", "_law_k", "_law_rooms", "_law_box_here", "_law_axis", "_law_spot_here", "_law_room"]
theorem sc__law_box : FnScope N__law_box ["_law_ends_here", "_law_some", "_law_height_here"] (defScope s__law_box) := ⟨rfl, rfl, rfl, by decide +kernel, rfl, by decide +kernel, by decide +kernel⟩
abbrev s__law_numbered : Stmt := topS 60
abbrev N__law_numbered : List Str := ["_law_deck_here", "_law_ends_here", "_law_joining_here", "_law_many", "_law_left", "_law_order", "_law_k", "_law_known", "_law_place_here", "_law_end", "_law_waiting", "_law_rows", "_law_ready", "_law_row"]
theorem sc__law_numbered : FnScope N__law_numbered ["_law_deck_here", "_law_ends_here", "_law_joining_here"] (defScope s__law_numbered) := ⟨rfl, rfl, rfl, by decide +kernel, rfl, by decide +kernel, by decide +kernel⟩
abbrev s__law_doubled : Stmt := topS 61
abbrev N__law_doubled : List Str := ["_law_deck_here", "_law_ends_here", "_law_joining_here", "_law_many", "_law_end", "_law_rows", "_law_row", "_law_turned", "_law_side_here"]
theorem sc__law_doubled : FnScope N__law_doubled ["_law_deck_here", "_law_ends_here", "_law_joining_here"] (defScope s__law_doubled) := ⟨rfl, rfl, rfl, by decide +kernel, rfl, by decide +kernel, by decide +kernel⟩
abbrev s__law_side : Stmt := topS 62
abbrev N__law_side : List Str := ["_law_ends_here", "_law_joining_here", "_law_knot", "_law_many", "_law_some", "_law_known", "_law_place_here", "_law_end", "_law_rows", "_law_k", "_law_row"]
theorem sc__law_side : FnScope N__law_side ["_law_ends_here", "_law_joining_here", "_law_knot"] (defScope s__law_side) := ⟨rfl, rfl, rfl, by decide +kernel, rfl, by decide +kernel, by decide +kernel⟩
abbrev s__law_told : Stmt := topS 63
abbrev N__law_told : List Str := ["_law_ends_here", "_law_joining_here", "_law_due", "_law_tree"]
theorem sc__law_told : FnScope N__law_told ["_law_ends_here", "_law_joining_here", "_law_due"] (defScope s__law_told) := ⟨rfl, rfl, rfl, by decide +kernel, rfl, by decide +kernel, by decide +kernel⟩
abbrev s__law_sides_right : Stmt := topS 64
abbrev N__law_sides_right : List Str := ["_law_ends_here", "_law_joining_here", "_law_due", "_law_total", "_law_knot", "_law_own", "_law_rows"]
theorem sc__law_sides_right : FnScope N__law_sides_right ["_law_ends_here", "_law_joining_here", "_law_due"] (defScope s__law_sides_right) := ⟨rfl, rfl, rfl, by decide +kernel, rfl, by decide +kernel, by decide +kernel⟩
abbrev s__law_roots_right : Stmt := topS 65
abbrev N__law_roots_right : List Str := ["_law_ends_here", "_law_joining_here", "_law_due", "_law_box_here", "_law_middle", "_law_spot_here"]
theorem sc__law_roots_right : FnScope N__law_roots_right ["_law_ends_here", "_law_joining_here", "_law_due"] (defScope s__law_roots_right) := ⟨rfl, rfl, rfl, by decide +kernel, rfl, by decide +kernel, by decide +kernel⟩
abbrev s_law : Stmt := topS 66
abbrev N_law : List Str := ["_law_script", "_law_deck_here", "_law_ends_here", "_law_joining_here", "_law_due", "_law_lengths", "_law_turn", "_law_others", "_law_rows", "_law_more", "_law_end", "_law_raised"]
theorem sc_law : FnScope N_law ["_law_script"] (defScope s_law) := ⟨rfl, rfl, rfl, by decide +kernel, rfl, by decide +kernel, by decide +kernel⟩
-- what the top has left: the defs, and the built-ins that are not bound anew
set_option maxHeartbeats 0 in
structure Tx1 (K : PySem.W.Frag) (mg : Str → Option Value) (base : Heap) where
  a_chain : Addr
  d_chain : FuncData
  F_chain : Fun K "chain" "chain" s_chain a_chain d_chain
  b_chain : Binds K d_chain ["many", "joining", "knot"] []
  g_chain : mg "chain" = some (.ref a_chain)
  a_beneath : Addr
  d_beneath : FuncData
  F_beneath : Fun K "beneath" "beneath" s_beneath a_beneath d_beneath
  b_beneath : Binds K d_beneath ["many", "joining", "knot"] []
  g_beneath : mg "beneath" = some (.ref a_beneath)
  a_joints_above : Addr
  d_joints_above : FuncData
  F_joints_above : Fun K "joints_above" "joints_above" s_joints_above a_joints_above d_joints_above
  b_joints_above : Binds K d_joints_above ["joining"] []
  g_joints_above : mg "joints_above" = some (.ref a_joints_above)
  a_spot_of : Addr
  d_spot_of : FuncData
  F_spot_of : Fun K "spot_of" "spot_of" s_spot_of a_spot_of d_spot_of
  b_spot_of : Binds K d_spot_of ["grain", "x", "y"] []
  g_spot_of : mg "spot_of" = some (.ref a_spot_of)
  a_grown : Addr
  d_grown : FuncData
  F_grown : Fun K "grown" "grown" s_grown a_grown d_grown
  b_grown : Binds K d_grown ["box", "by"] []
  g_grown : mg "grown" = some (.ref a_grown)
set_option maxHeartbeats 0 in
structure Tx2 (K : PySem.W.Frag) (mg : Str → Option Value) (base : Heap) where
  a_met : Addr
  d_met : FuncData
  F_met : Fun K "met" "met" s_met a_met d_met
  b_met : Binds K d_met ["box", "other"] []
  g_met : mg "met" = some (.ref a_met)
  a_apart : Addr
  d_apart : FuncData
  F_apart : Fun K "apart" "apart" s_apart a_apart d_apart
  b_apart : Binds K d_apart ["box", "other"] []
  g_apart : mg "apart" = some (.ref a_apart)
  a_nearest : Addr
  d_nearest : FuncData
  F_nearest : Fun K "nearest" "nearest" s_nearest a_nearest d_nearest
  b_nearest : Binds K d_nearest ["box", "spot"] []
  g_nearest : mg "nearest" = some (.ref a_nearest)
  a_within : Addr
  d_within : FuncData
  F_within : Fun K "within" "within" s_within a_within d_within
  b_within : Binds K d_within ["least", "greatest", "number"] []
  g_within : mg "within" = some (.ref a_within)
  a_corner : Addr
  d_corner : FuncData
  F_corner : Fun K "corner" "corner" s_corner a_corner d_corner
  b_corner : Binds K d_corner ["box"] []
  g_corner : mg "corner" = some (.ref a_corner)
set_option maxHeartbeats 0 in
structure Tx3 (K : PySem.W.Frag) (mg : Str → Option Value) (base : Heap) where
  a_has : Addr
  d_has : FuncData
  F_has : Fun K "has" "has" s_has a_has d_has
  b_has : Binds K d_has ["box", "spot"] []
  g_has : mg "has" = some (.ref a_has)
  a_steps : Addr
  d_steps : FuncData
  F_steps : Fun K "steps" "steps" s_steps a_steps d_steps
  b_steps : Binds K d_steps ["one", "other"] []
  g_steps : mg "steps" = some (.ref a_steps)
  a_wanted : Addr
  d_wanted : FuncData
  F_wanted : Fun K "wanted" "wanted" s_wanted a_wanted d_wanted
  b_wanted : Binds K d_wanted ["ends", "one", "other"] []
  g_wanted : mg "wanted" = some (.ref a_wanted)
  a_started : Addr
  d_started : FuncData
  F_started : Fun K "started" "started" s_started a_started d_started
  b_started : Binds K d_started ["ends"] []
  g_started : mg "started" = some (.ref a_started)
  a_height_of : Addr
  d_height_of : FuncData
  F_height_of : Fun K "height_of" "height_of" s_height_of a_height_of d_height_of
  b_height_of : Binds K d_height_of ["ends", "some"] []
  g_height_of : mg "height_of" = some (.ref a_height_of)
set_option maxHeartbeats 0 in
structure Tx4 (K : PySem.W.Frag) (mg : Str → Option Value) (base : Heap) where
  a_row_of : Addr
  d_row_of : FuncData
  F_row_of : Fun K "row_of" "row_of" s_row_of a_row_of d_row_of
  b_row_of : Binds K d_row_of ["ends", "some"] []
  g_row_of : mg "row_of" = some (.ref a_row_of)
  a_reached : Addr
  d_reached : FuncData
  F_reached : Fun K "reached" "reached" s_reached a_reached d_reached
  b_reached : Binds K d_reached ["end", "height"] []
  g_reached : mg "reached" = some (.ref a_reached)
  a_joined : Addr
  d_joined : FuncData
  F_joined : Fun K "joined" "joined" s_joined a_joined d_joined
  b_joined : Binds K d_joined ["one", "other"] []
  g_joined : mg "joined" = some (.ref a_joined)
  a_rows_of : Addr
  d_rows_of : FuncData
  F_rows_of : Fun K "rows_of" "rows_of" s_rows_of a_rows_of d_rows_of
  b_rows_of : Binds K d_rows_of ["ends", "joining"] []
  g_rows_of : mg "rows_of" = some (.ref a_rows_of)
  a_stood : Addr
  d_stood : FuncData
  F_stood : Fun K "stood" "stood" s_stood a_stood d_stood
  b_stood : Binds K d_stood ["joining", "boxes", "root"] []
  g_stood : mg "stood" = some (.ref a_stood)
set_option maxHeartbeats 0 in
structure Tx5 (K : PySem.W.Frag) (mg : Str → Option Value) (base : Heap) where
  a_root_spot : Addr
  d_root_spot : FuncData
  F_root_spot : Fun K "root_spot" "root_spot" s_root_spot a_root_spot d_root_spot
  b_root_spot : Binds K d_root_spot ["box", "root"] []
  g_root_spot : mg "root_spot" = some (.ref a_root_spot)
  a_even_wire : Addr
  d_even_wire : FuncData
  F_even_wire : Fun K "even_wire" "even_wire" s_even_wire a_even_wire d_even_wire
  b_even_wire : Binds K d_even_wire ["ends", "joining"] []
  g_even_wire : mg "even_wire" = some (.ref a_even_wire)
  a_even_tree : Addr
  d_even_tree : FuncData
  F_even_tree : Pu.FunN K "even_tree" "even_tree" s_even_tree a_even_tree d_even_tree
  bd_even_tree : Binds K d_even_tree ["ends", "joining", "root"] [.none]
  b_even_tree : Binds K d_even_tree ["ends", "joining", "root"] []
  g_even_tree : mg "even_tree" = some (.ref a_even_tree)
  a_is_whole : Addr
  d_is_whole : FuncData
  F_is_whole : Fun K "is_whole" "is_whole" s_is_whole a_is_whole d_is_whole
  b_is_whole : Binds K d_is_whole ["thing"] []
  g_is_whole : mg "is_whole" = some (.ref a_is_whole)
  a_are_wholes : Addr
  d_are_wholes : FuncData
  F_are_wholes : Fun K "are_wholes" "are_wholes" s_are_wholes a_are_wholes d_are_wholes
  b_are_wholes : Binds K d_are_wholes ["thing", "many"] []
  g_are_wholes : mg "are_wholes" = some (.ref a_are_wholes)
  q_are_wholes : Addr
  p_are_wholes : Addr
  h_are_wholes : d_are_wholes.code = .ref q_are_wholes
  tb_are_wholes : GxR.TabB base mg q_are_wholes p_are_wholes
  m_are_wholes : p_are_wholes ∈ Tbs.tb
set_option maxHeartbeats 0 in
structure Tx6 (K : PySem.W.Frag) (mg : Str → Option Value) (base : Heap) where
  a_pairs_for : Addr
  d_pairs_for : FuncData
  F_pairs_for : Fun K "pairs_for" "pairs_for" s_pairs_for a_pairs_for d_pairs_for
  b_pairs_for : Binds K d_pairs_for ["ends", "joining"] []
  g_pairs_for : mg "pairs_for" = some (.ref a_pairs_for)
  a_first_pair : Addr
  d_first_pair : FuncData
  F_first_pair : Fun K "first_pair" "first_pair" s_first_pair a_first_pair d_first_pair
  b_first_pair : Binds K d_first_pair ["ends", "some", "height"] []
  g_first_pair : mg "first_pair" = some (.ref a_first_pair)
  a_pairs_shown : Addr
  d_pairs_shown : FuncData
  F_pairs_shown : Fun K "pairs_shown" "pairs_shown" s_pairs_shown a_pairs_shown d_pairs_shown
  b_pairs_shown : Binds K d_pairs_shown ["ends", "joining", "thing"] []
  g_pairs_shown : mg "pairs_shown" = some (.ref a_pairs_shown)
  a_is_paper : Addr
  d_is_paper : FuncData
  F_is_paper : Fun K "is_paper" "is_paper" s_is_paper a_is_paper d_is_paper
  b_is_paper : Binds K d_is_paper ["many", "joining", "thing"] []
  g_is_paper : mg "is_paper" = some (.ref a_is_paper)
  q_is_paper : Addr
  p_is_paper : Addr
  h_is_paper : d_is_paper.code = .ref q_is_paper
  tb_is_paper : GxR.TabB base mg q_is_paper p_is_paper
  m_is_paper : p_is_paper ∈ Tbs.tb
  a_is_pair : Addr
  d_is_pair : FuncData
  F_is_pair : Fun K "is_pair" "is_pair" s_is_pair a_is_pair d_is_pair
  b_is_pair : Binds K d_is_pair ["some", "thing"] []
  g_is_pair : mg "is_pair" = some (.ref a_is_pair)
set_option maxHeartbeats 0 in
structure Tx7 (K : PySem.W.Frag) (mg : Str → Option Value) (base : Heap) where
  a__law_deck : Addr
  d__law_deck : FuncData
  F__law_deck : Fun K "_law_deck" "_law_deck" s__law_deck a__law_deck d__law_deck
  b__law_deck : Binds K d__law_deck ["_law_script"] []
  g__law_deck : mg "_law_deck" = some (.ref a__law_deck)
  a__law_draw : Addr
  d__law_draw : FuncData
  F__law_draw : Fun K "_law_draw" "_law_draw" s__law_draw a__law_draw d__law_draw
  b__law_draw : Binds K d__law_draw ["_law_deck_here", "_law_most"] []
  g__law_draw : mg "_law_draw" = some (.ref a__law_draw)
  a__law_place : Addr
  d__law_place : FuncData
  F__law_place : Fun K "_law_place" "_law_place" s__law_place a__law_place d__law_place
  b__law_place : Binds K d__law_place ["_law_deck_here", "_law_way", "_law_edge"] []
  g__law_place : mg "_law_place" = some (.ref a__law_place)
  a__law_start : Addr
  d__law_start : FuncData
  F__law_start : Fun K "_law_start" "_law_start" s__law_start a__law_start d__law_start
  b__law_start : Binds K d__law_start ["_law_deck_here", "_law_way"] []
  g__law_start : mg "_law_start" = some (.ref a__law_start)
  a__law_ends : Addr
  d__law_ends : FuncData
  F__law_ends : Fun K "_law_ends" "_law_ends" s__law_ends a__law_ends d__law_ends
  b__law_ends : Binds K d__law_ends ["_law_deck_here", "_law_most"] []
  g__law_ends : mg "_law_ends" = some (.ref a__law_ends)
set_option maxHeartbeats 0 in
structure Tx8 (K : PySem.W.Frag) (mg : Str → Option Value) (base : Heap) where
  a__law_joining : Addr
  d__law_joining : FuncData
  F__law_joining : Fun K "_law_joining" "_law_joining" s__law_joining a__law_joining d__law_joining
  b__law_joining : Binds K d__law_joining ["_law_deck_here", "_law_many"] []
  g__law_joining : mg "_law_joining" = some (.ref a__law_joining)
  a__law_beneath : Addr
  d__law_beneath : FuncData
  F__law_beneath : Fun K "_law_beneath" "_law_beneath" s__law_beneath a__law_beneath d__law_beneath
  b__law_beneath : Binds K d__law_beneath ["_law_many", "_law_joining_here"] []
  g__law_beneath : mg "_law_beneath" = some (.ref a__law_beneath)
  a__law_wants : Addr
  d__law_wants : FuncData
  F__law_wants : Fun K "_law_wants" "_law_wants" s__law_wants a__law_wants d__law_wants
  b__law_wants : Binds K d__law_wants ["_law_ends_here", "_law_one", "_law_other"] []
  g__law_wants : mg "_law_wants" = some (.ref a__law_wants)
  a__law_height : Addr
  d__law_height : FuncData
  F__law_height : Fun K "_law_height" "_law_height" s__law_height a__law_height d__law_height
  b__law_height : Binds K d__law_height ["_law_ends_here", "_law_some"] []
  g__law_height : mg "_law_height" = some (.ref a__law_height)
  a__law_off : Addr
  d__law_off : FuncData
  F__law_off : Fun K "_law_off" "_law_off" s__law_off a__law_off d__law_off
  b__law_off : Binds K d__law_off ["_law_one", "_law_other"] []
  g__law_off : mg "_law_off" = some (.ref a__law_off)
set_option maxHeartbeats 0 in
structure Tx9 (K : PySem.W.Frag) (mg : Str → Option Value) (base : Heap) where
  a__law_spot : Addr
  d__law_spot : FuncData
  F__law_spot : Fun K "_law_spot" "_law_spot" s__law_spot a__law_spot d__law_spot
  b__law_spot : Binds K d__law_spot ["_law_grain", "_law_end"] []
  g__law_spot : mg "_law_spot" = some (.ref a__law_spot)
  a__law_over : Addr
  d__law_over : FuncData
  F__law_over : Fun K "_law_over" "_law_over" s__law_over a__law_over d__law_over
  b__law_over : Binds K d__law_over ["_law_many", "_law_joining_here"] []
  g__law_over : mg "_law_over" = some (.ref a__law_over)
  a__law_sums : Addr
  d__law_sums : FuncData
  F__law_sums : Fun K "_law_sums" "_law_sums" s__law_sums a__law_sums d__law_sums
  b__law_sums : Binds K d__law_sums ["_law_ends_here", "_law_joining_here", "_law_grain", "_law_lengths"] []
  g__law_sums : mg "_law_sums" = some (.ref a__law_sums)
  a__law_whole : Addr
  d__law_whole : FuncData
  F__law_whole : Fun K "_law_whole" "_law_whole" s__law_whole a__law_whole d__law_whole
  b__law_whole : Binds K d__law_whole ["_law_thing"] []
  g__law_whole : mg "_law_whole" = some (.ref a__law_whole)
  a__law_pair : Addr
  d__law_pair : FuncData
  F__law_pair : Fun K "_law_pair" "_law_pair" s__law_pair a__law_pair d__law_pair
  b__law_pair : Binds K d__law_pair ["_law_thing"] []
  g__law_pair : mg "_law_pair" = some (.ref a__law_pair)
set_option maxHeartbeats 0 in
structure Tx10 (K : PySem.W.Frag) (mg : Str → Option Value) (base : Heap) where
  a__law_is_tree : Addr
  d__law_is_tree : FuncData
  F__law_is_tree : Fun K "_law_is_tree" "_law_is_tree" s__law_is_tree a__law_is_tree d__law_is_tree
  b__law_is_tree : Binds K d__law_is_tree ["_law_ends_here", "_law_joining_here", "_law_gap", "_law_thing"] []
  g__law_is_tree : mg "_law_is_tree" = some (.ref a__law_is_tree)
  a__law_box : Addr
  d__law_box : FuncData
  F__law_box : Fun K "_law_box" "_law_box" s__law_box a__law_box d__law_box
  b__law_box : Binds K d__law_box ["_law_ends_here", "_law_some", "_law_height_here"] []
  g__law_box : mg "_law_box" = some (.ref a__law_box)
  a__law_numbered : Addr
  d__law_numbered : FuncData
  F__law_numbered : Fun K "_law_numbered" "_law_numbered" s__law_numbered a__law_numbered d__law_numbered
  b__law_numbered : Binds K d__law_numbered ["_law_deck_here", "_law_ends_here", "_law_joining_here"] []
  g__law_numbered : mg "_law_numbered" = some (.ref a__law_numbered)
  a__law_doubled : Addr
  d__law_doubled : FuncData
  F__law_doubled : Fun K "_law_doubled" "_law_doubled" s__law_doubled a__law_doubled d__law_doubled
  b__law_doubled : Binds K d__law_doubled ["_law_deck_here", "_law_ends_here", "_law_joining_here"] []
  g__law_doubled : mg "_law_doubled" = some (.ref a__law_doubled)
  a__law_side : Addr
  d__law_side : FuncData
  F__law_side : Fun K "_law_side" "_law_side" s__law_side a__law_side d__law_side
  b__law_side : Binds K d__law_side ["_law_ends_here", "_law_joining_here", "_law_knot"] []
  g__law_side : mg "_law_side" = some (.ref a__law_side)
set_option maxHeartbeats 0 in
structure Tx11 (K : PySem.W.Frag) (mg : Str → Option Value) (base : Heap) where
  a__law_told : Addr
  d__law_told : FuncData
  F__law_told : Fun K "_law_told" "_law_told" s__law_told a__law_told d__law_told
  b__law_told : Binds K d__law_told ["_law_ends_here", "_law_joining_here", "_law_due"] []
  g__law_told : mg "_law_told" = some (.ref a__law_told)
  a__law_sides_right : Addr
  d__law_sides_right : FuncData
  F__law_sides_right : Fun K "_law_sides_right" "_law_sides_right" s__law_sides_right a__law_sides_right d__law_sides_right
  b__law_sides_right : Binds K d__law_sides_right ["_law_ends_here", "_law_joining_here", "_law_due"] []
  g__law_sides_right : mg "_law_sides_right" = some (.ref a__law_sides_right)
  a__law_roots_right : Addr
  d__law_roots_right : FuncData
  F__law_roots_right : Fun K "_law_roots_right" "_law_roots_right" s__law_roots_right a__law_roots_right d__law_roots_right
  b__law_roots_right : Binds K d__law_roots_right ["_law_ends_here", "_law_joining_here", "_law_due"] []
  g__law_roots_right : mg "_law_roots_right" = some (.ref a__law_roots_right)
  a_law : Addr
  d_law : FuncData
  F_law : Fun K "law" "law" s_law a_law d_law
  b_law : Binds K d_law ["_law_script"] []
  g_law : mg "law" = some (.ref a_law)
set_option maxHeartbeats 0 in
structure Tx (K : PySem.W.Frag) (mg : Str → Option Value) (base : Heap) extends Tx1 K mg base, Tx2 K mg base, Tx3 K mg base, Tx4 K mg base, Tx5 K mg base, Tx6 K mg base, Tx7 K mg base, Tx8 K mg base, Tx9 K mg base, Tx10 K mg base, Tx11 K mg base where
  t_GRAIN : Tok
  c_GRAIN : mg "GRAIN" = some (.int 2 t_GRAIN)
  n_list : mg "list" = none
  n_enumerate : mg "enumerate" = none
  n_tuple : mg "tuple" = none
  n_range : mg "range" = none
  n_len : mg "len" = none
  n_max : mg "max" = none
  n_min : mg "min" = none
  n_abs : mg "abs" = none
  n_sum : mg "sum" = none
  n_reversed : mg "reversed" = none
  n_bool : mg "bool" = none
  n_isinstance : mg "isinstance" = none
  n_int : mg "int" = none
  n_all : mg "all" = none
  n_sorted : mg "sorted" = none
  n_zip : mg "zip" = none
section
local macro_rules | `(tactic| walk_at "ewc") => `(tactic| first
  | (show (0 : Int) < _; omega)
  | (show (0 : Int) < _; decide)
  | (refine ⟨?_, ?_⟩ <;> omega)
  | exact Or.inl ⟨by omega, by omega⟩
  | exact Or.inr ⟨by omega, by omega⟩)
abbrev dk3 (c : Addr) (s n g : Int) : List V := [.ref c, .int s, .int n, .int g]
/-- a deck stands at dk, its cells at c -/
structure Deck (H : Hp) (dk c : Addr) : Prop where
  ex : ∃ (s n g : Int) (cs : List Int), H dk = some (.lst (dk3 c s n g)) ∧ H c = some (.lst (cs.map V.int))
section
variable {P : Program} {w : World} {K : PySem.W.Frag} {mg : Str → Option Value} {base : Heap}
theorem nd3 {H : Hp} {dk c : Addr} {s n g : Int} {cs : List Int} (h1 : H dk = some (.lst (dk3 c s n g))) (h2 : H c = some (.lst (cs.map V.int))) : c ≠ dk := fun e => by
  rw [e, h1] at h2
  cases cs with
  | nil => cases h2
  | cons z cs => cases h2
inductive sp__law_draw : List V → Hp → VK → XK → Prop
  | mk {H : Hp} {Q : VK} {E : XK} {dk c : Addr} {m : Int} (hD : Deck H dk c) (m0 : 0 < m) (m1 : m < 1073741824) (k : ∀ H' r, 0 ≤ r → r < m → Deck H' dk c → Evo [dk, c] H H' → Q (.int r) H') : sp__law_draw [.ref dk, .int m] H Q E
theorem setE {R : Hp → Prop} {H : Hp} {p : Addr} {xs : List V} {k : Int} {j : Nat} {v : V} (h : H p = some (.lst xs)) (e : ixN xs.length k = some j) (q : R (upd H p (.lst (xs.set j v)))) : ∃ p' xs' k' j', V.ref p = .ref p' ∧ V.int k = .int k' ∧ H p' = some (.lst xs') ∧ ixN xs'.length k' = some j' ∧ R (upd H p' (.lst (xs'.set j' v))) := ⟨p, xs, k, j, rfl, rfl, h, e, q⟩
theorem getE {R : V → Prop} {K : PySem.W.Frag} {H : Hp} {p : Addr} {xs : List V} {k : Int} {v : V} (h : H p = some (.lst xs)) (e : atI xs k = some v) (q : R v) : ∃ p' xs' i' v', V.ref p = .ref p' ∧ V.int k = .int i' ∧ SqL K H p' xs' ∧ atI xs' i' = some v' ∧ R v' := ⟨p, xs, k, v, rfl, rfl, SqL.of h, e, q⟩
set_option maxHeartbeats 1000000 in
theorem ok__law_draw (T : Tx K mg base) : FnOk P w K mg base CX0 1 T.a__law_draw T.d__law_draw ["_law_deck_here", "_law_most"] sp__law_draw := by
  refine T.F__law_draw.ok sc__law_draw (fun vs H Q E h => ?_) (fun cdv A outer s0 H vs Q E hr h => ?_)
  · cases h
    rfl
  · obtain @⟨_, _, _, dk, c, m, ⟨s, n, g, cs, hd, hc⟩, m0, m1, k⟩ := h
    have hu := hu_of hr
    have ncd : c ≠ dk := nd3 hd hc
    have hmd : ∀ ys, H dk ≠ some (.tup ys) := fun ys e => by rw [hd] at e; cases e
    have hfd : ∀ u v, H dk ≠ some (.frz u v) := fun ys _ e => by rw [hd] at e; cases e
    have hmc : ∀ ys, H c ≠ some (.tup ys) := fun ys e => by rw [hc] at e; cases e
    have hfc : ∀ u v, H c ≠ some (.frz u v) := fun ys _ e => by rw [hc] at e; cases e
    have i1 : dk ∈ [dk, c] := List.mem_cons_self
    have i2 : c ∈ [dk, c] := List.mem_cons_of_mem _ List.mem_cons_self
    refine ⟨_, (pss_cons (ps_asg (pe_op op_add (pe_ix (r := rIxL K) ix_list (pv 0) pe_int (fun _ _ => rfl)) pe_int) (pg_sub (pv 0) pe_int set_list))
      (pss_cons (ps_set (i := 2) sc__law_draw.nd rfl (Or.inl rfl) (pe_ix (r := rIxL K) ix_list (pv 0) pe_int (fun _ _ => rfl)))
      (C8.pss_cut (ps_if (PW.pt (pw_and (pt_cmpR Ew.op_eqI (pe_ix (r := rIxL K) ix_list (pv 0) pe_int (fun _ _ => rfl)) pe_int (nomark _)) (pw_and1 (pt_cmpR (r := Ew.rNeX K) (Ew.op_neX hr.units) (pe_ix (r := rIxL K) ix_list (pv 0) pe_int (fun _ _ => rfl)) (pe_lst pa_nil) (nomark _))))) (pss_cons (ps_set (i := 2) sc__law_draw.nd rfl (Or.inl rfl) (pe_bm0 PySem.F.plainAttrs_list PySem.F.slot_list_pop PySem.F.type_list_pop mt_pop (pe_ix (r := rIxL K) ix_list (pv 0) pe_int (fun _ _ => rfl))))
      (pss_one (ps_if (pt_cmpR op_ge (pv 2) (pe_op (Ew.op_powC 10 18 1000000000000000000) pe_int pe_int) (nomark _)) (pss_one (ps_asg (pv 2) (pg_sub (pv 0) pe_int set_list))) pss_nil))) pss_nil)
      (pss_cons (ps_if (pt_cmpR op_gt (pe_ix (r := rIxL K) ix_list (pv 0) pe_int (fun _ _ => rfl)) pe_int (nomark _)) (pss_cons (ps_set (i := 3) sc__law_draw.nd rfl (Or.inl rfl) (pe_op op_mod (pe_ix (r := rIxL K) ix_list (pv 0) pe_int (fun _ _ => rfl)) (pv 1)))
      (pss_cons (ps_asg (pe_op op_fdiv (pe_ix (r := rIxL K) ix_list (pv 0) pe_int (fun _ _ => rfl)) (pv 1)) (pg_sub (pv 0) pe_int set_list))
      (pss_one (ps_ret (pv 3))))) pss_nil)
      (pss_cons (ps_set (i := 2) sc__law_draw.nd rfl (Or.inl rfl) (pe_op op_mod (pe_op op_mul (pe_op op_add (pe_op op_mod (pv 2) pe_int) (pe_op op_mul pe_int (pe_ix (r := rIxL K) ix_list (pv 0) pe_int (fun _ _ => rfl)))) pe_int) pe_int))
      (pss_cons (ps_set (i := 2) sc__law_draw.nd rfl (Or.inl rfl) (pe_op op_mod (pe_op op_add (pe_op op_add (pe_op op_mul (pv 2) (pv 2)) (pe_op op_mul pe_int (pe_ix (r := rIxL K) ix_list (pv 0) pe_int (fun _ _ => rfl)))) pe_int) pe_int))
      (pss_cons (ps_set (i := 2) sc__law_draw.nd rfl (Or.inl rfl) (pe_op op_mod (pe_op op_add (pe_op op_mul (pv 2) (pv 2)) pe_int) pe_int))
      (pss_one (ps_ret (pe_op op_mod (pe_op op_fdiv (pv 2) pe_int) (pv 1))))))))))), ?_⟩
    refine ⟨_, rfl, getE hd rfl ⟨_, _, rfl, rfl, ?_⟩⟩
    refine ⟨_, rfl, setE hd rfl ?_⟩
    have E1 : Evo [dk, c] H (upd H dk (.lst (dk3 c s (n + 1) g))) := (Evo.refl _ H).set i1 hmd hfd
    have hd1 : upd H dk (.lst (dk3 c s (n + 1) g)) dk = some (.lst (dk3 c s (n + 1) g)) := upd_same
    have hc1 : upd H dk (.lst (dk3 c s (n + 1) g)) c = some (.lst (cs.map V.int)) := get_ne ncd hc
    refine ⟨_, rfl, getE hd1 rfl ?_⟩
    refine ⟨fun σ H' => ∃ (num g' : Int) (cs' : List Int), σ = [some (.ref dk), some (.int m), some (.int num), none] ∧ H' dk = some (.lst (dk3 c s (n + 1) g')) ∧ H' c = some (.lst (cs'.map V.int)) ∧ Evo [dk, c] H H', ?_, ?_⟩
    · refine ⟨_, rfl, getE hd1 rfl ⟨_, _, rfl, rfl, _, rfl, iteD (fun hg => ?_) (fun hg => ?_)⟩⟩
      · refine ⟨_, rfl, getE hd1 rfl ⟨sz (by decide), fun p hp => ?_⟩⟩
        have E2 := E1.new (o := .lst []) hp
        have hd2 := get_new (o := .lst []) hp hd1
        have hc2 := get_new (o := .lst []) hp hc1
        refine ⟨_, eqL hc2 upd_same (intsOf_of cs) (xs := cs) (ys := []) rfl, ?_⟩
        refine ⟨_, rfl, iteN (fun hne => ?_) (fun he => ?_)⟩
        · refine ⟨_, rfl, getE hd2 rfl ⟨.inl ⟨rfl, _, SqL.of hc2⟩, ?_⟩⟩
          have hpos : 0 < cs.length := List.length_pos_iff.mpr hne
          have hla : (cs.map V.int)[(cs.map V.int).length - 1]? = some (.int (cs[cs.length - 1]'(by omega))) := by
            rw [List.length_map, List.getElem?_map, List.getElem?_eq_getElem (by omega)]
            rfl
          refine ⟨c, _, _, rfl, rfl, hc2, hla, ?_⟩
          generalize cs[cs.length - 1]'(by omega) = z
          rw [show (cs.map V.int).dropLast = cs.dropLast.map V.int by rw [List.map_dropLast]]
          have hd3 := get_ne (o := .lst (cs.dropLast.map V.int)) ncd.symm hd2
          have E3 := E2.set (o := .lst (cs.dropLast.map V.int)) i2 hmc hfc
          refine ⟨_, rfl, rfl, rfl, _, _, rfl, rfl, _, rfl, iteD (fun hz => ?_) (fun hz => ?_)⟩
          · refine ⟨_, rfl, ⟨_, rfl, setE hd3 rfl ?_⟩⟩
            exact ⟨z, _, cs.dropLast, rfl, upd_same, get_ne ncd upd_same, E3.set i1 hmd hfd⟩
          · exact ⟨z, _, cs.dropLast, rfl, hd3, upd_same, E3⟩
        · exact ⟨s, _, cs, rfl, hd2, hc2, E2⟩
      · exact ⟨s, _, cs, rfl, hd1, hc1, E1⟩
    · rintro σ' H' ⟨num, g', cs', rfl, hd4, hc4, E4⟩
      refine ⟨_, rfl, getE hd4 rfl ⟨_, _, rfl, rfl, _, rfl, iteD (fun hg => ?_) (fun hg => ?_)⟩⟩
      · refine ⟨_, rfl, getE hd4 rfl ⟨_, rfl, ⟨_, _, rfl, rfl, by walk_at "ewc", ?_⟩⟩⟩
        refine ⟨_, rfl, getE hd4 rfl ⟨_, rfl, ⟨_, _, rfl, rfl, by walk_at "ewc", ?_⟩⟩⟩
        refine ⟨_, rfl, setE hd4 rfl ?_⟩
        refine ⟨_, rfl, ?_⟩
        exact k _ _ (Int.emod_nonneg _ (by omega)) (Int.emod_lt_of_pos _ m0) ⟨_, _, _, _, upd_same, get_ne ncd hc4⟩ (E4.set i1 hmd hfd)
      · refine ⟨_, rfl, ⟨_, _, rfl, rfl, by walk_at "ewc", ?_⟩⟩
        refine ⟨_, rfl, getE hd4 rfl ⟨_, _, rfl, rfl, by walk_at "ewc", ⟨_, _, rfl, rfl, ⟨_, _, rfl, rfl, by walk_at "ewc", ⟨_, _, rfl, rfl, by walk_at "ewc", ?_⟩⟩⟩⟩⟩
        have n0 : ∀ z : Int, 0 ≤ z % 2147483647 := fun z => by omega
        have n1 : ∀ z : Int, z % 2147483647 < 2147483647 := fun z => by omega
        refine ⟨_, rfl, _, rfl, ⟨_, _, rfl, rfl, Or.inl ⟨Int.lt_of_lt_of_le (by decide) (n0 _), Int.lt_trans (n1 _) (by decide)⟩, ?_⟩⟩
        refine ⟨_, rfl, getE hd4 rfl ⟨_, _, rfl, rfl, by walk_at "ewc", ⟨_, _, rfl, rfl, ⟨_, _, rfl, rfl, ⟨_, _, rfl, rfl, by walk_at "ewc", ?_⟩⟩⟩⟩⟩
        have n2 : ∀ z : Int, 0 ≤ z % 2147483629 := fun z => by omega
        have n3 : ∀ z : Int, z % 2147483629 < 2147483629 := fun z => by omega
        refine ⟨_, rfl, _, rfl, ⟨_, _, rfl, rfl, Or.inl ⟨Int.lt_of_lt_of_le (by decide) (n2 _), Int.lt_trans (n3 _) (by decide)⟩, ?_⟩⟩
        refine ⟨_, _, rfl, rfl, ⟨_, _, rfl, rfl, by walk_at "ewc", ?_⟩⟩
        refine ⟨_, rfl, ⟨_, _, rfl, rfl, by walk_at "ewc", ⟨_, rfl, ⟨_, _, rfl, rfl, by walk_at "ewc", ?_⟩⟩⟩⟩
        exact k _ _ (Int.emod_nonneg _ (by omega)) (Int.emod_lt_of_pos _ m0) ⟨_, _, _, _, hd4, hc4⟩ E4
end
end
end Ew
namespace Ew
open PySem PySem.Spec PyProof.Rows L2 Pu
variable [Tbs]
section
variable {P : Program} {w : World} {K : PySem.W.Frag} {mg : Str → Option Value} {base : Heap}
theorem deck_dkF {H : Hp} {dk c : Addr} (h : Deck H dk c) : DkF 3 H dk c := by
  obtain ⟨s, n, g, cs, h1, h2⟩ := h
  exact ⟨s, n, g, cs, h1, h2, trivial⟩
def P__law_deck : PSt := (sRet (eLst (aCons (eUn dRevL (eV 1)) (aCons (eOp dAdd (eC (.int 1)) (eOp dMod (eCall gSum (aCons (eLc [2, 3] (iEnum0 (eV 1)) (gtTup 2 (gtCons (gtName 2) (gtCons (gtName 3) gtNil))) (fun _ k => k true) (eOp dMul (eOp dMod (eV 3) (eC (.int 1000003))) (eOp dAdd (eV 2) (eC (.int 3))))) aNil)) (eC (.int 2147483629)))) (aCons (eC (.int 0)) (aCons (eC (.int 0)) aNil))))))
local macro_rules | `(tactic| walk_at "pscall") => `(tactic| fail)
local macro_rules | `(tactic| walk_at "psside") => `(tactic| first
  | exact Or.inl ⟨by decide, by decide⟩
  | exact Or.inr ⟨by decide, by decide⟩
  | exact ⟨by decide, by decide, by decide⟩
  | exact ⟨by decide, by decide⟩
  | decide
  | omega
  | (unfold CMul; omega)
  | (unfold CDiv; omega))
local macro_rules | `(tactic| walk_at "ps") => `(tactic| first
  | with_reducible refine nx_i ?_
  | with_reducible refine rt_i ?_
  | with_reducible refine blK_i ?_
  | with_reducible refine sSeq_set ?_
  | with_reducible refine sSeq_setM ?_
  | with_reducible refine sSetM_i ?_
  | ((with_reducible refine' sDput_i ?ps1 ?_); (case ps1 => exact rfl))
  | ((with_reducible refine' eO_d ?ps1 ?_); (case ps1 => exact rfl))
  | with_reducible refine dDin_i ?_
  | with_reducible refine mE_i ?_
  | with_reducible refine mLst_i ?_
  | with_reducible refine mTup_i ?_
  | with_reducible refine mCons_i ?_
  | with_reducible refine mNil_i ?_
  | ((with_reducible refine' mPop_i ?ps1 ?_); (case ps1 => exact rfl))
  | ((with_reducible refine' mPop0_i ?ps1 ?_); (case ps1 => exact rfl))
  | with_reducible refine sSeq_ifr ?_
  | with_reducible refine sSeq_asg ?_
  | with_reducible refine sSeq_own ?_
  | with_reducible refine sSeq_app ?_
  | with_reducible refine sSeq_for ?_
  | with_reducible refine sSeq_par ?_
  | with_reducible refine sSeq_drop ?_
  | with_reducible refine sSeq_put ?_
  | with_reducible refine sSeq_pop ?_
  | with_reducible refine sSeq_ifn ?_
  | ((with_reducible refine' eV_i ?ps1 ?_); (case ps1 => exact rfl))
  | with_reducible refine eOp_i ?_
  | with_reducible refine eC_i ?_
  | ((with_reducible refine' dIx_t ?ps1 ?_); (case ps1 => exact rfl))
  | with_reducible refine dI0_i ?_
  | with_reducible refine dAdd_i ?_
  | with_reducible refine aCons_i ?_
  | with_reducible refine dEq_int ?_
  | with_reducible refine dNe_int ?_
  | with_reducible refine aNil_i ?_
  | with_reducible refine eCall_i ?_
  | walk_at "pscall"
  | ((with_reducible refine' and_rfl ?ps1 ?_); (case ps1 => exact rfl))
  | with_reducible refine sSet_i ?_
  | with_reducible refine sNext_i ?_
  | with_reducible refine sRet_i ?_
  | with_reducible refine eTup_i ?_
  | ((with_reducible refine' and_le ?ps1 ?_); (case ps1 => exact rfl))
  | with_reducible refine tOf_i ?_
  | with_reducible refine sIf_i ?_
  | with_reducible refine tAndP_i ?_
  | with_reducible refine tOrP_i ?_
  | with_reducible refine tNotP_i ?_
  | with_reducible refine gMax_2 ?_
  | with_reducible refine gMin_2 ?_
  | with_reducible refine gMax_3 ?_
  | with_reducible refine gMin_3 ?_
  | with_reducible refine gMax_4 ?_
  | with_reducible refine gMin_4 ?_
  | with_reducible refine gMax_5 ?_
  | with_reducible refine gAbs_i ?_
  | with_reducible refine gLen_t ?_
  | with_reducible refine gLen_l ?_
  | with_reducible refine gInt_i ?_
  | with_reducible refine gInt_b ?_
  | ((with_reducible refine' gIsi_i ?ps1 ?ps2 ?_); (case ps1 => exact rfl); (case ps2 => exact rfl))
  | with_reducible refine sAsg_i ?_
  | ((with_reducible refine' gtTup_i ?ps1 ?_); (case ps1 => exact rfl))
  | with_reducible refine gtCons_i ?_
  | with_reducible refine gtNil_i ?_
  | with_reducible refine gtName_i ?_
  | with_reducible refine sPar_i ?_
  | with_reducible refine prK_i ?_
  | with_reducible refine inK_i ?_
  | with_reducible refine sqK_t ?_
  | with_reducible refine sqK_l ?_
  | with_reducible refine bk_i ?_
  | with_reducible refine ct_i ?_
  | with_reducible refine eUn_i ?_
  | with_reducible refine dNeg_i ?_
  | with_reducible refine dNot_i ?_
  | with_reducible refine eAnd_i ?_
  | with_reducible refine eOr_i ?_
  | with_reducible refine eChain_i ?_
  | with_reducible refine eIf_i ?_
  | ((with_reducible refine' dIx_l ?ps1 ?_); (case ps1 => exact rfl))
  | with_reducible refine eLst_i ?_
  | with_reducible refine dTuple_l ?_
  | with_reducible refine dTuple_t ?_
  | with_reducible refine dList_l ?_
  | with_reducible refine dList_t ?_
  | ((with_reducible refine' eO_i ?ps1 ?_); (case ps1 => exact rfl))
  | with_reducible refine sOwn_i ?_
  | ((with_reducible refine' and_lt ?ps1 ?_); (case ps1 => exact rfl))
  | ((with_reducible refine' sAppend_i ?ps1 ?_); (case ps1 => exact rfl))
  | ((with_reducible refine' sFrz_i ?ps1 ?_); (case ps1 => exact rfl))
  | ((with_reducible refine' sRetO_i ?ps1 ?_); (case ps1 => exact rfl))
  | with_reducible refine sRetN_i ?_
  | with_reducible refine sDrop_i ?_
  | with_reducible refine sFor_i ?_
  | with_reducible refine iRange1_i ?_
  | with_reducible refine iRange2_i ?_
  | with_reducible refine iSeq_i ?_
  | with_reducible refine iEnumS_i ?_
  | with_reducible refine iEnum0_i ?_
  | with_reducible refine en0K_t ?_
  | with_reducible refine en0K_l ?_
  | with_reducible refine iRev1_i ?_
  | with_reducible refine sSeq_ins ?_
  | with_reducible refine sSeq_aug ?_
  | ((with_reducible refine' sAug_i ?ps1 ?_); (case ps1 => exact rfl))
  | ((with_reducible refine' sInsert_i ?ps1 ?_); (case ps1 => exact rfl))
  | ((with_reducible refine' sPopAt_i ?ps1 ?_); (case ps1 => exact rfl))
  | with_reducible refine eSl_i ?_
  | with_reducible refine eLc_i ?_
  | with_reducible refine eLc2_i ?_
  | with_reducible refine oNo_i ?_
  | with_reducible refine oPart_i ?_
  | with_reducible refine dSl_t ?_
  | with_reducible refine dSl_l ?_
  | with_reducible refine dRevL_i ?_
  | with_reducible refine eRg1_i ?_
  | with_reducible refine bCase_t ?_
  | with_reducible refine bCase_f ?_
  | with_reducible refine ite_t ?_
  | with_reducible refine ite_f ?_
  | with_reducible refine ite_nt ?_
  | with_reducible refine ite_nf ?_
  | ((with_reducible refine' dII_i ?ps1 ?_); (case ps1 => walk_at "psside")))
local macro_rules | `(tactic| walk_at "psenv") => `(tactic| simp only [List.map_cons, List.map_nil, List.cons_append, List.nil_append, List.length_cons, List.length_nil, Nat.reduceAdd, Nat.reduceSub, List.replicate])
theorem intsD_m' {α : Type} (l : List α) (f : α → Int) : intsD (l.map fun x => D.int (f x)) = some (l.map f) := by
  have : (l.map fun x => D.int (f x)) = (l.map f).map D.int := by rw [List.map_map]; rfl
  rw [this]
  exact intsD_map _
theorem deck_pure {ns : List Int} (hn : ns.length ≤ 63) : P__law_deck (SV.no :: SV.val (.lst (ns.map D.int)) :: List.replicate (N__law_deck.length - 2) SV.no) { nx := fun _ => False, rt := fun d => ∃ (es : List Int) (s : Int), d = .lst [.lst (es.map D.int), .int s, .int 0, .int 0] } := by
  show P__law_deck [SV.no, SV.val (.lst (ns.map D.int)), SV.no, SV.no] _
  unfold P__law_deck
  repeat walk_at "ps"
  refine ⟨by simp [noOwn], ?_⟩
  unfold enumD
  have hg : ∀ i ∈ List.range (ns.map D.int).length, ((ns.map D.int)[i]?).getD .non = .int ((ns[i]?).getD 0) := fun i hi => by
    have := List.mem_range.mp hi
    rw [List.length_map] at this
    rw [List.getElem?_map, List.getElem?_eq_getElem this]
    rfl
  refine lcP_m (fun i : Nat => .tup [.int (0 + (i : Nat)), ((ns.map D.int)[i]?).getD .non]) (fun i : Nat => .int ((ns[i]?).getD 0 % 1000003 * (0 + (i : Nat) + 3))) (List.range (ns.map D.int).length) (by rw [List.length_range, List.length_map]; omega) ?_ ?_
  · intro i hi A B hA
    rw [hg i hi]
    have hi' := List.mem_range.mp hi
    rw [List.length_map] at hi'
    repeat walk_at "ps"
    exact hA
  repeat walk_at "ps"
  refine gSum_i (intsD_m' _ _) ?_
  repeat walk_at "ps"
  exact ⟨ns.reverse, _, by rw [List.map_reverse]⟩
theorem isa_ints {z : Zn} {M : AP} {H : Hp} : ∀ {vs : List V} {es : List Int}, IsA z M H vs (es.map D.int) → vs = es.map V.int
  | [], [], _ => rfl
  | v :: vs, e :: es, h => by
    cases h with
    | cons h1 h2 =>
      cases h1
      rw [isa_ints h2]
      rfl
inductive sp__law_deck (K : PySem.W.Frag) : List V → Hp → VK → XK → Prop
  | mk {H : Hp} {Q : VK} {E : XK} {a : Addr} {ns : List Int} (hS : SqL K H a (ns.map V.int)) (hn : ns.length ≤ 63) (hT : Tabs H) (k : ∀ H' dk c, Deck H' dk c → Tabs H' → True → True → Q (.ref dk) H') : sp__law_deck K [.ref a] H Q E
theorem ok__law_deck (T : Tx K mg base) : FnOk P w K mg base CX0 1 T.a__law_deck T.d__law_deck ["_law_script"] (sp__law_deck K) := by
  refine T.F__law_deck.ok sc__law_deck (fun vs H Q _ h => ?_) (fun _ _ _ _ H vs Q _ hr h => ?_)
  · cases h
    rfl
  · obtain @⟨_, _, _, a, ns, hS, hn, hT, k⟩ := h
    have hlen : (ns.map V.int).length ≤ 63 := by rw [List.length_map]; exact hn
    refine ⟨_, pss_cons (ps_set (i := 1) sc__law_deck.nd rfl (Or.inl rfl) (pe_callTy call_list_of (by rfl) T.n_list (by decide +kernel) (pa_cons (pe_slice (r := Ew.rSlE K) Ew.sl_listE (pv 0) po_none (po_some pe_int)) pa_nil))) (B.pss (fr := false) (p := P__law_deck) (b_one (s_ret (E.toB (e_lst (a_cons (l := true) (E.fe (e_revL (E.ec (e_v 1)))) (a_cons (l := true) (e_op op_addA opd_add (E.ec e_int) (E.ec (e_op op_mod opd_mod (E.toB (e_callB (cr_sum rfl) cd_sum (by rfl) T.n_sum (by decide +kernel) (a_cons (l := false) (E.toB (e_lc (own := [("_law_k", 2), ("_law_cell", 3)]) (i_enum0 (e_v 1) (by rfl) T.n_enumerate) (fun _ _ _ _ _ => (g_tup (by rfl) (gs_cons (g_name (i := 2) sc__law_deck.nd rfl (.inl rfl)) (gs_cons (g_name (i := 3) sc__law_deck.nd rfl (.inl rfl)) gs_nil)))) (fun _ _ _ _ _ => ts_nil) (fun _ _ _ _ _ => (e_op op_mul opd_mul (E.toB (e_op op_mod opd_mod (E.toB (e_v 3)) (E.toB e_int))) (E.toB (e_op op_addA opd_add (E.ec (e_v 2)) (E.ec e_int))))) rfl sc__law_deck.nd (blkOk_by (N := N__law_deck) (sc := defScope s__law_deck) (by decide +kernel)) (fun _ h => h) (rg_tup (rgs_cons rg_name (rgs_cons rg_name rgs_nil))))) a_nil))) (E.toB e_int)))) (a_cons (l := true) e_int (a_cons (l := true) e_int a_nil))))))))), ?_⟩
    refine ⟨_, rfl, _, rfl, _, _, _, rfl, hS, Ew.cut63 hlen, fun q hq => ?_⟩
    refine ⟨_, _, rfl, .inl (SqL.of upd_same), fun c hc => ?_⟩
    refine rest_deck (N := N__law_deck) (cs := ns) rs_tPS (by decide) upd_same ((hT.new hq).new hc) (fun H' v d hd r hT' => ?_) (deck_pure hn)
    obtain ⟨es, t, rfl⟩ := hd
    cases r with
    | lst e _ r =>
      cases r with
      | cons r1 r =>
        cases r with
        | cons r2 r =>
          obtain ⟨v3, v4, rfl, r3, r4⟩ := r.two
          cases r2
          cases r3
          cases r4
          cases r1 with
          | lst e1 _ r1 =>
            refine k _ _ _ ⟨_, _, _, es, e, ?_⟩ hT' trivial trivial
            rw [e1]
            congr 2
            exact isa_ints r1
theorem okS__law_draw (T : Tx K mg base) : FnOk P w K mg base CX0 1 T.a__law_draw T.d__law_draw ["_law_deck_here", "_law_most"] (Sf false 2 wp__law_draw) := by
  refine (ok__law_draw T).imp fun vs H Q E h => ?_
  obtain ⟨z, X, ds, k, hl, hz, hx, hA, hw, c⟩ := h
  unfold wp__law_draw at hw
  split at hw
  · obtain ⟨v, u, rfl, hv, hu⟩ := hA.two
    cases hu
    obtain ⟨⟨m0, m1⟩, hk⟩ := hw
    generalize hd : D.deck 3 = d at hv
    cases hv with
    | deck ho =>
      obtain ⟨e1, e2, e3, -⟩ := ho
      injection hd with hd
      rw [← hd] at e3
      have e3' := e3
      obtain ⟨a, r, s, cs, h1, h2, h3⟩ := e3
      rw [e1]
      refine sp__law_draw.mk (c := z.c) ⟨a, r, s, cs, h1, h2⟩ m0 m1 fun H' t t0 t1 hD ev => ?_
      obtain ⟨a', r', s', cs', g1, g2⟩ := hD
      refine c (.int t) (.int t) H' ⟨fun b o q n => ev.old b o q fun m => ?_, fun b q => ?_, fun b q => ?_, tab_deck e3' ev.old⟩ (.int t) (fun q => Bool.noConfusion q) (hk t t0 t1)
      · rcases List.mem_cons.mp m with w | w
        · exact n (.inl ⟨e2, .inl w⟩)
        · exact n (.inl ⟨e2, .inr (List.mem_singleton.mp w)⟩)
      · by_cases hb : b ∈ [z.dk, z.c]
        · rcases List.mem_cons.mp hb with w | w
          · rw [w, g1]; intro q; cases q
          · rw [List.mem_singleton.mp w, g2]; intro q; cases q
        · cases hq : H b with
          | none => exact absurd hq q
          | some o => rw [ev.old b o hq hb]; intro q; cases q
      · obtain ⟨q1, q2, q3⟩ := q
        exact ⟨q1, q2, (by rw [← hd]; exact ⟨a', r', s', cs', g1, g2, trivial⟩), (by rw [← hd]; trivial)⟩
    | _ => cases hd
  · exact hw.elim
end
end Ew
namespace Ew
open PySem PySem.Spec PyProof.Rows L2 Pu
variable [Tbs]
section
variable {P : Program} {w : World} {K : PySem.W.Frag} {mg : Str → Option Value} {base : Heap}
theorem ok_chain (T : Tx K mg base) : FnOk P w K mg base CX0 1 T.a_chain T.d_chain ["many", "joining", "knot"] (Sf false 3 wp_chain) :=
  fn_ok (p := P_chain) (k := 0) T.F_chain sc_chain (fun _ _ _ _ _ _ hr => (b_cons (s_own (i := 3) (e_lst (a_cons (l := true) (e_v 2) a_nil)) sc_chain.nd rfl (Or.inl rfl))
    (b_cons (s_for (i_enumS (e_v 1) (E.toB (e_v 0)) (by rfl) T.n_enumerate) (g_tup (by rfl) (gs_cons (g_name (i := 4) sc_chain.nd rfl (.inl rfl)) (gs_cons (g_name (i := 5) sc_chain.nd rfl (.inl rfl)) gs_nil)))
    (b_one (s_if (t_cmp op_in_seq (OpD.eb (opd_in (neg := false))) (E.toB (e_ix (e_o 3) (E.ec (e_neg (E.toB e_int))))) (E.toB (e_v 5)) (by rfl)) (b_one (s_append 3 (e_v 4) (hb := fun _ _ ho he => pe_bm PySem.F.plainAttrs_list PySem.F.slot_list_append PySem.F.type_list_append mt_append ho (pa_cons he pa_nil)))) b_nil)) PassesOwn.never rfl)
    (b_frz 3 (b_one (s_ret (E.toB (e_tuple (E.ec (e_v 3)) (by rfl) T.n_tuple (by decide +kernel)))))))))
theorem ok_beneath (T : Tx K mg base) : FnOk P w K mg base CX0 2 T.a_beneath T.d_beneath ["many", "joining", "knot"] (Sf false 3 wp_beneath) :=
  fn_ok (p := P_beneath) (k := 1) T.F_beneath sc_beneath (fun _ _ _ _ _ _ hr => (b_one (s_ret (E.toB (e_tuple (E.ec (E.fe (e_lc (own := [("end", 3)]) (i_range1 (a_cons (l := false) (E.toB (e_v 0)) a_nil) (by rfl) T.n_range) (fun _ _ _ _ _ => (g_name (i := 3) sc_beneath.nd rfl (.inl rfl))) (fun _ _ _ _ _ => (ts_one (t_cmp op_in_seq (OpD.eb (opd_in (neg := false))) (E.toB (e_v 2)) (E.toB (e_call (mo := .e) (ok_chain T) (hr.mono (by decide)) rfl T.g_chain T.F_chain.kp T.b_chain (a_cons (l := true) (e_v 0) (a_cons (l := true) (e_v 1) (a_cons (l := true) (e_v 3) a_nil))) (.inl rfl))) (by rfl)))) (fun _ _ _ _ _ => (e_v 3)) rfl sc_beneath.nd (blkOk_by (N := N_beneath) (sc := defScope s_beneath) (by decide +kernel)) (fun _ h => h) rg_name))) (by rfl) T.n_tuple (by decide +kernel))))))
theorem ok_joints_above (T : Tx K mg base) : FnOk P w K mg base CX0 1 T.a_joints_above T.d_joints_above ["joining"] (Sf false 1 wp_joints_above) :=
  fn_ok (p := P_joints_above) (k := 0) T.F_joints_above sc_joints_above (fun _ _ _ _ _ _ hr => (b_cons (s_set (i := 1) (e_op op_addA opd_add (E.ec (e_callB call_lenA cd_len (by rfl) T.n_len (by decide +kernel) (a_cons (l := false) (E.toB (e_v 0)) a_nil))) (E.ec e_int)) sc_joints_above.nd rfl (Or.inl rfl))
    (b_cons (s_own (i := 2) (e_op op_rep opd_rep (E.ec (E.fe (e_lst (a_cons (l := true) e_int a_nil)))) (E.ec (e_op op_mul opd_mul (E.toB e_int) (E.toB (e_callB call_lenA cd_len (by rfl) T.n_len (by decide +kernel) (a_cons (l := false) (E.toB (e_v 0)) a_nil)))))) sc_joints_above.nd rfl (Or.inl rfl))
    (b_cons (s_for (i_enumS (e_v 0) (E.toB (e_v 1)) (by rfl) T.n_enumerate) (g_tup (by rfl) (gs_cons (g_name (i := 3) sc_joints_above.nd rfl (.inl rfl)) (gs_cons (g_name (i := 4) sc_joints_above.nd rfl (.inl rfl)) gs_nil)))
    (b_one (s_for (i_seq (e_v 4)) (g_name (i := 5) sc_joints_above.nd rfl (.inl rfl))
    (b_one (s_put 2 (e_v 3) (E.toB (e_v 5)))) PassesOwn.never rfl)) PassesOwn.never rfl)
    (b_frz 2 (b_one (s_ret (E.toB (e_tuple (E.ec (e_v 2)) (by rfl) T.n_tuple (by decide +kernel))))))))))
theorem ok_spot_of (T : Tx K mg base) : FnOk P w K mg base CX0 1 T.a_spot_of T.d_spot_of ["grain", "x", "y"] (Sf false 3 wp_spot_of) :=
  fn_ok (p := P_spot_of) (k := 0) T.F_spot_of sc_spot_of (fun _ _ _ _ _ _ hr => (b_one (s_ret (E.toB (e_tup (a_cons (l := true) (e_op op_mul opd_mul (E.toB (e_v 0)) (E.toB (e_op op_addA opd_add (E.ec (e_v 1)) (E.ec (e_v 2))))) (a_cons (l := true) (e_op op_mul opd_mul (E.toB (e_v 0)) (E.toB (e_op op_sub opd_sub (E.toB (e_v 1)) (E.toB (e_v 2))))) a_nil)))))))
theorem ok_grown (T : Tx K mg base) : FnOk P w K mg base CX0 1 T.a_grown T.d_grown ["box", "by"] (Sf false 2 wp_grown) :=
  fn_ok (p := P_grown) (k := 0) T.F_grown sc_grown (fun _ _ _ _ _ _ hr => (b_cons (s_asg (e_v 0) (g_tup (by rfl) (gs_cons (g_name (i := 2) sc_grown.nd rfl (.inl rfl)) (gs_cons (g_name (i := 3) sc_grown.nd rfl (.inl rfl)) (gs_cons (g_name (i := 4) sc_grown.nd rfl (.inl rfl)) (gs_cons (g_name (i := 5) sc_grown.nd rfl (.inl rfl)) gs_nil))))))
    (b_one (s_ret (E.toB (e_tup (a_cons (l := true) (e_op op_sub opd_sub (E.toB (e_v 2)) (E.toB (e_v 1))) (a_cons (l := true) (e_op op_addA opd_add (E.ec (e_v 3)) (E.ec (e_v 1))) (a_cons (l := true) (e_op op_sub opd_sub (E.toB (e_v 4)) (E.toB (e_v 1))) (a_cons (l := true) (e_op op_addA opd_add (E.ec (e_v 5)) (E.ec (e_v 1))) a_nil))))))))))
theorem ok_met (T : Tx K mg base) : FnOk P w K mg base CX0 1 T.a_met T.d_met ["box", "other"] (Sf false 2 wp_met) :=
  fn_ok (p := P_met) (k := 0) T.F_met sc_met (fun _ _ _ _ _ _ hr => (b_cons (s_set (i := 2) (e_callB (call_maxN rfl) cd_maxN (by rfl) T.n_max (by decide +kernel) (a_cons (l := false) (E.toB (e_ix (E.ec (e_v 0)) (E.ec e_int))) (a_cons (l := false) (E.toB (e_ix (E.ec (e_v 1)) (E.ec e_int))) a_nil))) sc_met.nd rfl (Or.inl rfl))
    (b_cons (s_set (i := 3) (e_callB (call_minN rfl) cd_minN (by rfl) T.n_min (by decide +kernel) (a_cons (l := false) (E.toB (e_ix (E.ec (e_v 0)) (E.ec e_int))) (a_cons (l := false) (E.toB (e_ix (E.ec (e_v 1)) (E.ec e_int))) a_nil))) sc_met.nd rfl (Or.inl rfl))
    (b_cons (s_set (i := 4) (e_callB (call_maxN rfl) cd_maxN (by rfl) T.n_max (by decide +kernel) (a_cons (l := false) (E.toB (e_ix (E.ec (e_v 0)) (E.ec e_int))) (a_cons (l := false) (E.toB (e_ix (E.ec (e_v 1)) (E.ec e_int))) a_nil))) sc_met.nd rfl (Or.inl rfl))
    (b_cons (s_set (i := 5) (e_callB (call_minN rfl) cd_minN (by rfl) T.n_min (by decide +kernel) (a_cons (l := false) (E.toB (e_ix (E.ec (e_v 0)) (E.ec e_int))) (a_cons (l := false) (E.toB (e_ix (E.ec (e_v 1)) (E.ec e_int))) a_nil))) sc_met.nd rfl (Or.inl rfl))
    (b_cons (s_if (w_t (w_or (t_cmp op_gt (OpD.eb opd_gt) (E.toB (e_v 2)) (E.toB (e_v 3)) (nomark _)) (w_or1 (t_cmp op_gt (OpD.eb opd_gt) (E.toB (e_v 4)) (E.toB (e_v 5)) (nomark _))))) (b_one (s_ret (E.toB e_non))) b_nil)
    (b_one (s_ret (E.toB (e_tup (a_cons (l := true) (e_v 2) (a_cons (l := true) (e_v 3) (a_cons (l := true) (e_v 4) (a_cons (l := true) (e_v 5) a_nil))))))))))))))
theorem ok_apart (T : Tx K mg base) : FnOk P w K mg base CX0 1 T.a_apart T.d_apart ["box", "other"] (Sf false 2 wp_apart) :=
  fn_ok (p := P_apart) (k := 0) T.F_apart sc_apart (fun _ _ _ _ _ _ hr => (b_one (s_ret (E.toB (e_callB (call_maxN rfl) cd_maxN (by rfl) T.n_max (by decide +kernel) (a_cons (l := false) (E.toB e_int) (a_cons (l := false) (E.toB (e_op op_sub opd_sub (E.toB (e_ix (E.ec (e_v 0)) (E.ec e_int))) (E.toB (e_ix (E.ec (e_v 1)) (E.ec e_int))))) (a_cons (l := false) (E.toB (e_op op_sub opd_sub (E.toB (e_ix (E.ec (e_v 1)) (E.ec e_int))) (E.toB (e_ix (E.ec (e_v 0)) (E.ec e_int))))) (a_cons (l := false) (E.toB (e_op op_sub opd_sub (E.toB (e_ix (E.ec (e_v 0)) (E.ec e_int))) (E.toB (e_ix (E.ec (e_v 1)) (E.ec e_int))))) (a_cons (l := false) (E.toB (e_op op_sub opd_sub (E.toB (e_ix (E.ec (e_v 1)) (E.ec e_int))) (E.toB (e_ix (E.ec (e_v 0)) (E.ec e_int))))) a_nil))))))))))
theorem ok_within (T : Tx K mg base) : FnOk P w K mg base CX0 1 T.a_within T.d_within ["least", "greatest", "number"] (Sf false 3 wp_within) :=
  fn_ok (p := P_within) (k := 0) T.F_within sc_within (fun _ _ _ _ _ _ hr => (b_one (s_ret (E.toB (e_callB (call_maxN rfl) cd_maxN (by rfl) T.n_max (by decide +kernel) (a_cons (l := false) (E.toB (e_v 0)) (a_cons (l := false) (E.toB (e_callB (call_minN rfl) cd_minN (by rfl) T.n_min (by decide +kernel) (a_cons (l := false) (E.toB (e_v 1)) (a_cons (l := false) (E.toB (e_v 2)) a_nil)))) a_nil)))))))
theorem ok_nearest (T : Tx K mg base) : FnOk P w K mg base CX0 2 T.a_nearest T.d_nearest ["box", "spot"] (Sf false 2 wp_nearest) :=
  fn_ok (p := P_nearest) (k := 1) T.F_nearest sc_nearest (fun _ _ _ _ _ _ hr => (b_cons (s_asg (e_v 0) (g_tup (by rfl) (gs_cons (g_name (i := 2) sc_nearest.nd rfl (.inl rfl)) (gs_cons (g_name (i := 3) sc_nearest.nd rfl (.inl rfl)) (gs_cons (g_name (i := 4) sc_nearest.nd rfl (.inl rfl)) (gs_cons (g_name (i := 5) sc_nearest.nd rfl (.inl rfl)) gs_nil))))))
    (b_one (s_ret (E.toB (e_tup (a_cons (l := true) (e_call (mo := .e) (ok_within T) (hr.mono (by decide)) rfl T.g_within T.F_within.kp T.b_within (a_cons (l := true) (e_v 2) (a_cons (l := true) (e_v 3) (a_cons (l := true) (e_ix (E.ec (e_v 1)) (E.ec e_int)) a_nil))) (.inl rfl)) (a_cons (l := true) (e_call (mo := .e) (ok_within T) (hr.mono (by decide)) rfl T.g_within T.F_within.kp T.b_within (a_cons (l := true) (e_v 4) (a_cons (l := true) (e_v 5) (a_cons (l := true) (e_ix (E.ec (e_v 1)) (E.ec e_int)) a_nil))) (.inl rfl)) a_nil))))))))
theorem ok_corner (T : Tx K mg base) : FnOk P w K mg base CX0 1 T.a_corner T.d_corner ["box"] (Sf false 1 wp_corner) :=
  fn_ok (p := P_corner) (k := 0) T.F_corner sc_corner (fun _ _ _ _ _ _ hr => (b_one (s_ret (E.toB (e_tup (a_cons (l := true) (e_ix (E.ec (e_v 0)) (E.ec e_int)) (a_cons (l := true) (e_ix (E.ec (e_v 0)) (E.ec e_int)) a_nil)))))))
theorem ok_has (T : Tx K mg base) : FnOk P w K mg base CX0 1 T.a_has T.d_has ["box", "spot"] (Sf false 2 wp_has) :=
  fn_ok (p := P_has) (k := 0) T.F_has sc_has (fun _ _ _ _ _ _ hr => (b_one (s_ret (E.toB (e_and (E.toB (e_chain op_le op_le (OpD.eb opd_le) opd_le (E.toB (e_ix (E.ec (e_v 0)) (E.ec e_int))) (E.toB (e_ix (E.ec (e_v 1)) (E.ec e_int))) (E.toB (e_ix (E.ec (e_v 0)) (E.ec e_int))))) (e_one (e_chain op_le op_le (OpD.eb opd_le) opd_le (E.toB (e_ix (E.ec (e_v 0)) (E.ec e_int))) (E.toB (e_ix (E.ec (e_v 1)) (E.ec e_int))) (E.toB (e_ix (E.ec (e_v 0)) (E.ec e_int))))))))))
theorem ok_steps (T : Tx K mg base) : FnOk P w K mg base CX0 1 T.a_steps T.d_steps ["one", "other"] (Sf false 2 wp_steps) :=
  fn_ok (p := P_steps) (k := 0) T.F_steps sc_steps (fun _ _ _ _ _ _ hr => (b_one (s_ret (E.toB (e_op op_addA opd_add (E.ec (e_callB call_abs cd_abs (by rfl) T.n_abs (by decide +kernel) (a_cons (l := false) (E.toB (e_op op_sub opd_sub (E.toB (e_ix (E.ec (e_v 0)) (E.ec e_int))) (E.toB (e_ix (E.ec (e_v 1)) (E.ec e_int))))) a_nil))) (E.ec (e_callB call_abs cd_abs (by rfl) T.n_abs (by decide +kernel) (a_cons (l := false) (E.toB (e_op op_sub opd_sub (E.toB (e_ix (E.ec (e_v 0)) (E.ec e_int))) (E.toB (e_ix (E.ec (e_v 1)) (E.ec e_int))))) a_nil))))))))
theorem ok_wanted (T : Tx K mg base) : FnOk P w K mg base CX0 2 T.a_wanted T.d_wanted ["ends", "one", "other"] (Sf false 3 wp_wanted) :=
  fn_ok (p := P_wanted) (k := 1) T.F_wanted sc_wanted (fun _ _ _ _ _ _ hr => (b_cons (s_set (i := 3) (e_ix (E.ec (e_v 0)) (E.ec (e_v 1))) sc_wanted.nd rfl (Or.inl rfl))
    (b_cons (s_set (i := 4) (e_ix (E.ec (e_v 0)) (E.ec (e_v 2))) sc_wanted.nd rfl (Or.inl rfl))
    (b_one (s_ret (E.toB (e_op op_addA opd_add (E.ec (e_op op_addA opd_add (E.ec (e_ix (E.ec (e_v 3)) (E.ec e_int))) (E.ec (e_ix (E.ec (e_v 4)) (E.ec e_int))))) (E.ec (e_call (mo := .e) (ok_steps T) (hr.mono (by decide)) rfl T.g_steps T.F_steps.kp T.b_steps (a_cons (l := true) (e_slice (E.ec (e_v 3)) o_none (o_some (E.toB e_int))) (a_cons (l := true) (e_slice (E.ec (e_v 4)) o_none (o_some (E.toB e_int))) a_nil)) (.inl rfl))))))))))
theorem ok_started (T : Tx K mg base) : FnOk P w K mg base CX0 1 T.a_started T.d_started ["ends"] (Sf false 1 wp_started) :=
  fn_ok (p := P_started) (k := 0) T.F_started sc_started (fun _ _ _ _ _ _ hr => (b_one (s_ret (E.toB (e_op op_mul opd_mul (E.toB (e_gint (by rfl) T.c_GRAIN)) (E.toB (e_callB (cr_sum rfl) cd_sum (by rfl) T.n_sum (by decide +kernel) (a_cons (l := false) (E.toB (e_lc (own := [("x", 1), ("y", 2), ("start", 3), ("load", 4)]) (i_seq (e_v 0)) (fun _ _ _ _ _ => (g_tup (by rfl) (gs_cons (g_name (i := 1) sc_started.nd rfl (.inl rfl)) (gs_cons (g_name (i := 2) sc_started.nd rfl (.inl rfl)) (gs_cons (g_name (i := 3) sc_started.nd rfl (.inl rfl)) (gs_cons (g_name (i := 4) sc_started.nd rfl (.inl rfl)) gs_nil)))))) (fun _ _ _ _ _ => ts_nil) (fun _ _ _ _ _ => (e_v 3)) rfl sc_started.nd (blkOk_by (N := N_started) (sc := defScope s_started) (by decide +kernel)) (fun _ h => h) (rg_tup (rgs_cons rg_name (rgs_cons rg_name (rgs_cons rg_name (rgs_cons rg_name rgs_nil))))))) a_nil))))))))
theorem ok_height_of (T : Tx K mg base) : FnOk P w K mg base CX0 3 T.a_height_of T.d_height_of ["ends", "some"] (Sf false 2 wp_height_of) :=
  fn_ok (p := P_height_of) (k := 2) T.F_height_of sc_height_of (fun _ _ _ _ _ _ hr => (b_one (s_ret (E.toB (e_callB (cr_max rfl) cd_maxL (by rfl) T.n_max (by decide +kernel) (a_cons (l := false) (E.toB (e_lc2 (own := [("one", 2), ("other", 3)]) (vs1 := [3]) (i_seq (e_v 1)) (fun _ _ _ _ _ => (g_name (i := 2) sc_height_of.nd rfl (.inl rfl))) (fun _ _ _ _ _ => ts_nil) (fun _ _ _ _ _ => (i_seq (e_v 1))) (fun _ _ _ _ _ => (g_name (i := 3) sc_height_of.nd rfl (.inl rfl))) (fun _ _ _ _ _ => ts_nil) (fun _ _ _ _ _ => (e_call (mo := .e) (ok_wanted T) (hr.mono (by decide)) rfl T.g_wanted T.F_wanted.kp T.b_wanted (a_cons (l := true) (e_v 0) (a_cons (l := true) (e_v 2) (a_cons (l := true) (e_v 3) a_nil))) (.inl rfl))) rfl sc_height_of.nd (blkOk_by (N := N_height_of) (sc := defScope s_height_of) (by decide +kernel)) (by decide) (fun _ h => h) (by decide) rg_name rg_name)) a_nil))))))
theorem ok_reached (T : Tx K mg base) : FnOk P w K mg base CX0 2 T.a_reached T.d_reached ["end", "height"] (Sf false 2 wp_reached) :=
  fn_ok (p := P_reached) (k := 1) T.F_reached sc_reached (fun _ _ _ _ _ _ hr => (b_cons (s_asg (e_call (mo := .e) (ok_spot_of T) (hr.mono (by decide)) rfl T.g_spot_of T.F_spot_of.kp T.b_spot_of (a_cons (l := true) (e_gint (by rfl) T.c_GRAIN) (a_cons (l := true) (e_ix (E.ec (e_v 0)) (E.ec e_int)) (a_cons (l := true) (e_ix (E.ec (e_v 0)) (E.ec e_int)) a_nil))) (.inl rfl)) (g_tup (by rfl) (gs_cons (g_name (i := 2) sc_reached.nd rfl (.inl rfl)) (gs_cons (g_name (i := 3) sc_reached.nd rfl (.inl rfl)) gs_nil))))
    (b_one (s_ret (E.toB (e_call (mo := .e) (ok_grown T) (hr.mono (by decide)) rfl T.g_grown T.F_grown.kp T.b_grown (a_cons (l := true) (e_tup (a_cons (l := true) (e_v 2) (a_cons (l := true) (e_v 2) (a_cons (l := true) (e_v 3) (a_cons (l := true) (e_v 3) a_nil))))) (a_cons (l := true) (e_op op_sub opd_sub (E.toB (e_v 1)) (E.toB (e_op op_mul opd_mul (E.toB (e_gint (by rfl) T.c_GRAIN)) (E.toB (e_ix (E.ec (e_v 0)) (E.ec e_int)))))) a_nil)) (.inl rfl)))))))
theorem ok_row_of (T : Tx K mg base) : FnOk P w K mg base CX0 4 T.a_row_of T.d_row_of ["ends", "some"] (Sf false 2 wp_row_of) :=
  fn_ok (p := P_row_of) (k := 3) T.F_row_of sc_row_of (fun _ _ _ _ _ _ hr => (b_cons (s_set (i := 2) (e_call (mo := .e) (ok_height_of T) (hr.mono (by decide)) rfl T.g_height_of T.F_height_of.kp T.b_height_of (a_cons (l := true) (e_v 0) (a_cons (l := true) (e_v 1) a_nil)) (.inl rfl)) sc_row_of.nd rfl (Or.inl rfl))
    (b_cons (s_set (i := 3) (e_call (mo := .e) (ok_reached T) (hr.mono (by decide)) rfl T.g_reached T.F_reached.kp T.b_reached (a_cons (l := true) (e_ix (E.ec (e_v 0)) (E.ec (e_ix (E.ec (e_v 1)) (E.ec e_int)))) (a_cons (l := true) (e_v 2) a_nil)) (.inl rfl)) sc_row_of.nd rfl (Or.inl rfl))
    (b_cons (s_for (i_seq (e_slice (E.ec (e_v 1)) (o_some (E.toB e_int)) o_none)) (g_name (i := 4) sc_row_of.nd rfl (.inl rfl))
    (b_one (s_set (i := 3) (e_call (mo := .e) (ok_met T) (hr.mono (by decide)) rfl T.g_met T.F_met.kp T.b_met (a_cons (l := true) (e_v 3) (a_cons (l := true) (e_call (mo := .e) (ok_reached T) (hr.mono (by decide)) rfl T.g_reached T.F_reached.kp T.b_reached (a_cons (l := true) (e_ix (E.ec (e_v 0)) (E.ec (e_v 4))) (a_cons (l := true) (e_v 2) a_nil)) (.inl rfl)) a_nil)) (.inl rfl)) sc_row_of.nd rfl (Or.inl rfl))) PassesOwn.never rfl)
    (b_one (s_ret (E.toB (e_tup (a_cons (l := true) (e_v 2) (a_cons (l := true) (e_v 3) a_nil))))))))))
theorem ok_joined (T : Tx K mg base) : FnOk P w K mg base CX0 2 T.a_joined T.d_joined ["one", "other"] (Sf false 2 wp_joined) :=
  fn_ok (p := P_joined) (k := 1) T.F_joined sc_joined (fun _ _ _ _ _ _ hr => (b_cons (s_asg (e_v 0) (g_tup (by rfl) (gs_cons (g_name (i := 2) sc_joined.nd rfl (.inl rfl)) (gs_cons (g_name (i := 3) sc_joined.nd rfl (.inl rfl)) gs_nil))))
    (b_cons (s_asg (e_v 1) (g_tup (by rfl) (gs_cons (g_name (i := 4) sc_joined.nd rfl (.inl rfl)) (gs_cons (g_name (i := 5) sc_joined.nd rfl (.inl rfl)) gs_nil))))
    (b_cons (s_set (i := 6) (e_call (mo := .e) (ok_apart T) (hr.mono (by decide)) rfl T.g_apart T.F_apart.kp T.b_apart (a_cons (l := true) (e_v 3) (a_cons (l := true) (e_v 5) a_nil)) (.inl rfl)) sc_joined.nd rfl (Or.inl rfl))
    (b_cons (s_set (i := 7) (e_callB (call_maxN rfl) cd_maxN (by rfl) T.n_max (by decide +kernel) (a_cons (l := false) (E.toB (e_v 2)) (a_cons (l := false) (E.toB (e_v 4)) (a_cons (l := false) (E.toB (e_op op_fdiv opd_div (E.toB (e_op op_addA opd_add (E.ec (e_op op_addA opd_add (E.ec (e_v 2)) (E.ec (e_v 4)))) (E.ec (e_v 6)))) (E.toB e_int))) a_nil)))) sc_joined.nd rfl (Or.inl rfl))
    (b_cons (s_set (i := 8) (e_op op_sub opd_sub (E.toB (e_v 7)) (E.toB (e_v 2))) sc_joined.nd rfl (Or.inl rfl))
    (b_cons (s_set (i := 9) (e_op op_sub opd_sub (E.toB (e_v 7)) (E.toB (e_v 4))) sc_joined.nd rfl (Or.inl rfl))
    (b_one (s_ret (E.toB (e_tup (a_cons (l := true) (e_v 7) (a_cons (l := true) (e_call (mo := .e) (ok_met T) (hr.mono (by decide)) rfl T.g_met T.F_met.kp T.b_met (a_cons (l := true) (e_call (mo := .e) (ok_grown T) (hr.mono (by decide)) rfl T.g_grown T.F_grown.kp T.b_grown (a_cons (l := true) (e_v 3) (a_cons (l := true) (e_v 8) a_nil)) (.inl rfl)) (a_cons (l := true) (e_call (mo := .e) (ok_grown T) (hr.mono (by decide)) rfl T.g_grown T.F_grown.kp T.b_grown (a_cons (l := true) (e_v 5) (a_cons (l := true) (e_v 9) a_nil)) (.inl rfl)) a_nil)) (.inl rfl)) (a_cons (l := true) (e_v 8) (a_cons (l := true) (e_v 9) a_nil)))))))))))))))
theorem ok_rows_of (T : Tx K mg base) : FnOk P w K mg base CX0 5 T.a_rows_of T.d_rows_of ["ends", "joining"] (Sf false 2 wp_rows_of) :=
  fn_ok (p := P_rows_of) (k := 4) T.F_rows_of sc_rows_of (fun _ _ _ _ _ _ hr => (b_cons (s_ownLc (i := 2) (own := [("end", 3)]) (i_range1 (a_cons (l := false) (E.toB (e_callB call_lenA cd_len (by rfl) T.n_len (by decide +kernel) (a_cons (l := false) (E.toB (e_v 0)) a_nil))) a_nil) (by rfl) T.n_range) (fun _ _ _ _ _ => (g_name (i := 3) sc_rows_of.nd rfl (.inl rfl))) (fun _ _ _ _ _ => ts_nil) (fun _ _ _ _ _ => (e_call (mo := .e) (ok_row_of T) (hr.mono (by decide)) rfl T.g_row_of T.F_row_of.kp T.b_row_of (a_cons (l := true) (e_v 0) (a_cons (l := true) (e_tup (a_cons (l := true) (e_v 3) a_nil)) a_nil)) (.inl rfl))) rfl sc_rows_of.nd rfl rfl (sw_true rfl rfl rfl (by decide +kernel)) (blkOk_by (N := N_rows_of) (sc := defScope s_rows_of) (by decide +kernel)) (fun _ h => h) rg_name)
    (b_cons (s_for (i_seq (e_v 1)) (g_tup (by rfl) (gs_cons (g_name (i := 4) sc_rows_of.nd rfl (.inl rfl)) (gs_cons (g_name (i := 5) sc_rows_of.nd rfl (.inl rfl)) gs_nil)))
    (b_one (s_append 2 (e_slice (E.ec (e_call (mo := .e) (ok_joined T) (hr.mono (by decide)) rfl T.g_joined T.F_joined.kp T.b_joined (a_cons (l := true) (e_ix (e_o 2) (E.ec (e_v 4))) (a_cons (l := true) (e_ix (e_o 2) (E.ec (e_v 5))) a_nil)) (.inl rfl))) o_none (o_some (E.toB e_int))) (hb := fun _ _ ho he => pe_bm PySem.F.plainAttrs_list PySem.F.slot_list_append PySem.F.type_list_append mt_append ho (pa_cons he pa_nil)))) PassesOwn.never rfl)
    (b_frz 2 (b_one (s_ret (E.toB (e_tuple (E.ec (e_v 2)) (by rfl) T.n_tuple (by decide +kernel)))))))))
theorem ok_root_spot (T : Tx K mg base) : FnOk P w K mg base CX0 2 T.a_root_spot T.d_root_spot ["box", "root"] (Sf false 2 wp_root_spot) :=
  fn_ok (p := P_root_spot) (k := 1) T.F_root_spot sc_root_spot (fun _ _ _ _ _ _ hr => (b_cons (s_if (t_cmp op_isA (OpD.eb opd_is) (E.toB (e_v 1)) (E.toB e_non) (nomark _)) (b_one (s_ret (E.toB (e_call (mo := .e) (ok_corner T) (hr.mono (by decide)) rfl T.g_corner T.F_corner.kp T.b_corner (a_cons (l := true) (e_v 0) a_nil) (.inl rfl))))) b_nil)
    (b_cons (s_if (t_not (t_val (E.toB (e_call (mo := .e) (ok_has T) (hr.mono (by decide)) rfl T.g_has T.F_has.kp T.b_has (a_cons (l := true) (e_v 0) (a_cons (l := true) (e_v 1) a_nil)) (.inl rfl))))) (b_one s_never) b_nil)
    (b_one (s_ret (E.toB (e_v 1)))))))
theorem ok_stood (T : Tx K mg base) : FnOk P w K mg base CX0 3 T.a_stood T.d_stood ["joining", "boxes", "root"] (Sf false 3 wp_stood) :=
  fn_ok (p := P_stood) (k := 2) T.F_stood sc_stood (fun _ _ _ _ _ _ hr => (b_cons (s_own (i := 3) (e_op op_rep opd_rep (E.ec (E.fe (e_lst (a_cons (l := true) (e_call (mo := .e) (ok_root_spot T) (hr.mono (by decide)) rfl T.g_root_spot T.F_root_spot.kp T.b_root_spot (a_cons (l := true) (e_ix (E.ec (e_v 1)) (E.ec (e_neg (E.toB e_int)))) (a_cons (l := true) (e_v 2) a_nil)) (.inl rfl)) a_nil)))) (E.ec (e_callB call_lenA cd_len (by rfl) T.n_len (by decide +kernel) (a_cons (l := false) (E.toB (e_v 1)) a_nil)))) sc_stood.nd rfl (Or.inl rfl))
    (b_cons (s_set (i := 4) (e_call (mo := .e) (ok_joints_above T) (hr.mono (by decide)) rfl T.g_joints_above T.F_joints_above.kp T.b_joints_above (a_cons (l := true) (e_v 0) a_nil) (.inl rfl)) sc_stood.nd rfl (Or.inl rfl))
    (b_cons (s_for (i_rev1 (E.toB (e_callB call_lenA cd_len (by rfl) T.n_len (by decide +kernel) (a_cons (l := false) (E.toB (e_v 4)) a_nil))) (by rfl) T.n_reversed (by rfl) T.n_range) (g_name (i := 5) sc_stood.nd rfl (.inl rfl))
    (b_one (s_put 3 (e_call (mo := .e) (ok_nearest T) (hr.mono (by decide)) rfl T.g_nearest T.F_nearest.kp T.b_nearest (a_cons (l := true) (e_ix (E.ec (e_v 1)) (E.ec (e_v 5))) (a_cons (l := true) (e_ix (e_o 3) (E.ec (e_ix (E.ec (e_v 4)) (E.ec (e_v 5))))) a_nil)) (.inl rfl)) (E.toB (e_v 5)))) PassesOwn.never rfl)
    (b_frz 3 (b_one (s_ret (E.toB (e_tuple (E.ec (e_v 3)) (by rfl) T.n_tuple (by decide +kernel))))))))))
theorem ok_even_wire (T : Tx K mg base) : FnOk P w K mg base CX0 6 T.a_even_wire T.d_even_wire ["ends", "joining"] (Sf false 2 wp_even_wire) :=
  fn_ok (p := P_even_wire) (k := 5) T.F_even_wire sc_even_wire (fun _ _ _ _ _ _ hr => (b_cons (s_setLc (i := 2) (own := [("height", 3), ("box", 4)]) (i_seq (e_call (mo := .e) (ok_rows_of T) (hr.mono (by decide)) rfl T.g_rows_of T.F_rows_of.kp T.b_rows_of (a_cons (l := true) (e_v 0) (a_cons (l := true) (e_v 1) a_nil)) (.inl rfl))) (fun _ _ _ _ _ => (g_tup (by rfl) (gs_cons (g_name (i := 3) sc_even_wire.nd rfl (.inl rfl)) (gs_cons (g_name (i := 4) sc_even_wire.nd rfl (.inl rfl)) gs_nil)))) (fun _ _ _ _ _ => ts_nil) (fun _ _ _ _ _ => (e_v 3)) rfl sc_even_wire.nd rfl rfl (sw_true rfl rfl rfl (by decide +kernel)) (blkOk_by (N := N_even_wire) (sc := defScope s_even_wire) (by decide +kernel)) (fun _ h => h) (rg_tup (rgs_cons rg_name (rgs_cons rg_name rgs_nil))))
    (b_one (s_ret (E.toB (e_op op_sub opd_sub (E.toB (e_op op_addA opd_add (E.ec (e_callB (cr_sum rfl) cd_sum (by rfl) T.n_sum (by decide +kernel) (a_cons (l := false) (E.toB (e_slice (E.ec (e_v 2)) (o_some (E.toB (e_callB call_lenA cd_len (by rfl) T.n_len (by decide +kernel) (a_cons (l := false) (E.toB (e_v 0)) a_nil)))) o_none)) a_nil))) (E.ec (e_ix (E.ec (e_v 2)) (E.ec (e_neg (E.toB e_int))))))) (E.toB (e_call (mo := .e) (ok_started T) (hr.mono (by decide)) rfl T.g_started T.F_started.kp T.b_started (a_cons (l := true) (e_v 0) a_nil) (.inl rfl)))))))))
theorem ok_even_tree (T : Tx K mg base) : FnOk P w K mg base CX0 6 T.a_even_tree T.d_even_tree ["ends", "joining", "root"] (Sf false 3 wp_even_tree) :=
  fn_okD (p := P_even_tree) (k := 5) T.F_even_tree sc_even_tree (fun _ _ _ _ _ _ hr => (b_cons (s_set (i := 3) (e_call (mo := .e) (ok_rows_of T) (hr.mono (by decide)) rfl T.g_rows_of T.F_rows_of.kp T.b_rows_of (a_cons (l := true) (e_v 0) (a_cons (l := true) (e_v 1) a_nil)) (.inl rfl)) sc_even_tree.nd rfl (Or.inr rfl))
    (b_cons (s_set (i := 4) (e_call (mo := .e) (ok_stood T) (hr.mono (by decide)) rfl T.g_stood T.F_stood.kp T.b_stood (a_cons (l := true) (e_v 1) (a_cons (l := true) (E.fe (e_lc (own := [("height", 5), ("box", 6)]) (i_seq (e_v 3)) (fun _ _ _ _ _ => (g_tup (by rfl) (gs_cons (g_name (i := 5) sc_even_tree.nd rfl (.inl rfl)) (gs_cons (g_name (i := 6) sc_even_tree.nd rfl (.inl rfl)) gs_nil)))) (fun _ _ _ _ _ => ts_nil) (fun _ _ _ _ _ => (e_v 6)) rfl sc_even_tree.nd (blkOk_by (N := N_even_tree) (sc := defScope s_even_tree) (by decide +kernel)) (fun _ h => h) (rg_tup (rgs_cons rg_name (rgs_cons rg_name rgs_nil))))) (a_cons (l := true) (e_v 2) a_nil))) (.inl rfl)) sc_even_tree.nd rfl (Or.inl rfl))
    (b_cons (s_setLc (i := 7) (own := [("knot", 8), ("joint", 9)]) (i_enum0 (e_call (mo := .e) (ok_joints_above T) (hr.mono (by decide)) rfl T.g_joints_above T.F_joints_above.kp T.b_joints_above (a_cons (l := true) (e_v 1) a_nil) (.inl rfl)) (by rfl) T.n_enumerate) (fun _ _ _ _ _ => (g_tup (by rfl) (gs_cons (g_name (i := 8) sc_even_tree.nd rfl (.inl rfl)) (gs_cons (g_name (i := 9) sc_even_tree.nd rfl (.inl rfl)) gs_nil)))) (fun _ _ _ _ _ => ts_nil) (fun _ _ _ _ _ => (e_op op_sub opd_sub (E.toB (e_ix (E.ec (e_ix (E.ec (e_v 3)) (E.ec (e_v 9)))) (E.ec e_int))) (E.toB (e_ix (E.ec (e_ix (E.ec (e_v 3)) (E.ec (e_v 8)))) (E.ec e_int))))) rfl sc_even_tree.nd rfl rfl (sw_true rfl rfl rfl (by decide +kernel)) (blkOk_by (N := N_even_tree) (sc := defScope s_even_tree) (by decide +kernel)) (fun _ h => h) (rg_tup (rgs_cons rg_name (rgs_cons rg_name rgs_nil))))
    (b_one (s_ret (E.toB (e_tup (a_cons (l := true) (e_gint (by rfl) T.c_GRAIN) (a_cons (l := true) (e_v 4) (a_cons (l := true) (e_tuple (E.ec (e_v 7)) (by rfl) T.n_tuple (by decide +kernel)) a_nil)))))))))))
theorem ok_is_whole (T : Tx K mg base) : FnOk P w K mg base CX0 1 T.a_is_whole T.d_is_whole ["thing"] (Sf false 1 wp_is_whole) :=
  fn_ok (p := P_is_whole) (k := 0) T.F_is_whole sc_is_whole (fun _ _ _ _ _ _ hr => (b_one (s_ret (E.toB (e_and (E.toB (e_callB call_isi cd_isi (by rfl) T.n_isinstance (by decide +kernel) (a_cons (l := false) (E.toB (e_v 0)) (a_cons (l := false) (E.toB (e_ty (n := "int") (by rfl) T.n_int (by decide +kernel))) a_nil)))) (e_one (e_not (E.toB (e_callB call_isi cd_isi (by rfl) T.n_isinstance (by decide +kernel) (a_cons (l := false) (E.toB (e_v 0)) (a_cons (l := false) (E.toB (e_ty (n := "bool") (by rfl) T.n_bool (by decide +kernel))) a_nil)))))))))))
theorem ok_are_wholes (T : Tx K mg base) : FnOk P w K mg base CX0 3 T.a_are_wholes T.d_are_wholes ["thing", "many"] (Sf false 2 wp_are_wholes) :=
  fn_okT (p := P_are_wholes) (k := 2) T.F_are_wholes T.h_are_wholes sc_are_wholes (fun _ _ _ _ _ hr => (b_cons (s_if (w_t (w_or (t_not (t_val (E.toB (e_callB call_isi cd_isi (by rfl) T.n_isinstance (by decide +kernel) (a_cons (l := false) (E.toB (e_v 0)) (a_cons (l := false) (E.toB (e_ty (n := "tuple") (by rfl) T.n_tuple (by decide +kernel))) a_nil)))))) (w_or1 (t_cmp (op_neD hr.units) (OpD.eb opd_ne) (E.toB (e_callB call_lenA cd_len (by rfl) T.n_len (by decide +kernel) (a_cons (l := false) (E.toB (e_v 0)) a_nil))) (E.toB (e_v 1)) (nomark _))))) (b_one (s_ret (E.toB e_bl))) b_nil)
    (b_one (s_ret (E.toB (e_all (k := 1) (own := [("part", 2)]) hr (i_seq (e_v 0)) (fun _ _ _ _ _ _ => (g_name (i := 2) sc_are_wholes.nd rfl (.inl rfl))) (fun _ _ _ _ _ _ hr => (E.toB (e_call (mo := .e) (ok_is_whole T) (hr.mono (by decide)) rfl T.g_is_whole T.F_is_whole.kp T.b_is_whole (a_cons (l := true) (e_v 2) a_nil) (.inl rfl)))) rfl sc_are_wholes.nd (by rfl) T.n_all T.tb_are_wholes T.m_are_wholes rfl (blkOk_by (N := N_are_wholes) (sc := defScope s_are_wholes) (by decide +kernel)) (by decide +kernel) (fun _ h => h) rg_name))))))
theorem ok_first_pair (T : Tx K mg base) : FnOk P w K mg base CX0 3 T.a_first_pair T.d_first_pair ["ends", "some", "height"] (Sf false 3 wp_first_pair) :=
  fn_ok (p := P_first_pair) (k := 2) T.F_first_pair sc_first_pair (fun _ _ _ _ _ _ hr => (b_one (s_ret (E.toB (e_callB (cr_minTup rfl hr.units) cd_minTup (by rfl) T.n_min (by decide +kernel) (a_cons (l := true) (E.fe (e_lc2 (own := [("one", 3), ("other", 4)]) (vs1 := [4]) (i_seq (e_v 1)) (fun _ _ _ _ _ => (g_name (i := 3) sc_first_pair.nd rfl (.inl rfl))) (fun _ _ _ _ _ => ts_nil) (fun _ _ _ _ _ => (i_seq (e_v 1))) (fun _ _ _ _ _ => (g_name (i := 4) sc_first_pair.nd rfl (.inl rfl))) (fun _ _ _ _ _ => (ts_one (t_cmp (op_eqD hr.units) (OpD.eb opd_eq) (E.toB (e_call (mo := .e) (ok_wanted T) (hr.mono (by decide)) rfl T.g_wanted T.F_wanted.kp T.b_wanted (a_cons (l := true) (e_v 0) (a_cons (l := true) (e_v 3) (a_cons (l := true) (e_v 4) a_nil))) (.inl rfl))) (E.toB (e_v 2)) (nomark _)))) (fun _ _ _ _ _ => (e_tup (a_cons (l := true) (e_v 3) (a_cons (l := true) (e_v 4) a_nil)))) rfl sc_first_pair.nd (blkOk_by (N := N_first_pair) (sc := defScope s_first_pair) (by decide +kernel)) (by decide) (fun _ h => h) (by decide) rg_name rg_name)) a_nil))))))
theorem ok_pairs_for (T : Tx K mg base) : FnOk P w K mg base CX0 6 T.a_pairs_for T.d_pairs_for ["ends", "joining"] (Sf false 2 wp_pairs_for) :=
  fn_ok (p := P_pairs_for) (k := 5) T.F_pairs_for sc_pairs_for (fun _ _ _ _ _ _ hr => (b_cons (s_set (i := 2) (e_callB call_lenA cd_len (by rfl) T.n_len (by decide +kernel) (a_cons (l := false) (E.toB (e_v 0)) a_nil)) sc_pairs_for.nd rfl (Or.inr rfl))
    (b_cons (s_set (i := 3) (E.fe (e_lc (own := [("height", 4), ("box", 5)]) (i_seq (e_call (mo := .e) (ok_rows_of T) (hr.mono (by decide)) rfl T.g_rows_of T.F_rows_of.kp T.b_rows_of (a_cons (l := true) (e_v 0) (a_cons (l := true) (e_v 1) a_nil)) (.inl rfl))) (fun _ _ _ _ _ => (g_tup (by rfl) (gs_cons (g_name (i := 4) sc_pairs_for.nd rfl (.inl rfl)) (gs_cons (g_name (i := 5) sc_pairs_for.nd rfl (.inl rfl)) gs_nil)))) (fun _ _ _ _ _ => ts_nil) (fun _ _ _ _ _ => (e_v 4)) rfl sc_pairs_for.nd (blkOk_by (N := N_pairs_for) (sc := defScope s_pairs_for) (by decide +kernel)) (fun _ h => h) (rg_tup (rgs_cons rg_name (rgs_cons rg_name rgs_nil))))) sc_pairs_for.nd rfl (Or.inr rfl))
    (b_one (s_ret (E.toB (e_tuple (E.ec (E.fe (e_lc (own := [("joint", 6)]) (i_range2 (a_cons (l := false) (E.toB (e_v 2)) (a_cons (l := false) (E.toB (e_callB call_lenA cd_len (by rfl) T.n_len (by decide +kernel) (a_cons (l := false) (E.toB (e_v 3)) a_nil))) a_nil)) (by rfl) T.n_range) (fun _ _ _ _ _ => (g_name (i := 6) sc_pairs_for.nd rfl (.inl rfl))) (fun _ _ _ _ _ => ts_nil) (fun _ _ _ _ _ => (e_call (mo := .e) (ok_first_pair T) (hr.mono (by decide)) rfl T.g_first_pair T.F_first_pair.kp T.b_first_pair (a_cons (l := true) (e_v 0) (a_cons (l := true) (e_call (mo := .e) (ok_beneath T) (hr.mono (by decide)) rfl T.g_beneath T.F_beneath.kp T.b_beneath (a_cons (l := true) (e_v 2) (a_cons (l := true) (e_v 1) (a_cons (l := true) (e_v 6) a_nil))) (.inl rfl)) (a_cons (l := true) (e_ix (E.ec (e_v 3)) (E.ec (e_v 6))) a_nil))) (.inl rfl))) rfl sc_pairs_for.nd (blkOk_by (N := N_pairs_for) (sc := defScope s_pairs_for) (by decide +kernel)) (fun _ h => h) rg_name))) (by rfl) T.n_tuple (by decide +kernel))))))))
theorem ok_is_pair (T : Tx K mg base) : FnOk P w K mg base CX0 4 T.a_is_pair T.d_is_pair ["some", "thing"] (Sf false 2 wp_is_pair) :=
  fn_ok (p := P_is_pair) (k := 3) T.F_is_pair sc_is_pair (fun _ _ _ _ _ _ hr => (b_cons (s_if (t_not (t_val (E.toB (e_call (mo := .e) (ok_are_wholes T) (hr.mono (by decide)) rfl T.g_are_wholes T.F_are_wholes.kp T.b_are_wholes (a_cons (l := true) (e_v 1) (a_cons (l := true) e_int a_nil)) (.inl rfl))))) (b_one (s_ret (E.toB e_bl))) b_nil)
    (b_cons (s_asg (e_v 1) (g_tup (by rfl) (gs_cons (g_name (i := 2) sc_is_pair.nd rfl (.inl rfl)) (gs_cons (g_name (i := 3) sc_is_pair.nd rfl (.inl rfl)) gs_nil))))
    (b_one (s_ret (E.toB (e_and (E.toB (e_cmp op_le opd_le (E.toB (e_v 2)) (E.toB (e_v 3)) (nomark _))) (e_and (E.toB (e_cmp op_in_seq (opd_in (neg := false)) (E.toB (e_v 2)) (E.toB (e_v 0)) (by rfl))) (e_one (e_cmp op_in_seq (opd_in (neg := false)) (E.toB (e_v 3)) (E.toB (e_v 0)) (by rfl)))))))))))
theorem ok_is_paper (T : Tx K mg base) : FnOk P w K mg base CX0 6 T.a_is_paper T.d_is_paper ["many", "joining", "thing"] (Sf false 3 wp_is_paper) :=
  fn_okT (p := P_is_paper) (k := 5) T.F_is_paper T.h_is_paper sc_is_paper (fun _ _ _ _ _ hr => (b_cons (s_if (w_t (w_or (t_not (t_val (E.toB (e_callB call_isi cd_isi (by rfl) T.n_isinstance (by decide +kernel) (a_cons (l := false) (E.toB (e_v 2)) (a_cons (l := false) (E.toB (e_ty (n := "tuple") (by rfl) T.n_tuple (by decide +kernel))) a_nil)))))) (w_or1 (t_cmp (op_neD hr.units) (OpD.eb opd_ne) (E.toB (e_callB call_lenA cd_len (by rfl) T.n_len (by decide +kernel) (a_cons (l := false) (E.toB (e_v 2)) a_nil))) (E.toB (e_callB call_lenA cd_len (by rfl) T.n_len (by decide +kernel) (a_cons (l := false) (E.toB (e_v 1)) a_nil))) (nomark _))))) (b_one (s_ret (E.toB e_bl))) b_nil)
    (b_one (s_ret (E.toB (e_all (k := 4) (own := [("joint", 3), ("part", 4)]) hr (i_enumS (e_v 2) (E.toB (e_v 0)) (by rfl) T.n_enumerate) (fun _ _ _ _ _ _ => (g_tup (by rfl) (gs_cons (g_name (i := 3) sc_is_paper.nd rfl (.inl rfl)) (gs_cons (g_name (i := 4) sc_is_paper.nd rfl (.inl rfl)) gs_nil)))) (fun _ _ _ _ _ _ hr => (E.toB (e_call (mo := .e) (ok_is_pair T) (hr.mono (by decide)) rfl T.g_is_pair T.F_is_pair.kp T.b_is_pair (a_cons (l := true) (e_call (mo := .e) (ok_beneath T) (hr.mono (by decide)) rfl T.g_beneath T.F_beneath.kp T.b_beneath (a_cons (l := true) (e_v 0) (a_cons (l := true) (e_v 1) (a_cons (l := true) (e_v 3) a_nil))) (.inl rfl)) (a_cons (l := true) (e_v 4) a_nil)) (.inl rfl)))) rfl sc_is_paper.nd (by rfl) T.n_all T.tb_is_paper T.m_is_paper rfl (blkOk_by (N := N_is_paper) (sc := defScope s_is_paper) (by decide +kernel)) (by decide +kernel) (fun _ h => h) (rg_tup (rgs_cons rg_name (rgs_cons rg_name rgs_nil)))))))))
theorem ok_pairs_shown (T : Tx K mg base) : FnOk P w K mg base CX0 7 T.a_pairs_shown T.d_pairs_shown ["ends", "joining", "thing"] (Sf false 3 wp_pairs_shown) :=
  fn_ok (p := P_pairs_shown) (k := 6) T.F_pairs_shown sc_pairs_shown (fun _ _ _ _ _ _ hr => (b_cons (s_if (t_not (t_val (E.toB (e_call (mo := .e) (ok_is_paper T) (hr.mono (by decide)) rfl T.g_is_paper T.F_is_paper.kp T.b_is_paper (a_cons (l := true) (e_callB call_lenA cd_len (by rfl) T.n_len (by decide +kernel) (a_cons (l := false) (E.toB (e_v 0)) a_nil)) (a_cons (l := true) (e_v 1) (a_cons (l := true) (e_v 2) a_nil))) (.inl rfl))))) (b_one (s_ret (E.toB e_non))) b_nil)
    (b_cons (s_if (t_cmp (op_eqD hr.units) (OpD.eb opd_eq) (E.toB (e_callB call_lenA cd_len (by rfl) T.n_len (by decide +kernel) (a_cons (l := false) (E.toB (e_v 0)) a_nil))) (E.toB e_int) (nomark _)) (b_one (s_ret (E.toB e_int))) b_nil)
    (b_cons (s_setLc (i := 3) (own := [("one", 4), ("other", 5)]) (i_seq (e_v 2)) (fun _ _ _ _ _ => (g_tup (by rfl) (gs_cons (g_name (i := 4) sc_pairs_shown.nd rfl (.inl rfl)) (gs_cons (g_name (i := 5) sc_pairs_shown.nd rfl (.inl rfl)) gs_nil)))) (fun _ _ _ _ _ => ts_nil) (fun _ _ _ _ _ => (e_call (mo := .e) (ok_wanted T) (hr.mono (by decide)) rfl T.g_wanted T.F_wanted.kp T.b_wanted (a_cons (l := true) (e_v 0) (a_cons (l := true) (e_v 4) (a_cons (l := true) (e_v 5) a_nil))) (.inl rfl))) rfl sc_pairs_shown.nd rfl rfl (sw_true rfl rfl rfl (by decide +kernel)) (blkOk_by (N := N_pairs_shown) (sc := defScope s_pairs_shown) (by decide +kernel)) (fun _ h => h) (rg_tup (rgs_cons rg_name (rgs_cons rg_name rgs_nil))))
    (b_one (s_ret (E.toB (e_op op_sub opd_sub (E.toB (e_op op_addA opd_add (E.ec (e_callB (cr_sum rfl) cd_sum (by rfl) T.n_sum (by decide +kernel) (a_cons (l := false) (E.toB (e_v 3)) a_nil))) (E.ec (e_ix (E.ec (e_v 3)) (E.ec (e_neg (E.toB e_int))))))) (E.toB (e_call (mo := .e) (ok_started T) (hr.mono (by decide)) rfl T.g_started T.F_started.kp T.b_started (a_cons (l := true) (e_v 0) a_nil) (.inl rfl)))))))))))
theorem ok__law_place (T : Tx K mg base) : FnOk P w K mg base CX0 2 T.a__law_place T.d__law_place ["_law_deck_here", "_law_way", "_law_edge"] (Sf false 3 wp__law_place) :=
  fn_ok (p := P__law_place) (k := 1) T.F__law_place sc__law_place (fun _ _ _ _ _ _ hr => (b_cons (s_if (t_cmp (op_eqD hr.units) (OpD.eb opd_eq) (E.toB (e_v 1)) (E.toB e_int) (nomark _)) (b_one (s_ret (E.toB (e_tup (a_cons (l := true) (e_op op_sub opd_sub (E.toB (e_call (mo := .e) (okS__law_draw T) (hr.mono (by decide)) rfl T.g__law_draw T.F__law_draw.kp T.b__law_draw (a_cons (l := true) (e_v 0) (a_cons (l := true) e_int a_nil)) (.inl rfl))) (E.toB e_int)) (a_cons (l := true) (e_v 2) a_nil)))))) b_nil)
    (b_cons (s_if (t_cmp (op_eqD hr.units) (OpD.eb opd_eq) (E.toB (e_v 1)) (E.toB e_int) (nomark _)) (b_cons (s_set (i := 3) (e_op op_sub opd_sub (E.toB (e_call (mo := .e) (okS__law_draw T) (hr.mono (by decide)) rfl T.g__law_draw T.F__law_draw.kp T.b__law_draw (a_cons (l := true) (e_v 0) (a_cons (l := true) e_int a_nil)) (.inl rfl))) (E.toB e_int)) sc__law_place.nd rfl (Or.inl rfl))
    (b_one (s_ret (E.toB (e_tup (a_cons (l := true) (e_v 3) (a_cons (l := true) (e_op op_sub opd_sub (E.toB (e_v 2)) (E.toB (e_v 3))) a_nil))))))) b_nil)
    (b_cons (s_if (t_cmp (op_eqD hr.units) (OpD.eb opd_eq) (E.toB (e_v 1)) (E.toB e_int) (nomark _)) (b_one (s_ret (E.toB (e_tuple (E.ec (E.fe (e_lc (own := [("_law_k", 4)]) (i_range1 (a_cons (l := false) (E.toB e_int) a_nil) (by rfl) T.n_range) (fun _ _ _ _ _ => (g_name (i := 4) sc__law_place.nd rfl (.inl rfl))) (fun _ _ _ _ _ => ts_nil) (fun _ _ _ _ _ => (e_ix (E.ec (E.fe (e_lst (a_cons (l := true) (e_powC 10 6 1000000) (a_cons (l := true) (e_neg (E.toB (e_powC 10 6 1000000))) (a_cons (l := true) (e_op op_sub opd_sub (E.toB (e_powC 10 6 1000000)) (E.toB e_int)) (a_cons (l := true) (e_op op_sub opd_sub (E.toB e_int) (E.toB (e_powC 10 6 1000000))) a_nil))))))) (E.ec (e_call (mo := .e) (okS__law_draw T) (hr.mono (by decide)) rfl T.g__law_draw T.F__law_draw.kp T.b__law_draw (a_cons (l := true) (e_v 0) (a_cons (l := true) e_int a_nil)) (.inl rfl))))) rfl sc__law_place.nd (blkOk_by (N := N__law_place) (sc := defScope s__law_place) (by decide +kernel)) (fun _ h => h) rg_name))) (by rfl) T.n_tuple (by decide +kernel))))) b_nil)
    (b_cons (s_if (t_cmp (op_eqD hr.units) (OpD.eb opd_eq) (E.toB (e_v 1)) (E.toB e_int) (nomark _)) (b_one (s_ret (E.toB (e_tuple (E.ec (E.fe (e_lc (own := [("_law_k", 4)]) (i_range1 (a_cons (l := false) (E.toB e_int) a_nil) (by rfl) T.n_range) (fun _ _ _ _ _ => (g_name (i := 4) sc__law_place.nd rfl (.inl rfl))) (fun _ _ _ _ _ => ts_nil) (fun _ _ _ _ _ => (e_op op_sub opd_sub (E.toB (e_call (mo := .e) (okS__law_draw T) (hr.mono (by decide)) rfl T.g__law_draw T.F__law_draw.kp T.b__law_draw (a_cons (l := true) (e_v 0) (a_cons (l := true) (e_op op_addA opd_add (E.ec (e_op op_mul opd_mul (E.toB e_int) (E.toB (e_powC 10 6 1000000)))) (E.ec e_int)) a_nil)) (.inl rfl))) (E.toB (e_powC 10 6 1000000)))) rfl sc__law_place.nd (blkOk_by (N := N__law_place) (sc := defScope s__law_place) (by decide +kernel)) (fun _ h => h) rg_name))) (by rfl) T.n_tuple (by decide +kernel))))) b_nil)
    (b_one (s_ret (E.toB (e_tup (a_cons (l := true) (e_call (mo := .e) (okS__law_draw T) (hr.mono (by decide)) rfl T.g__law_draw T.F__law_draw.kp T.b__law_draw (a_cons (l := true) (e_v 0) (a_cons (l := true) e_int a_nil)) (.inl rfl)) (a_cons (l := true) (e_call (mo := .e) (okS__law_draw T) (hr.mono (by decide)) rfl T.g__law_draw T.F__law_draw.kp T.b__law_draw (a_cons (l := true) (e_v 0) (a_cons (l := true) e_int a_nil)) (.inl rfl)) a_nil)))))))))))
theorem ok__law_start (T : Tx K mg base) : FnOk P w K mg base CX0 2 T.a__law_start T.d__law_start ["_law_deck_here", "_law_way"] (Sf false 2 wp__law_start) :=
  fn_ok (p := P__law_start) (k := 1) T.F__law_start sc__law_start (fun _ _ _ _ _ _ hr => (b_cons (s_if (t_cmp op_lt (OpD.eb opd_lt) (E.toB (e_v 1)) (E.toB e_int) (nomark _)) (b_one (s_ret (E.toB e_int))) b_nil)
    (b_cons (s_if (t_cmp (op_eqD hr.units) (OpD.eb opd_eq) (E.toB (e_v 1)) (E.toB e_int) (nomark _)) (b_one (s_ret (E.toB (e_call (mo := .e) (okS__law_draw T) (hr.mono (by decide)) rfl T.g__law_draw T.F__law_draw.kp T.b__law_draw (a_cons (l := true) (e_v 0) (a_cons (l := true) e_int a_nil)) (.inl rfl))))) b_nil)
    (b_cons (s_set (i := 2) (e_call (mo := .e) (okS__law_draw T) (hr.mono (by decide)) rfl T.g__law_draw T.F__law_draw.kp T.b__law_draw (a_cons (l := true) (e_v 0) (a_cons (l := true) e_int a_nil)) (.inl rfl)) sc__law_start.nd rfl (Or.inl rfl))
    (b_cons (s_if (t_cmp (op_eqD hr.units) (OpD.eb opd_eq) (E.toB (e_v 2)) (E.toB e_int) (nomark _)) (b_one (s_ret (E.toB (e_call (mo := .e) (okS__law_draw T) (hr.mono (by decide)) rfl T.g__law_draw T.F__law_draw.kp T.b__law_draw (a_cons (l := true) (e_v 0) (a_cons (l := true) (e_op op_addA opd_add (E.ec (e_powC 10 6 1000000)) (E.ec e_int)) a_nil)) (.inl rfl))))) b_nil)
    (b_one (s_ret (E.toB (e_ix (E.ec (E.fe (e_lst (a_cons (l := true) e_int (a_cons (l := true) e_int (a_cons (l := true) (e_powC 10 6 1000000) a_nil)))))) (E.ec (e_v 2)))))))))))
theorem ok__law_ends (T : Tx K mg base) : FnOk P w K mg base CX0 3 T.a__law_ends T.d__law_ends ["_law_deck_here", "_law_most"] (Sf false 2 wp__law_ends) :=
  fn_ok (p := P__law_ends) (k := 2) T.F__law_ends sc__law_ends (fun _ _ _ _ _ _ hr => (b_cons (s_set (i := 2) (e_call (mo := .e) (okS__law_draw T) (hr.mono (by decide)) rfl T.g__law_draw T.F__law_draw.kp T.b__law_draw (a_cons (l := true) (e_v 0) (a_cons (l := true) e_int a_nil)) (.inl rfl)) sc__law_ends.nd rfl (Or.inl rfl))
    (b_cons (s_set (i := 3) (e_call (mo := .e) (okS__law_draw T) (hr.mono (by decide)) rfl T.g__law_draw T.F__law_draw.kp T.b__law_draw (a_cons (l := true) (e_v 0) (a_cons (l := true) e_int a_nil)) (.inl rfl)) sc__law_ends.nd rfl (Or.inl rfl))
    (b_cons (s_set (i := 4) (e_v 1) sc__law_ends.nd rfl (Or.inl rfl))
    (b_cons (s_if (t_cmp (op_neD hr.units) (OpD.eb opd_ne) (E.toB (e_call (mo := .e) (okS__law_draw T) (hr.mono (by decide)) rfl T.g__law_draw T.F__law_draw.kp T.b__law_draw (a_cons (l := true) (e_v 0) (a_cons (l := true) e_int a_nil)) (.inl rfl))) (E.toB e_int) (nomark _)) (b_one (s_set (i := 4) (e_op op_addA opd_add (E.ec e_int) (E.ec (e_call (mo := .e) (okS__law_draw T) (hr.mono (by decide)) rfl T.g__law_draw T.F__law_draw.kp T.b__law_draw (a_cons (l := true) (e_v 0) (a_cons (l := true) e_int a_nil)) (.inl rfl)))) sc__law_ends.nd rfl (Or.inl rfl))) b_nil)
    (b_cons (s_set (i := 5) (e_op op_sub opd_sub (E.toB (e_call (mo := .e) (okS__law_draw T) (hr.mono (by decide)) rfl T.g__law_draw T.F__law_draw.kp T.b__law_draw (a_cons (l := true) (e_v 0) (a_cons (l := true) e_int a_nil)) (.inl rfl))) (E.toB e_int)) sc__law_ends.nd rfl (Or.inl rfl))
    (b_cons (s_own (i := 6) (e_lst a_nil) sc__law_ends.nd rfl (Or.inl rfl))
    (b_cons (s_for (i_range1 (a_cons (l := false) (E.toB (e_v 4)) a_nil) (by rfl) T.n_range) (g_name (i := 7) sc__law_ends.nd rfl (.inl rfl))
    (b_cons (s_set (i := 8) (e_and (E.toB (e_cmp (op_eqD hr.units) opd_eq (E.toB (e_call (mo := .e) (okS__law_draw T) (hr.mono (by decide)) rfl T.g__law_draw T.F__law_draw.kp T.b__law_draw (a_cons (l := true) (e_v 0) (a_cons (l := true) e_int a_nil)) (.inl rfl))) (E.toB e_int) (nomark _))) (e_one (e_cmp (op_neD hr.units) opd_ne (E.toB (e_o 6)) (E.toB (e_lst a_nil)) (nomark _)))) sc__law_ends.nd rfl (Or.inl rfl))
    (b_cons (s_set (i := 9) (e_call (mo := .e) (ok__law_place T) (hr.mono (by decide)) rfl T.g__law_place T.F__law_place.kp T.b__law_place (a_cons (l := true) (e_v 0) (a_cons (l := true) (e_v 2) (a_cons (l := true) (e_v 5) a_nil))) (.inl rfl)) sc__law_ends.nd rfl (Or.inl rfl))
    (b_cons (s_if (t_val (E.toB (e_v 8))) (b_one (s_set (i := 9) (e_slice (E.ec (e_ix (e_o 6) (E.ec (e_call (mo := .e) (okS__law_draw T) (hr.mono (by decide)) rfl T.g__law_draw T.F__law_draw.kp T.b__law_draw (a_cons (l := true) (e_v 0) (a_cons (l := true) (e_callB call_lenA cd_len (by rfl) T.n_len (by decide +kernel) (a_cons (l := false) (E.toB (e_o 6)) a_nil)) a_nil)) (.inl rfl))))) o_none (o_some (E.toB e_int))) sc__law_ends.nd rfl (Or.inl rfl))) b_nil)
    (b_one (s_append 6 (e_op op_addA opd_add (E.ec (e_v 9)) (E.ec (e_tup (a_cons (l := true) (e_call (mo := .e) (ok__law_start T) (hr.mono (by decide)) rfl T.g__law_start T.F__law_start.kp T.b__law_start (a_cons (l := true) (e_v 0) (a_cons (l := true) (e_v 3) a_nil)) (.inl rfl)) (a_cons (l := true) (e_ix (E.ec (E.fe (e_lst (a_cons (l := true) e_int (a_cons (l := true) e_int (a_cons (l := true) e_int (a_cons (l := true) (e_powC 10 6 1000000) a_nil))))))) (E.ec (e_call (mo := .e) (okS__law_draw T) (hr.mono (by decide)) rfl T.g__law_draw T.F__law_draw.kp T.b__law_draw (a_cons (l := true) (e_v 0) (a_cons (l := true) e_int a_nil)) (.inl rfl)))) a_nil))))) (hb := fun _ _ ho he => pe_bm PySem.F.plainAttrs_list PySem.F.slot_list_append PySem.F.type_list_append mt_append ho (pa_cons he pa_nil))))))) PassesOwn.never rfl)
    (b_frz 6 (b_one (s_ret (E.toB (e_tuple (E.ec (e_v 6)) (by rfl) T.n_tuple (by decide +kernel))))))))))))))
theorem ok__law_joining (T : Tx K mg base) : FnOk P w K mg base CX0 2 T.a__law_joining T.d__law_joining ["_law_deck_here", "_law_many"] (Sf false 2 wp__law_joining) :=
  fn_ok (p := P__law_joining) (k := 1) T.F__law_joining sc__law_joining (fun _ _ _ _ _ _ hr => (b_cons (s_set (i := 2) (e_cmp (op_eqD hr.units) opd_eq (E.toB (e_call (mo := .e) (okS__law_draw T) (hr.mono (by decide)) rfl T.g__law_draw T.F__law_draw.kp T.b__law_draw (a_cons (l := true) (e_v 0) (a_cons (l := true) e_int a_nil)) (.inl rfl))) (E.toB e_int) (nomark _)) sc__law_joining.nd rfl (Or.inl rfl))
    (b_cons (s_own (i := 3) (e_lstRg1 (E.toB (e_v 1)) rfl (by rfl) T.n_list (by rfl) T.n_range) sc__law_joining.nd rfl (Or.inl rfl))
    (b_cons (s_own (i := 4) (e_lst a_nil) sc__law_joining.nd rfl (Or.inl rfl))
    (b_cons (s_for (i_range1 (a_cons (l := false) (E.toB (e_op op_sub opd_sub (E.toB (e_v 1)) (E.toB e_int))) a_nil) (by rfl) T.n_range) (g_name (i := 5) sc__law_joining.nd rfl (.inl rfl))
    (b_cons (s_set (i := 6) (e_cmp (op_eqD hr.units) opd_eq (E.toB (e_call (mo := .e) (okS__law_draw T) (hr.mono (by decide)) rfl T.g__law_draw T.F__law_draw.kp T.b__law_draw (a_cons (l := true) (e_v 0) (a_cons (l := true) e_int a_nil)) (.inl rfl))) (E.toB e_int) (nomark _)) sc__law_joining.nd rfl (Or.inl rfl))
    (b_cons (s_popAt 7 3 (E.toB (e_ix (E.ec (E.fe (e_lst (a_cons (l := true) (e_call (mo := .e) (okS__law_draw T) (hr.mono (by decide)) rfl T.g__law_draw T.F__law_draw.kp T.b__law_draw (a_cons (l := true) (e_v 0) (a_cons (l := true) (e_callB call_lenA cd_len (by rfl) T.n_len (by decide +kernel) (a_cons (l := false) (E.toB (e_o 3)) a_nil)) a_nil)) (.inl rfl)) (a_cons (l := true) (e_op op_sub opd_sub (E.toB (e_callB call_lenA cd_len (by rfl) T.n_len (by decide +kernel) (a_cons (l := false) (E.toB (e_o 3)) a_nil))) (E.toB e_int)) a_nil))))) (E.ec (e_callTy call_int1 cd_int (by rfl) T.n_int (by decide +kernel) (a_cons (l := false) (E.toB (e_v 2)) a_nil))))) rfl (Or.inl rfl) sc__law_joining.nd (fun _ _ ho he => pe_bm PySem.F.plainAttrs_list PySem.F.slot_list_pop PySem.F.type_list_pop mt_popAt ho (pa_cons he pa_nil)))
    (b_cons (s_popAt 8 3 (E.toB (e_ix (E.ec (E.fe (e_lst (a_cons (l := true) (e_call (mo := .e) (okS__law_draw T) (hr.mono (by decide)) rfl T.g__law_draw T.F__law_draw.kp T.b__law_draw (a_cons (l := true) (e_v 0) (a_cons (l := true) (e_callB call_lenA cd_len (by rfl) T.n_len (by decide +kernel) (a_cons (l := false) (E.toB (e_o 3)) a_nil)) a_nil)) (.inl rfl)) (a_cons (l := true) e_int a_nil))))) (E.ec (e_callTy call_int1 cd_int (by rfl) T.n_int (by decide +kernel) (a_cons (l := false) (E.toB (e_v 2)) a_nil))))) rfl (Or.inl rfl) sc__law_joining.nd (fun _ _ ho he => pe_bm PySem.F.plainAttrs_list PySem.F.slot_list_pop PySem.F.type_list_pop mt_popAt ho (pa_cons he pa_nil)))
    (b_cons (s_append 4 (e_ix (E.ec (E.fe (e_lst (a_cons (l := true) (e_tup (a_cons (l := true) (e_v 7) (a_cons (l := true) (e_v 8) a_nil))) (a_cons (l := true) (e_tup (a_cons (l := true) (e_v 8) (a_cons (l := true) (e_v 7) a_nil))) a_nil))))) (E.ec (e_callTy call_int1 cd_int (by rfl) T.n_int (by decide +kernel) (a_cons (l := false) (E.toB (e_v 6)) a_nil)))) (hb := fun _ _ ho he => pe_bm PySem.F.plainAttrs_list PySem.F.slot_list_append PySem.F.type_list_append mt_append ho (pa_cons he pa_nil)))
    (b_one (s_append 3 (e_op op_addA opd_add (E.ec (e_v 1)) (E.ec (e_v 5))) (hb := fun _ _ ho he => pe_bm PySem.F.plainAttrs_list PySem.F.slot_list_append PySem.F.type_list_append mt_append ho (pa_cons he pa_nil)))))))) PassesOwn.never rfl)
    (b_frz 3 (b_frz 4 (b_one (s_ret (E.toB (e_tuple (E.ec (e_v 4)) (by rfl) T.n_tuple (by decide +kernel))))))))))))
theorem ok__law_beneath (T : Tx K mg base) : FnOk P w K mg base CX0 1 T.a__law_beneath T.d__law_beneath ["_law_many", "_law_joining_here"] (Sf false 2 wp__law_beneath) :=
  fn_ok (p := P__law_beneath) (k := 0) T.F__law_beneath sc__law_beneath (fun _ _ _ _ _ _ hr => (b_cons (s_ownLc (i := 2) (own := [("_law_k", 3)]) (i_range1 (a_cons (l := false) (E.toB (e_v 0)) a_nil) (by rfl) T.n_range) (fun _ _ _ _ _ => (g_name (i := 3) sc__law_beneath.nd rfl (.inl rfl))) (fun _ _ _ _ _ => ts_nil) (fun _ _ _ _ _ => (E.fe (e_lst (a_cons (l := true) (e_v 3) a_nil)))) rfl sc__law_beneath.nd rfl rfl (sw_true rfl rfl rfl (by decide +kernel)) (blkOk_by (N := N__law_beneath) (sc := defScope s__law_beneath) (by decide +kernel)) (fun _ h => h) rg_name)
    (b_cons (s_for (i_seq (e_v 1)) (g_tup (by rfl) (gs_cons (g_name (i := 4) sc__law_beneath.nd rfl (.inl rfl)) (gs_cons (g_name (i := 5) sc__law_beneath.nd rfl (.inl rfl)) gs_nil)))
    (b_one (s_append 2 (E.fe (e_callB cr_sortedI cd_sorted (by rfl) T.n_sorted (by decide +kernel) (a_cons (l := false) (E.toB (e_op op_addA opd_add (E.ec (e_ix (e_o 2) (E.ec (e_v 4)))) (E.ec (e_ix (e_o 2) (E.ec (e_v 5)))))) a_nil))) (hb := fun _ _ ho he => pe_bm PySem.F.plainAttrs_list PySem.F.slot_list_append PySem.F.type_list_append mt_append ho (pa_cons he pa_nil)))) PassesOwn.never rfl)
    (b_one (s_retO 2)))))
theorem ok__law_wants (T : Tx K mg base) : FnOk P w K mg base CX0 1 T.a__law_wants T.d__law_wants ["_law_ends_here", "_law_one", "_law_other"] (Sf false 3 wp__law_wants) :=
  fn_ok (p := P__law_wants) (k := 0) T.F__law_wants sc__law_wants (fun _ _ _ _ _ _ hr => (b_cons (s_set (i := 3) (e_ix (E.ec (e_v 0)) (E.ec (e_v 1))) sc__law_wants.nd rfl (Or.inl rfl))
    (b_cons (s_set (i := 4) (e_ix (E.ec (e_v 0)) (E.ec (e_v 2))) sc__law_wants.nd rfl (Or.inl rfl))
    (b_one (s_ret (E.toB (e_op op_addA opd_add (E.ec (e_op op_addA opd_add (E.ec (e_op op_addA opd_add (E.ec (e_callB call_abs cd_abs (by rfl) T.n_abs (by decide +kernel) (a_cons (l := false) (E.toB (e_op op_sub opd_sub (E.toB (e_ix (E.ec (e_v 3)) (E.ec e_int))) (E.toB (e_ix (E.ec (e_v 4)) (E.ec e_int))))) a_nil))) (E.ec (e_callB call_abs cd_abs (by rfl) T.n_abs (by decide +kernel) (a_cons (l := false) (E.toB (e_op op_sub opd_sub (E.toB (e_ix (E.ec (e_v 3)) (E.ec e_int))) (E.toB (e_ix (E.ec (e_v 4)) (E.ec e_int))))) a_nil))))) (E.ec (e_ix (E.ec (e_v 3)) (E.ec e_int))))) (E.ec (e_ix (E.ec (e_v 4)) (E.ec e_int))))))))))
theorem ok__law_height (T : Tx K mg base) : FnOk P w K mg base CX0 2 T.a__law_height T.d__law_height ["_law_ends_here", "_law_some"] (Sf false 2 wp__law_height) :=
  fn_ok (p := P__law_height) (k := 1) T.F__law_height sc__law_height (fun _ _ _ _ _ _ hr => (b_one (s_ret (E.toB (e_callB (cr_max rfl) cd_maxL (by rfl) T.n_max (by decide +kernel) (a_cons (l := false) (E.toB (e_lc (own := [("_law_one", 3)]) (i_seq (e_v 1)) (fun _ _ _ _ _ => (g_name (i := 3) sc__law_height.nd rfl (.inr rfl))) (fun _ _ _ _ _ => ts_nil) (fun _ _ _ _ _ => (e_callB (cr_max rfl) cd_maxL (by rfl) T.n_max (by decide +kernel) (a_cons (l := false) (E.toB (e_lc (own := [("_law_other", 2)]) (i_seq (e_v 1)) (fun _ _ _ _ _ => (g_name (i := 2) sc__law_height.nd rfl (.inl rfl))) (fun _ _ _ _ _ => ts_nil) (fun _ _ _ _ _ => (e_call (mo := .e) (ok__law_wants T) (hr.mono (by decide)) rfl T.g__law_wants T.F__law_wants.kp T.b__law_wants (a_cons (l := true) (e_v 0) (a_cons (l := true) (e_v 3) (a_cons (l := true) (e_v 2) a_nil))) (.inl rfl))) rfl sc__law_height.nd (blkOk_by (by rfl)) (fun _ h => h) rg_name)) a_nil))) rfl sc__law_height.nd (blkOk_by (N := N__law_height) (sc := defScope s__law_height) (by decide +kernel)) (fun _ h => h) rg_name)) a_nil))))))
theorem ok__law_off (T : Tx K mg base) : FnOk P w K mg base CX0 1 T.a__law_off T.d__law_off ["_law_one", "_law_other"] (Sf false 2 wp__law_off) :=
  fn_ok (p := P__law_off) (k := 0) T.F__law_off sc__law_off (fun _ _ _ _ _ _ hr => (b_one (s_ret (E.toB (e_callB (call_maxN rfl) cd_maxN (by rfl) T.n_max (by decide +kernel) (a_cons (l := false) (E.toB (e_callB call_abs cd_abs (by rfl) T.n_abs (by decide +kernel) (a_cons (l := false) (E.toB (e_op op_sub opd_sub (E.toB (e_ix (E.ec (e_v 0)) (E.ec e_int))) (E.toB (e_ix (E.ec (e_v 1)) (E.ec e_int))))) a_nil))) (a_cons (l := false) (E.toB (e_callB call_abs cd_abs (by rfl) T.n_abs (by decide +kernel) (a_cons (l := false) (E.toB (e_op op_sub opd_sub (E.toB (e_ix (E.ec (e_v 0)) (E.ec e_int))) (E.toB (e_ix (E.ec (e_v 1)) (E.ec e_int))))) a_nil))) a_nil)))))))
theorem ok__law_spot (T : Tx K mg base) : FnOk P w K mg base CX0 1 T.a__law_spot T.d__law_spot ["_law_grain", "_law_end"] (Sf false 2 wp__law_spot) :=
  fn_ok (p := P__law_spot) (k := 0) T.F__law_spot sc__law_spot (fun _ _ _ _ _ _ hr => (b_one (s_ret (E.toB (e_tup (a_cons (l := true) (e_op op_mul opd_mul (E.toB (e_v 0)) (E.toB (e_op op_addA opd_add (E.ec (e_ix (E.ec (e_v 1)) (E.ec e_int))) (E.ec (e_ix (E.ec (e_v 1)) (E.ec e_int)))))) (a_cons (l := true) (e_op op_mul opd_mul (E.toB (e_v 0)) (E.toB (e_op op_sub opd_sub (E.toB (e_ix (E.ec (e_v 1)) (E.ec e_int))) (E.toB (e_ix (E.ec (e_v 1)) (E.ec e_int)))))) a_nil)))))))
theorem ok__law_over (T : Tx K mg base) : FnOk P w K mg base CX0 1 T.a__law_over T.d__law_over ["_law_many", "_law_joining_here"] (Sf false 2 wp__law_over) :=
  fn_ok (p := P__law_over) (k := 0) T.F__law_over sc__law_over (fun _ _ _ _ _ _ hr => (b_cons (s_own (i := 2) (e_op op_rep opd_rep (E.ec (E.fe (e_lst (a_cons (l := true) e_int a_nil)))) (E.ec (e_op op_sub opd_sub (E.toB (e_op op_addA opd_add (E.ec (e_v 0)) (E.ec (e_callB call_lenA cd_len (by rfl) T.n_len (by decide +kernel) (a_cons (l := false) (E.toB (e_v 1)) a_nil))))) (E.toB e_int)))) sc__law_over.nd rfl (Or.inl rfl))
    (b_cons (s_for (i_enum0 (e_v 1) (by rfl) T.n_enumerate) (g_tup (by rfl) (gs_cons (g_name (i := 3) sc__law_over.nd rfl (.inl rfl)) (gs_cons (g_name (i := 4) sc__law_over.nd rfl (.inl rfl)) gs_nil)))
    (b_one (s_for (i_seq (e_v 4)) (g_name (i := 5) sc__law_over.nd rfl (.inl rfl))
    (b_one (s_put 2 (e_op op_addA opd_add (E.ec (e_v 0)) (E.ec (e_v 3))) (E.toB (e_v 5)))) PassesOwn.never rfl)) PassesOwn.never rfl)
    (b_one (s_retO 2)))))
theorem ok__law_sums (T : Tx K mg base) : FnOk P w K mg base CX0 2 T.a__law_sums T.d__law_sums ["_law_ends_here", "_law_joining_here", "_law_grain", "_law_lengths"] (Sf false 4 wp__law_sums) :=
  fn_ok (p := P__law_sums) (k := 1) T.F__law_sums sc__law_sums (fun _ _ _ _ _ _ hr => (b_cons (s_set (i := 4) (e_call (mo := .e) (ok__law_over T) (hr.mono (by decide)) rfl T.g__law_over T.F__law_over.kp T.b__law_over (a_cons (l := true) (e_callB call_lenA cd_len (by rfl) T.n_len (by decide +kernel) (a_cons (l := false) (E.toB (e_v 0)) a_nil)) (a_cons (l := true) (e_v 1) a_nil)) (.inl rfl)) sc__law_sums.nd rfl (Or.inl rfl))
    (b_cons (s_own (i := 5) (e_lst a_nil) sc__law_sums.nd rfl (Or.inl rfl))
    (b_cons (s_for (i_enum0 (e_v 0) (by rfl) T.n_enumerate) (g_tup (by rfl) (gs_cons (g_name (i := 6) sc__law_sums.nd rfl (.inl rfl)) (gs_cons (g_name (i := 7) sc__law_sums.nd rfl (.inl rfl)) gs_nil)))
    (b_cons (s_set (i := 8) (e_op op_mul opd_mul (E.toB (e_ix (E.ec (e_v 7)) (E.ec e_int))) (E.toB (e_v 2))) sc__law_sums.nd rfl (Or.inl rfl))
    (b_cons (s_while (t_cmp op_lt (OpD.eb opd_lt) (E.toB (e_v 6)) (E.toB (e_callB call_lenA cd_len (by rfl) T.n_len (by decide +kernel) (a_cons (l := false) (E.toB (e_v 4)) a_nil))) (nomark _))
    (b_cons (s_set (i := 8) (e_op op_addA opd_add (E.ec (e_v 8)) (E.ec (e_ix (E.ec (e_v 3)) (E.ec (e_v 6))))) sc__law_sums.nd rfl (Or.inl rfl))
    (b_one (s_set (i := 6) (e_ix (E.ec (e_v 4)) (E.ec (e_v 6))) sc__law_sums.nd rfl (Or.inl rfl)))) PassesOwn.never)
    (b_one (s_append 5 (e_v 8) (hb := fun _ _ ho he => pe_bm PySem.F.plainAttrs_list PySem.F.slot_list_append PySem.F.type_list_append mt_append ho (pa_cons he pa_nil)))))) PassesOwn.never rfl)
    (b_one (s_retO 5))))))
theorem ok__law_whole (T : Tx K mg base) : FnOk P w K mg base CX0 1 T.a__law_whole T.d__law_whole ["_law_thing"] (Sf false 1 wp__law_whole) :=
  fn_ok (p := P__law_whole) (k := 0) T.F__law_whole sc__law_whole (fun _ _ _ _ _ _ hr => (b_one (s_ret (E.toB (e_and (E.toB (e_callB call_isi cd_isi (by rfl) T.n_isinstance (by decide +kernel) (a_cons (l := false) (E.toB (e_v 0)) (a_cons (l := false) (E.toB (e_ty (n := "int") (by rfl) T.n_int (by decide +kernel))) a_nil)))) (e_one (e_not (E.toB (e_callB call_isi cd_isi (by rfl) T.n_isinstance (by decide +kernel) (a_cons (l := false) (E.toB (e_v 0)) (a_cons (l := false) (E.toB (e_ty (n := "bool") (by rfl) T.n_bool (by decide +kernel))) a_nil)))))))))))
theorem ok__law_pair (T : Tx K mg base) : FnOk P w K mg base CX0 2 T.a__law_pair T.d__law_pair ["_law_thing"] (Sf false 1 wp__law_pair) :=
  fn_ok (p := P__law_pair) (k := 1) T.F__law_pair sc__law_pair (fun _ _ _ _ _ _ hr => (b_one (s_ret (E.toB (e_and (E.toB (e_callB call_isi cd_isi (by rfl) T.n_isinstance (by decide +kernel) (a_cons (l := false) (E.toB (e_v 0)) (a_cons (l := false) (E.toB (e_ty (n := "tuple") (by rfl) T.n_tuple (by decide +kernel))) a_nil)))) (e_and (E.toB (e_cmp (op_eqD hr.units) opd_eq (E.toB (e_callB call_lenA cd_len (by rfl) T.n_len (by decide +kernel) (a_cons (l := false) (E.toB (e_v 0)) a_nil))) (E.toB e_int) (nomark _))) (e_and (E.toB (e_call (mo := .e) (ok__law_whole T) (hr.mono (by decide)) rfl T.g__law_whole T.F__law_whole.kp T.b__law_whole (a_cons (l := true) (e_ix (E.ec (e_v 0)) (E.ec e_int)) a_nil) (.inl rfl))) (e_one (e_call (mo := .e) (ok__law_whole T) (hr.mono (by decide)) rfl T.g__law_whole T.F__law_whole.kp T.b__law_whole (a_cons (l := true) (e_ix (E.ec (e_v 0)) (E.ec e_int)) a_nil) (.inl rfl))))))))))
theorem ok__law_is_tree (T : Tx K mg base) : FnOk P w K mg base CX0 3 T.a__law_is_tree T.d__law_is_tree ["_law_ends_here", "_law_joining_here", "_law_gap", "_law_thing"] (Sf false 4 wp__law_is_tree) :=
  fn_ok (p := P__law_is_tree) (k := 2) T.F__law_is_tree sc__law_is_tree (fun _ _ _ _ _ _ hr => (b_cons (s_if (w_t (w_or (t_not (t_val (E.toB (e_callB call_isi cd_isi (by rfl) T.n_isinstance (by decide +kernel) (a_cons (l := false) (E.toB (e_v 3)) (a_cons (l := false) (E.toB (e_ty (n := "tuple") (by rfl) T.n_tuple (by decide +kernel))) a_nil)))))) (w_or (t_cmp (op_neD hr.units) (OpD.eb opd_ne) (E.toB (e_callB call_lenA cd_len (by rfl) T.n_len (by decide +kernel) (a_cons (l := false) (E.toB (e_v 3)) a_nil))) (E.toB e_int) (nomark _)) (w_or (t_not (t_val (E.toB (e_call (mo := .e) (ok__law_whole T) (hr.mono (by decide)) rfl T.g__law_whole T.F__law_whole.kp T.b__law_whole (a_cons (l := true) (e_ix (E.ec (e_v 3)) (E.ec e_int)) a_nil) (.inl rfl))))) (w_or1 (t_cmp op_lt (OpD.eb opd_lt) (E.toB (e_ix (E.ec (e_v 3)) (E.ec e_int))) (E.toB e_int) (nomark _))))))) (b_one (s_ret (E.toB e_bl))) b_nil)
    (b_cons (s_asg (e_v 3) (g_tup (by rfl) (gs_cons (g_name (i := 4) sc__law_is_tree.nd rfl (.inr rfl)) (gs_cons (g_name (i := 5) sc__law_is_tree.nd rfl (.inr rfl)) (gs_cons (g_name (i := 6) sc__law_is_tree.nd rfl (.inr rfl)) gs_nil)))))
    (b_cons (s_set (i := 7) (e_op op_addA opd_add (E.ec (e_callB call_lenA cd_len (by rfl) T.n_len (by decide +kernel) (a_cons (l := false) (E.toB (e_v 0)) a_nil))) (E.ec (e_callB call_lenA cd_len (by rfl) T.n_len (by decide +kernel) (a_cons (l := false) (E.toB (e_v 1)) a_nil)))) sc__law_is_tree.nd rfl (Or.inl rfl))
    (b_cons (s_if (w_t (w_or (t_not (t_val (E.toB (e_callB call_isi cd_isi (by rfl) T.n_isinstance (by decide +kernel) (a_cons (l := false) (E.toB (e_v 5)) (a_cons (l := false) (E.toB (e_ty (n := "tuple") (by rfl) T.n_tuple (by decide +kernel))) a_nil)))))) (w_or (t_cmp (op_neD hr.units) (OpD.eb opd_ne) (E.toB (e_callB call_lenA cd_len (by rfl) T.n_len (by decide +kernel) (a_cons (l := false) (E.toB (e_v 5)) a_nil))) (E.toB (e_v 7)) (nomark _)) (w_or1 (t_cmp (op_neD hr.units) (OpD.eb opd_ne) (E.toB (e_lc (own := [("_law_spot_here", 8)]) (i_seq (e_v 5)) (fun _ _ _ _ _ => (g_name (i := 8) sc__law_is_tree.nd rfl (.inl rfl))) (fun _ _ _ _ _ => (ts_one (t_not (t_val (E.toB (e_call (mo := .e) (ok__law_pair T) (hr.mono (by decide)) rfl T.g__law_pair T.F__law_pair.kp T.b__law_pair (a_cons (l := true) (e_v 8) a_nil) (.inl rfl))))))) (fun _ _ _ _ _ => (e_v 8)) rfl sc__law_is_tree.nd (blkOk_by (N := N__law_is_tree) (sc := defScope s__law_is_tree) (by decide +kernel)) (fun _ h => h) rg_name)) (E.toB (e_lst a_nil)) (nomark _)))))) (b_one (s_ret (E.toB e_bl))) b_nil)
    (b_cons (s_if (w_t (w_or (t_not (t_val (E.toB (e_callB call_isi cd_isi (by rfl) T.n_isinstance (by decide +kernel) (a_cons (l := false) (E.toB (e_v 6)) (a_cons (l := false) (E.toB (e_ty (n := "tuple") (by rfl) T.n_tuple (by decide +kernel))) a_nil)))))) (w_or1 (t_cmp (op_neD hr.units) (OpD.eb opd_ne) (E.toB (e_callB call_lenA cd_len (by rfl) T.n_len (by decide +kernel) (a_cons (l := false) (E.toB (e_v 6)) a_nil))) (E.toB (e_op op_sub opd_sub (E.toB (e_v 7)) (E.toB e_int))) (nomark _))))) (b_one (s_ret (E.toB e_bl))) b_nil)
    (b_cons (s_if (t_cmp (op_neD hr.units) (OpD.eb opd_ne) (E.toB (e_lc (own := [("_law_length", 9)]) (i_seq (e_v 6)) (fun _ _ _ _ _ => (g_name (i := 9) sc__law_is_tree.nd rfl (.inl rfl))) (fun _ _ _ _ _ => (ts_one (w_t (w_or (t_not (t_val (E.toB (e_call (mo := .e) (ok__law_whole T) (hr.mono (by decide)) rfl T.g__law_whole T.F__law_whole.kp T.b__law_whole (a_cons (l := true) (e_v 9) a_nil) (.inl rfl))))) (w_or1 (t_cmp op_lt (OpD.eb opd_lt) (E.toB (e_v 9)) (E.toB e_int) (nomark _))))))) (fun _ _ _ _ _ => (e_v 9)) rfl sc__law_is_tree.nd (blkOk_by (N := N__law_is_tree) (sc := defScope s__law_is_tree) (by decide +kernel)) (fun _ h => h) rg_name)) (E.toB (e_lst a_nil)) (nomark _)) (b_one (s_ret (E.toB e_bl))) b_nil)
    (b_cons (s_if (t_cmp (op_neD hr.units) (OpD.eb opd_ne) (E.toB (e_list (E.ec (e_slice (E.ec (e_v 5)) o_none (o_some (E.toB (e_callB call_lenA cd_len (by rfl) T.n_len (by decide +kernel) (a_cons (l := false) (E.toB (e_v 0)) a_nil)))))) (by rfl) T.n_list (by decide +kernel))) (E.toB (e_lc (own := [("_law_end", 10)]) (i_seq (e_v 0)) (fun _ _ _ _ _ => (g_name (i := 10) sc__law_is_tree.nd rfl (.inl rfl))) (fun _ _ _ _ _ => ts_nil) (fun _ _ _ _ _ => (e_call (mo := .e) (ok__law_spot T) (hr.mono (by decide)) rfl T.g__law_spot T.F__law_spot.kp T.b__law_spot (a_cons (l := true) (e_v 4) (a_cons (l := true) (e_v 10) a_nil)) (.inl rfl))) rfl sc__law_is_tree.nd (blkOk_by (N := N__law_is_tree) (sc := defScope s__law_is_tree) (by decide +kernel)) (fun _ h => h) rg_name)) (nomark _)) (b_one (s_ret (E.toB e_bl))) b_nil)
    (b_cons (s_set (i := 11) (e_call (mo := .e) (ok__law_over T) (hr.mono (by decide)) rfl T.g__law_over T.F__law_over.kp T.b__law_over (a_cons (l := true) (e_callB call_lenA cd_len (by rfl) T.n_len (by decide +kernel) (a_cons (l := false) (E.toB (e_v 0)) a_nil)) (a_cons (l := true) (e_v 1) a_nil)) (.inl rfl)) sc__law_is_tree.nd rfl (Or.inl rfl))
    (b_cons (s_if (t_cmp (op_neD hr.units) (OpD.eb opd_ne) (E.toB (e_lc (own := [("_law_k", 12), ("_law_joint", 13)]) (i_enum0 (e_v 11) (by rfl) T.n_enumerate) (fun _ _ _ _ _ => (g_tup (by rfl) (gs_cons (g_name (i := 12) sc__law_is_tree.nd rfl (.inl rfl)) (gs_cons (g_name (i := 13) sc__law_is_tree.nd rfl (.inl rfl)) gs_nil)))) (fun _ _ _ _ _ => (ts_one (t_cmp op_lt (OpD.eb opd_lt) (E.toB (e_ix (E.ec (e_v 6)) (E.ec (e_v 12)))) (E.toB (e_call (mo := .e) (ok__law_off T) (hr.mono (by decide)) rfl T.g__law_off T.F__law_off.kp T.b__law_off (a_cons (l := true) (e_ix (E.ec (e_v 5)) (E.ec (e_v 12))) (a_cons (l := true) (e_ix (E.ec (e_v 5)) (E.ec (e_v 13))) a_nil)) (.inl rfl))) (nomark _)))) (fun _ _ _ _ _ => (e_v 12)) rfl sc__law_is_tree.nd (blkOk_by (N := N__law_is_tree) (sc := defScope s__law_is_tree) (by decide +kernel)) (fun _ h => h) (rg_tup (rgs_cons rg_name (rgs_cons rg_name rgs_nil))))) (E.toB (e_lst a_nil)) (nomark _)) (b_one (s_ret (E.toB e_bl))) b_nil)
    (b_cons (s_set (i := 14) (e_call (mo := .e) (ok__law_sums T) (hr.mono (by decide)) rfl T.g__law_sums T.F__law_sums.kp T.b__law_sums (a_cons (l := true) (e_v 0) (a_cons (l := true) (e_v 1) (a_cons (l := true) (e_v 4) (a_cons (l := true) (e_v 6) a_nil)))) (.inl rfl)) sc__law_is_tree.nd rfl (Or.inl rfl))
    (b_one (s_ret (E.toB (e_or (E.toB (e_cmp op_isA opd_is (E.toB (e_v 2)) (E.toB e_non) (nomark _))) (e_one (e_cmp op_le opd_le (E.toB (e_op op_sub opd_sub (E.toB (e_callB (cr_max rfl) cd_maxL (by rfl) T.n_max (by decide +kernel) (a_cons (l := false) (E.toB (e_v 14)) a_nil))) (E.toB (e_callB (cr_min rfl) cd_minL (by rfl) T.n_min (by decide +kernel) (a_cons (l := false) (E.toB (e_v 14)) a_nil))))) (E.toB (e_op op_mul opd_mul (E.toB (e_v 2)) (E.toB (e_v 4)))) (nomark _))))))))))))))))))
theorem ok__law_box (T : Tx K mg base) : FnOk P w K mg base CX0 2 T.a__law_box T.d__law_box ["_law_ends_here", "_law_some", "_law_height_here"] (Sf false 3 wp__law_box) :=
  fn_ok (p := P__law_box) (k := 1) T.F__law_box sc__law_box (fun _ _ _ _ _ _ hr => (b_cons (s_setLc (i := 3) (own := [("_law_k", 4)]) (i_seq (e_v 1)) (fun _ _ _ _ _ => (g_name (i := 4) sc__law_box.nd rfl (.inl rfl))) (fun _ _ _ _ _ => ts_nil) (fun _ _ _ _ _ => (e_call (mo := .e) (ok__law_spot T) (hr.mono (by decide)) rfl T.g__law_spot T.F__law_spot.kp T.b__law_spot (a_cons (l := true) e_int (a_cons (l := true) (e_ix (E.ec (e_v 0)) (E.ec (e_v 4))) a_nil)) (.inl rfl))) rfl sc__law_box.nd rfl rfl (sw_true rfl rfl rfl (by decide +kernel)) (blkOk_by (N := N__law_box) (sc := defScope s__law_box) (by decide +kernel)) (fun _ h => h) rg_name)
    (b_cons (s_setLc (i := 5) (own := [("_law_k", 4)]) (i_seq (e_v 1)) (fun _ _ _ _ _ => (g_name (i := 4) sc__law_box.nd rfl (.inl rfl))) (fun _ _ _ _ _ => ts_nil) (fun _ _ _ _ _ => (e_op op_sub opd_sub (E.toB (e_v 2)) (E.toB (e_op op_mul opd_mul (E.toB e_int) (E.toB (e_ix (E.ec (e_ix (E.ec (e_v 0)) (E.ec (e_v 4)))) (E.ec e_int))))))) rfl sc__law_box.nd rfl rfl (sw_true rfl rfl rfl (by decide +kernel)) (blkOk_by (N := N__law_box) (sc := defScope s__law_box) (by decide +kernel)) (fun _ h => h) rg_name)
    (b_cons (s_own (i := 6) (e_lst a_nil) sc__law_box.nd rfl (Or.inl rfl))
    (b_cons (s_for (i_range1 (a_cons (l := false) (E.toB e_int) a_nil) (by rfl) T.n_range) (g_name (i := 7) sc__law_box.nd rfl (.inr rfl))
    (b_cons (s_append 6 (e_callB (cr_max rfl) cd_maxL (by rfl) T.n_max (by decide +kernel) (a_cons (l := false) (E.toB (e_lc (own := [("_law_spot_here", 8), ("_law_room", 9)]) (i_zip (e_v 3) (e_v 5) (by rfl) T.n_zip) (fun _ _ _ _ _ => (g_tup (by rfl) (gs_cons (g_name (i := 8) sc__law_box.nd rfl (.inl rfl)) (gs_cons (g_name (i := 9) sc__law_box.nd rfl (.inl rfl)) gs_nil)))) (fun _ _ _ _ _ => ts_nil) (fun _ _ _ _ _ => (e_op op_sub opd_sub (E.toB (e_ix (E.ec (e_v 8)) (E.ec (e_v 7)))) (E.toB (e_v 9)))) rfl sc__law_box.nd (blkOk_by (N := N__law_box) (sc := defScope s__law_box) (by decide +kernel)) (fun _ h => h) (rg_tup (rgs_cons rg_name (rgs_cons rg_name rgs_nil))))) a_nil)) (hb := fun _ _ ho he => pe_bm PySem.F.plainAttrs_list PySem.F.slot_list_append PySem.F.type_list_append mt_append ho (pa_cons he pa_nil)))
    (b_one (s_append 6 (e_callB (cr_min rfl) cd_minL (by rfl) T.n_min (by decide +kernel) (a_cons (l := false) (E.toB (e_lc (own := [("_law_spot_here", 8), ("_law_room", 9)]) (i_zip (e_v 3) (e_v 5) (by rfl) T.n_zip) (fun _ _ _ _ _ => (g_tup (by rfl) (gs_cons (g_name (i := 8) sc__law_box.nd rfl (.inl rfl)) (gs_cons (g_name (i := 9) sc__law_box.nd rfl (.inl rfl)) gs_nil)))) (fun _ _ _ _ _ => ts_nil) (fun _ _ _ _ _ => (e_op op_addA opd_add (E.ec (e_ix (E.ec (e_v 8)) (E.ec (e_v 7)))) (E.ec (e_v 9)))) rfl sc__law_box.nd (blkOk_by (N := N__law_box) (sc := defScope s__law_box) (by decide +kernel)) (fun _ h => h) (rg_tup (rgs_cons rg_name (rgs_cons rg_name rgs_nil))))) a_nil)) (hb := fun _ _ ho he => pe_bm PySem.F.plainAttrs_list PySem.F.slot_list_append PySem.F.type_list_append mt_append ho (pa_cons he pa_nil))))) PassesOwn.never rfl)
    (b_frz 6 (b_one (s_ret (E.toB (e_tuple (E.ec (e_v 6)) (by rfl) T.n_tuple (by decide +kernel)))))))))))
theorem ok__law_numbered (T : Tx K mg base) : FnOk P w K mg base CX0 2 T.a__law_numbered T.d__law_numbered ["_law_deck_here", "_law_ends_here", "_law_joining_here"] (Sf false 3 wp__law_numbered) :=
  fn_ok (p := P__law_numbered) (k := 1) T.F__law_numbered sc__law_numbered (fun _ _ _ _ _ _ hr => (b_cons (s_set (i := 3) (e_callB call_lenA cd_len (by rfl) T.n_len (by decide +kernel) (a_cons (l := false) (E.toB (e_v 1)) a_nil)) sc__law_numbered.nd rfl (Or.inl rfl))
    (b_cons (s_own (i := 4) (e_lstRg1 (E.toB (e_v 3)) rfl (by rfl) T.n_list (by rfl) T.n_range) sc__law_numbered.nd rfl (Or.inr rfl))
    (b_cons (s_setLcM (i := 5) (own := [("_law_k", 6)]) (i_range1 (a_cons (l := false) (E.toB (e_v 3)) a_nil) (by rfl) T.n_range) (fun _ _ _ _ _ => (g_name (i := 6) sc__law_numbered.nd rfl (.inl rfl))) (fun _ _ _ _ _ => (mk_pop 4 (E.toB (e_call (mo := .e) (okS__law_draw T) (hr.mono (by decide)) rfl T.g__law_draw T.F__law_draw.kp T.b__law_draw (a_cons (l := true) (e_v 0) (a_cons (l := true) (e_callB call_lenA cd_len (by rfl) T.n_len (by decide +kernel) (a_cons (l := false) (E.toB (e_o 4)) a_nil)) a_nil)) (.inl rfl))) (fun _ _ ho he => pe_bm PySem.F.plainAttrs_list PySem.F.slot_list_pop PySem.F.type_list_pop mt_popAt ho (pa_cons he pa_nil)))) rfl sc__law_numbered.nd rfl rfl (sw_true rfl rfl rfl (by decide +kernel)) (blkOk_by (N := N__law_numbered) (sc := defScope s__law_numbered) (by decide +kernel)) (fun _ h => h) rg_name)
    (b_frz 4 (b_cons (s_own (i := 7) e_dic0 sc__law_numbered.nd rfl (Or.inr rfl))
    (b_cons (s_for (i_enum0 (e_v 5) (by rfl) T.n_enumerate) (g_tup (by rfl) (gs_cons (g_name (i := 8) sc__law_numbered.nd rfl (.inl rfl)) (gs_cons (g_name (i := 9) sc__law_numbered.nd rfl (.inl rfl)) gs_nil)))
    (b_one (s_dput 7 (hu_of hr) (e_v 8) (E.toB (e_v 9)))) PassesOwn.never rfl)
    (b_cons (s_own (i := 10) (e_lstRg1 (E.toB (e_callB call_lenA cd_len (by rfl) T.n_len (by decide +kernel) (a_cons (l := false) (E.toB (e_v 2)) a_nil))) rfl (by rfl) T.n_list (by rfl) T.n_range) sc__law_numbered.nd rfl (Or.inl rfl))
    (b_cons (s_own (i := 11) (e_lst a_nil) sc__law_numbered.nd rfl (Or.inl rfl))
    (b_cons (s_while (t_cmp (op_neD hr.units) (OpD.eb opd_ne) (E.toB (e_o 10)) (E.toB (e_lst a_nil)) (nomark _))
    (b_cons (s_setLcO (i := 12) (q := 10) (own := [("_law_k", 6)]) (fun _ _ _ _ _ => (g_name (i := 6) sc__law_numbered.nd rfl (.inl rfl))) (fun _ _ _ _ _ => (ts_one (w_t (w_and (t_dinO (hu_of hr) (E.ec (e_ix (E.ec (e_ix (E.ec (e_v 2)) (E.ec (e_v 6)))) (E.ec e_int))) (e_o 7)) (w_and1 (t_dinO (hu_of hr) (E.ec (e_ix (E.ec (e_ix (E.ec (e_v 2)) (E.ec (e_v 6)))) (E.ec e_int))) (e_o 7))))))) (fun _ _ _ _ _ => (e_v 6)) rfl sc__law_numbered.nd rfl rfl (sw_true rfl rfl rfl (by decide +kernel)) (blkOk_by (N := N__law_numbered) (sc := defScope s__law_numbered) (by decide +kernel)) (fun _ h => h) rg_name)
    (b_cons (s_set (i := 6) (e_ix (E.ec (e_v 12)) (E.ec (e_call (mo := .e) (okS__law_draw T) (hr.mono (by decide)) rfl T.g__law_draw T.F__law_draw.kp T.b__law_draw (a_cons (l := true) (e_v 0) (a_cons (l := true) (e_callB call_lenA cd_len (by rfl) T.n_len (by decide +kernel) (a_cons (l := false) (E.toB (e_v 12)) a_nil)) a_nil)) (.inl rfl)))) sc__law_numbered.nd rfl (Or.inl rfl))
    (b_cons (s_remove 10 (e_v 6) (hb := fun _ _ ho he => pe_bm PySem.F.plainAttrs_list PySem.F.slot_list_remove PySem.F.type_list_remove mt_remove ho (pa_cons he pa_nil)))
    (b_cons (s_set (i := 13) (e_tup (a_cons (l := true) (e_dgetO (hu_of hr) (e_o 7) (E.ec (e_ix (E.ec (e_ix (E.ec (e_v 2)) (E.ec (e_v 6)))) (E.ec e_int)))) (a_cons (l := true) (e_dgetO (hu_of hr) (e_o 7) (E.ec (e_ix (E.ec (e_ix (E.ec (e_v 2)) (E.ec (e_v 6)))) (E.ec e_int)))) a_nil))) sc__law_numbered.nd rfl (Or.inl rfl))
    (b_cons (s_append 11 (e_ix (E.ec (E.fe (e_lst (a_cons (l := true) (e_v 13) (a_cons (l := true) (e_tup (a_cons (l := true) (e_ix (E.ec (e_v 13)) (E.ec e_int)) (a_cons (l := true) (e_ix (E.ec (e_v 13)) (E.ec e_int)) a_nil))) a_nil))))) (E.ec (e_call (mo := .e) (okS__law_draw T) (hr.mono (by decide)) rfl T.g__law_draw T.F__law_draw.kp T.b__law_draw (a_cons (l := true) (e_v 0) (a_cons (l := true) e_int a_nil)) (.inl rfl)))) (hb := fun _ _ ho he => pe_bm PySem.F.plainAttrs_list PySem.F.slot_list_append PySem.F.type_list_append mt_append ho (pa_cons he pa_nil)))
    (b_one (s_dput 7 (hu_of hr) (e_op op_sub opd_sub (E.toB (e_op op_addA opd_add (E.ec (e_v 3)) (E.ec (e_callB call_lenA cd_len (by rfl) T.n_len (by decide +kernel) (a_cons (l := false) (E.toB (e_o 11)) a_nil))))) (E.toB e_int)) (E.toB (e_op op_addA opd_add (E.ec (e_v 3)) (E.ec (e_v 6))))))))))) PassesOwn.never)
    (b_frz 7 (b_frz 10 (b_frz 11 (b_one (s_ret (E.toB (e_tup (a_cons (l := true) (e_tuple (E.ec (E.fe (e_lc (own := [("_law_end", 9)]) (i_seq (e_v 5)) (fun _ _ _ _ _ => (g_name (i := 9) sc__law_numbered.nd rfl (.inl rfl))) (fun _ _ _ _ _ => ts_nil) (fun _ _ _ _ _ => (e_ix (E.ec (e_v 1)) (E.ec (e_v 9)))) rfl sc__law_numbered.nd (blkOk_by (N := N__law_numbered) (sc := defScope s__law_numbered) (by decide +kernel)) (fun _ h => h) rg_name))) (by rfl) T.n_tuple (by decide +kernel)) (a_cons (l := true) (e_tuple (E.ec (e_v 11)) (by rfl) T.n_tuple (by decide +kernel)) a_nil)))))))))))))))))))
theorem ok__law_doubled (T : Tx K mg base) : FnOk P w K mg base CX0 2 T.a__law_doubled T.d__law_doubled ["_law_deck_here", "_law_ends_here", "_law_joining_here"] (Sf false 3 wp__law_doubled) :=
  fn_ok (p := P__law_doubled) (k := 1) T.F__law_doubled sc__law_doubled (fun _ _ _ _ _ _ hr => (b_cons (s_set (i := 3) (e_callB call_lenA cd_len (by rfl) T.n_len (by decide +kernel) (a_cons (l := false) (E.toB (e_v 1)) a_nil)) sc__law_doubled.nd rfl (Or.inr rfl))
    (b_cons (s_set (i := 4) (e_call (mo := .e) (okS__law_draw T) (hr.mono (by decide)) rfl T.g__law_draw T.F__law_draw.kp T.b__law_draw (a_cons (l := true) (e_v 0) (a_cons (l := true) (e_v 3) a_nil)) (.inl rfl)) sc__law_doubled.nd rfl (Or.inr rfl))
    (b_cons (s_own (i := 5) (e_lst (a_cons (l := true) (e_tup (a_cons (l := true) (e_v 4) (a_cons (l := true) (e_v 3) a_nil))) a_nil)) sc__law_doubled.nd rfl (Or.inl rfl))
    (b_cons (s_for (i_seq (e_v 2)) (g_name (i := 6) sc__law_doubled.nd rfl (.inl rfl))
    (b_cons (s_setLc (i := 7) (own := [("_law_side_here", 8)]) (i_seq (e_v 6)) (fun _ _ _ _ _ => (g_name (i := 8) sc__law_doubled.nd rfl (.inl rfl))) (fun _ _ _ _ _ => ts_nil) (fun _ _ _ _ _ => (e_op op_addA opd_add (E.ec (e_v 8)) (E.ec (e_op op_mul opd_mul (E.toB e_int) (E.toB (e_callTy call_int1 cd_int (by rfl) T.n_int (by decide +kernel) (a_cons (l := false) (E.toB (e_cmp op_ge opd_ge (E.toB (e_v 8)) (E.toB (e_v 3)) (nomark _))) a_nil))))))) rfl sc__law_doubled.nd rfl rfl (sw_true rfl rfl rfl (by decide +kernel)) (blkOk_by (N := N__law_doubled) (sc := defScope s__law_doubled) (by decide +kernel)) (fun _ h => h) rg_name)
    (b_one (s_append 5 (e_tuple (E.ec (E.fe (e_lc (own := [("_law_side_here", 8)]) (i_seq (e_v 7)) (fun _ _ _ _ _ => (g_name (i := 8) sc__law_doubled.nd rfl (.inl rfl))) (fun _ _ _ _ _ => ts_nil) (fun _ _ _ _ _ => (e_ix (E.ec (E.fe (e_lst (a_cons (l := true) (e_v 8) (a_cons (l := true) (e_op op_addA opd_add (E.ec (e_v 3)) (E.ec e_int)) a_nil))))) (E.ec (e_callTy call_int1 cd_int (by rfl) T.n_int (by decide +kernel) (a_cons (l := false) (E.toB (e_cmp (op_eqD hr.units) opd_eq (E.toB (e_v 8)) (E.toB (e_v 4)) (nomark _))) a_nil))))) rfl sc__law_doubled.nd (blkOk_by (N := N__law_doubled) (sc := defScope s__law_doubled) (by decide +kernel)) (fun _ h => h) rg_name))) (by rfl) T.n_tuple (by decide +kernel)) (hb := fun _ _ ho he => pe_bm PySem.F.plainAttrs_list PySem.F.slot_list_append PySem.F.type_list_append mt_append ho (pa_cons he pa_nil))))) PassesOwn.never rfl)
    (b_frz 5 (b_one (s_ret (E.toB (e_tup (a_cons (l := true) (e_op op_addA opd_add (E.ec (e_v 1)) (E.ec (e_tup (a_cons (l := true) (e_ix (E.ec (e_v 1)) (E.ec (e_v 4))) a_nil)))) (a_cons (l := true) (e_tuple (E.ec (e_v 5)) (by rfl) T.n_tuple (by decide +kernel)) a_nil))))))))))))
theorem ok__law_side (T : Tx K mg base) : FnOk P w K mg base CX0 2 T.a__law_side T.d__law_side ["_law_ends_here", "_law_joining_here", "_law_knot"] (Sf false 3 wp__law_side) :=
  fn_ok (p := P__law_side) (k := 1) T.F__law_side sc__law_side (fun _ _ _ _ _ _ hr => (b_cons (s_set (i := 3) (e_callB call_lenA cd_len (by rfl) T.n_len (by decide +kernel) (a_cons (l := false) (E.toB (e_v 0)) a_nil)) sc__law_side.nd rfl (Or.inl rfl))
    (b_cons (s_set (i := 4) (e_call (mo := .e) (ok__law_beneath T) (hr.mono (by decide)) rfl T.g__law_beneath T.F__law_beneath.kp T.b__law_beneath (a_cons (l := true) (e_v 3) (a_cons (l := true) (e_v 1) a_nil)) (.inl rfl)) sc__law_side.nd rfl (Or.inr rfl))
    (b_cons (s_own (i := 5) e_dic0 sc__law_side.nd rfl (Or.inl rfl))
    (b_cons (s_for (i_enum0 (e_ix (E.ec (e_v 4)) (E.ec (e_v 2))) (by rfl) T.n_enumerate) (g_tup (by rfl) (gs_cons (g_name (i := 6) sc__law_side.nd rfl (.inl rfl)) (gs_cons (g_name (i := 7) sc__law_side.nd rfl (.inl rfl)) gs_nil)))
    (b_one (s_dput 5 (hu_of hr) (e_v 6) (E.toB (e_v 7)))) PassesOwn.never rfl)
    (b_cons (s_own (i := 8) (e_lst a_nil) sc__law_side.nd rfl (Or.inl rfl))
    (b_cons (s_for (i_enum0 (e_v 1) (by rfl) T.n_enumerate) (g_tup (by rfl) (gs_cons (g_name (i := 9) sc__law_side.nd rfl (.inl rfl)) (gs_cons (g_name (i := 10) sc__law_side.nd rfl (.inl rfl)) gs_nil)))
    (b_one (s_if (t_val (E.toB (e_callB (cr_all rfl) cd_allL (by rfl) T.n_all (by decide +kernel) (a_cons (l := true) (E.fe (e_lc (own := [("_law_end", 7)]) (i_seq (e_ix (E.ec (e_v 4)) (E.ec (e_op op_addA opd_add (E.ec (e_v 3)) (E.ec (e_v 9)))))) (fun _ _ _ _ _ => (g_name (i := 7) sc__law_side.nd rfl (.inl rfl))) (fun _ _ _ _ _ => ts_nil) (fun _ _ _ _ _ => (e_cmp op_in_seq (opd_in (neg := false)) (E.toB (e_v 7)) (E.toB (e_ix (E.ec (e_v 4)) (E.ec (e_v 2)))) (by rfl))) rfl sc__law_side.nd (blkOk_by (N := N__law_side) (sc := defScope s__law_side) (by decide +kernel)) (fun _ h => h) rg_name)) a_nil)))) (b_cons (s_append 8 (e_tup (a_cons (l := true) (e_dgetO (hu_of hr) (e_o 5) (E.ec (e_ix (E.ec (e_v 10)) (E.ec e_int)))) (a_cons (l := true) (e_dgetO (hu_of hr) (e_o 5) (E.ec (e_ix (E.ec (e_v 10)) (E.ec e_int)))) a_nil))) (hb := fun _ _ ho he => pe_bm PySem.F.plainAttrs_list PySem.F.slot_list_append PySem.F.type_list_append mt_append ho (pa_cons he pa_nil)))
    (b_one (s_dput 5 (hu_of hr) (e_op op_sub opd_sub (E.toB (e_op op_addA opd_add (E.ec (e_callB call_lenA cd_len (by rfl) T.n_len (by decide +kernel) (a_cons (l := false) (E.toB (e_ix (E.ec (e_v 4)) (E.ec (e_v 2)))) a_nil))) (E.ec (e_callB call_lenA cd_len (by rfl) T.n_len (by decide +kernel) (a_cons (l := false) (E.toB (e_o 8)) a_nil))))) (E.toB e_int)) (E.toB (e_op op_addA opd_add (E.ec (e_v 3)) (E.ec (e_v 9))))))) b_nil)) PassesOwn.never rfl)
    (b_frz 5 (b_frz 8 (b_one (s_ret (E.toB (e_tup (a_cons (l := true) (e_tuple (E.ec (E.fe (e_lc (own := [("_law_end", 7)]) (i_seq (e_ix (E.ec (e_v 4)) (E.ec (e_v 2)))) (fun _ _ _ _ _ => (g_name (i := 7) sc__law_side.nd rfl (.inl rfl))) (fun _ _ _ _ _ => ts_nil) (fun _ _ _ _ _ => (e_ix (E.ec (e_v 0)) (E.ec (e_v 7)))) rfl sc__law_side.nd (blkOk_by (N := N__law_side) (sc := defScope s__law_side) (by decide +kernel)) (fun _ h => h) rg_name))) (by rfl) T.n_tuple (by decide +kernel)) (a_cons (l := true) (e_tuple (E.ec (e_v 8)) (by rfl) T.n_tuple (by decide +kernel)) a_nil)))))))))))))))
theorem ok__law_told (T : Tx K mg base) : FnOk P w K mg base CX0 8 T.a__law_told T.d__law_told ["_law_ends_here", "_law_joining_here", "_law_due"] (Sf false 3 wp__law_told) :=
  fn_ok (p := P__law_told) (k := 7) T.F__law_told sc__law_told (fun _ _ _ _ _ _ hr => (b_cons (s_set (i := 3) (e_callD (mo := .e) (ok_even_tree T) (hr.mono (by decide)) rfl T.g_even_tree T.F_even_tree.kp T.bd_even_tree (a_cons (l := true) (e_v 0) (a_cons (l := true) (e_v 1) a_nil)) (.inl rfl)) sc__law_told.nd rfl (Or.inl rfl))
    (b_cons (s_if (w_t (w_or (t_not (t_val (E.toB (e_call (mo := .e) (ok__law_is_tree T) (hr.mono (by decide)) rfl T.g__law_is_tree T.F__law_is_tree.kp T.b__law_is_tree (a_cons (l := true) (e_v 0) (a_cons (l := true) (e_v 1) (a_cons (l := true) e_int (a_cons (l := true) (e_v 3) a_nil)))) (.inl rfl))))) (w_or (t_cmp (op_neD hr.units) (OpD.eb opd_ne) (E.toB (e_callB (cr_sumA rfl) cd_sumA (by rfl) T.n_sum (by decide +kernel) (a_cons (l := false) (E.toB (e_ix (E.ec (e_v 3)) (E.ec e_int))) a_nil))) (E.toB (e_v 2)) (nomark _)) (w_or1 (t_cmp (op_neD hr.units) (OpD.eb opd_ne) (E.toB (e_call (mo := .e) (ok_even_wire T) (hr.mono (by decide)) rfl T.g_even_wire T.F_even_wire.kp T.b_even_wire (a_cons (l := true) (e_v 0) (a_cons (l := true) (e_v 1) a_nil)) (.inl rfl))) (E.toB (e_v 2)) (nomark _)))))) (b_one (s_ret (E.toB e_bl))) b_nil)
    (b_one (s_ret (E.toB (e_cmp (op_eqD hr.units) opd_eq (E.toB (e_call (mo := .e) (ok_pairs_shown T) (hr.mono (by decide)) rfl T.g_pairs_shown T.F_pairs_shown.kp T.b_pairs_shown (a_cons (l := true) (e_v 0) (a_cons (l := true) (e_v 1) (a_cons (l := true) (e_call (mo := .e) (ok_pairs_for T) (hr.mono (by decide)) rfl T.g_pairs_for T.F_pairs_for.kp T.b_pairs_for (a_cons (l := true) (e_v 0) (a_cons (l := true) (e_v 1) a_nil)) (.inl rfl)) a_nil))) (.inl rfl))) (E.toB (e_v 2)) (nomark _))))))))
theorem ok__law_sides_right (T : Tx K mg base) : FnOk P w K mg base CX0 7 T.a__law_sides_right T.d__law_sides_right ["_law_ends_here", "_law_joining_here", "_law_due"] (Sf false 3 wp__law_sides_right) :=
  fn_ok (p := P__law_sides_right) (k := 6) T.F__law_sides_right sc__law_sides_right (fun _ _ _ _ _ _ hr => (b_cons (s_if (t_cmp (op_eqD hr.units) (OpD.eb opd_eq) (E.toB (e_v 1)) (E.toB (e_tup a_nil)) (nomark _)) (b_one (s_ret (E.toB (e_cmp (op_eqD hr.units) opd_eq (E.toB (e_v 2)) (E.toB e_int) (nomark _))))) b_nil)
    (b_cons (s_set (i := 3) (e_op op_mul opd_mul (E.toB e_int) (E.toB (e_call (mo := .e) (ok__law_height T) (hr.mono (by decide)) rfl T.g__law_height T.F__law_height.kp T.b__law_height (a_cons (l := true) (e_v 0) (a_cons (l := true) (E.fe (e_lstRg1 (E.toB (e_callB call_lenA cd_len (by rfl) T.n_len (by decide +kernel) (a_cons (l := false) (E.toB (e_v 0)) a_nil))) rfl (by rfl) T.n_list (by rfl) T.n_range)) a_nil)) (.inl rfl)))) sc__law_sides_right.nd rfl (Or.inl rfl))
    (b_cons (s_for (i_seq (e_ix (E.ec (e_v 1)) (E.ec (e_neg (E.toB e_int))))) (g_name (i := 4) sc__law_sides_right.nd rfl (.inl rfl))
    (b_cons (s_asg (e_call (mo := .e) (ok__law_side T) (hr.mono (by decide)) rfl T.g__law_side T.F__law_side.kp T.b__law_side (a_cons (l := true) (e_v 0) (a_cons (l := true) (e_v 1) (a_cons (l := true) (e_v 4) a_nil))) (.inl rfl)) (g_tup (by rfl) (gs_cons (g_name (i := 5) sc__law_sides_right.nd rfl (.inl rfl)) (gs_cons (g_name (i := 6) sc__law_sides_right.nd rfl (.inl rfl)) gs_nil))))
    (b_one (s_set (i := 3) (e_op op_sub opd_sub (E.toB (e_op op_addA opd_add (E.ec (e_v 3)) (E.ec (e_call (mo := .e) (ok_even_wire T) (hr.mono (by decide)) rfl T.g_even_wire T.F_even_wire.kp T.b_even_wire (a_cons (l := true) (e_v 5) (a_cons (l := true) (e_v 6) a_nil)) (.inl rfl))))) (E.toB (e_call (mo := .e) (ok__law_height T) (hr.mono (by decide)) rfl T.g__law_height T.F__law_height.kp T.b__law_height (a_cons (l := true) (e_v 5) (a_cons (l := true) (E.fe (e_lstRg1 (E.toB (e_callB call_lenA cd_len (by rfl) T.n_len (by decide +kernel) (a_cons (l := false) (E.toB (e_v 5)) a_nil))) rfl (by rfl) T.n_list (by rfl) T.n_range)) a_nil)) (.inl rfl)))) sc__law_sides_right.nd rfl (Or.inl rfl)))) PassesOwn.never rfl)
    (b_one (s_ret (E.toB (e_cmp (op_eqD hr.units) opd_eq (E.toB (e_v 3)) (E.toB (e_v 2)) (nomark _)))))))))
theorem ok__law_roots_right (T : Tx K mg base) : FnOk P w K mg base CX0 7 T.a__law_roots_right T.d__law_roots_right ["_law_ends_here", "_law_joining_here", "_law_due"] (Sf false 3 wp__law_roots_right) :=
  fn_ok (p := P__law_roots_right) (k := 6) T.F__law_roots_right sc__law_roots_right (fun _ _ _ _ _ _ hr => (b_cons (s_set (i := 3) (e_call (mo := .e) (ok__law_box T) (hr.mono (by decide)) rfl T.g__law_box T.F__law_box.kp T.b__law_box (a_cons (l := true) (e_v 0) (a_cons (l := true) (E.fe (e_lstRg1 (E.toB (e_callB call_lenA cd_len (by rfl) T.n_len (by decide +kernel) (a_cons (l := false) (E.toB (e_v 0)) a_nil))) rfl (by rfl) T.n_list (by rfl) T.n_range)) (a_cons (l := true) (e_call (mo := .e) (ok__law_height T) (hr.mono (by decide)) rfl T.g__law_height T.F__law_height.kp T.b__law_height (a_cons (l := true) (e_v 0) (a_cons (l := true) (E.fe (e_lstRg1 (E.toB (e_callB call_lenA cd_len (by rfl) T.n_len (by decide +kernel) (a_cons (l := false) (E.toB (e_v 0)) a_nil))) rfl (by rfl) T.n_list (by rfl) T.n_range)) a_nil)) (.inl rfl)) a_nil))) (.inl rfl)) sc__law_roots_right.nd rfl (Or.inl rfl))
    (b_cons (s_set (i := 4) (e_tup (a_cons (l := true) (e_op op_fdiv opd_div (E.toB (e_op op_addA opd_add (E.ec (e_ix (E.ec (e_v 3)) (E.ec e_int))) (E.ec (e_ix (E.ec (e_v 3)) (E.ec e_int))))) (E.toB e_int)) (a_cons (l := true) (e_op op_fdiv opd_div (E.toB (e_op op_addA opd_add (E.ec (e_ix (E.ec (e_v 3)) (E.ec e_int))) (E.ec (e_ix (E.ec (e_v 3)) (E.ec e_int))))) (E.toB e_int)) a_nil))) sc__law_roots_right.nd rfl (Or.inl rfl))
    (b_cons (s_for (i_seq (E.fe (e_lst (a_cons (l := true) (e_tup (a_cons (l := true) (e_ix (E.ec (e_v 3)) (E.ec e_int)) (a_cons (l := true) (e_ix (E.ec (e_v 3)) (E.ec e_int)) a_nil))) (a_cons (l := true) (e_tup (a_cons (l := true) (e_ix (E.ec (e_v 3)) (E.ec e_int)) (a_cons (l := true) (e_ix (E.ec (e_v 3)) (E.ec e_int)) a_nil))) (a_cons (l := true) (e_tup (a_cons (l := true) (e_ix (E.ec (e_v 3)) (E.ec e_int)) (a_cons (l := true) (e_ix (E.ec (e_v 3)) (E.ec e_int)) a_nil))) (a_cons (l := true) (e_v 4) a_nil))))))) (g_name (i := 5) sc__law_roots_right.nd rfl (.inl rfl))
    (b_one (s_if (t_cmp (op_neD hr.units) (OpD.eb opd_ne) (E.toB (e_callB (cr_sumA rfl) cd_sumA (by rfl) T.n_sum (by decide +kernel) (a_cons (l := false) (E.toB (e_ix (E.ec (e_call (mo := .e) (ok_even_tree T) (hr.mono (by decide)) rfl T.g_even_tree T.F_even_tree.kp T.b_even_tree (a_cons (l := true) (e_v 0) (a_cons (l := true) (e_v 1) (a_cons (l := true) (e_v 5) a_nil))) (.inl rfl))) (E.ec e_int))) a_nil))) (E.toB (e_v 2)) (nomark _)) (b_one (s_ret (E.toB e_bl))) b_nil)) PassesOwn.never rfl)
    (b_one (s_ret (E.toB e_bl)))))))
end
end Ew
namespace Ew
open PySem PySem.Spec PyProof.Rows L2 Pu
variable [Tbs]
section
variable {P : Program} {w : World} {K : PySem.W.Frag} {mg : Str → Option Value} {base : Heap}
theorem ok_law (T : Tx K mg base) : FnOk P w K mg base CX0 9 T.a_law T.d_law ["_law_script"] (sp_lawT K tbAll) := by
  refine T.F_law.ok sc_law (fun vs H Q _ h => ?_) (fun _ _ _ _ H vs Q _ hr h => ?_)
  · obtain ⟨a, ns, rfl, _⟩ := h
    rfl
  obtain ⟨a, ns, rfl, hS, hn, hT, k⟩ := h
  have hT := Tabs.of0 hT
  refine ⟨_, pss_cons (ps_set (i := 1) sc_law.nd rfl (Or.inl rfl) (pe_call (ok__law_deck T) (hr.mono (by decide)) rfl T.g__law_deck T.F__law_deck.kp T.b__law_deck .nil pass0 (pa_cons (pv 0) pa_nil))) (B.pss (fr := false) (p := P_law) (b_cons (s_set (i := 2) (e_call (mo := .e) (ok__law_ends T) (hr.mono (by decide)) rfl T.g__law_ends T.F__law_ends.kp T.b__law_ends (a_cons (l := true) (e_v 1) (a_cons (l := true) e_int a_nil)) (.inl rfl)) sc_law.nd rfl (Or.inl rfl))
    (b_cons (s_set (i := 3) (e_call (mo := .e) (ok__law_joining T) (hr.mono (by decide)) rfl T.g__law_joining T.F__law_joining.kp T.b__law_joining (a_cons (l := true) (e_v 1) (a_cons (l := true) (e_callB call_lenA cd_len (by rfl) T.n_len (by decide +kernel) (a_cons (l := false) (E.toB (e_v 2)) a_nil)) a_nil)) (.inl rfl)) sc_law.nd rfl (Or.inl rfl))
    (b_cons (s_set (i := 4) (e_call (mo := .e) (ok_even_wire T) (hr.mono (by decide)) rfl T.g_even_wire T.F_even_wire.kp T.b_even_wire (a_cons (l := true) (e_v 2) (a_cons (l := true) (e_v 3) a_nil)) (.inl rfl)) sc_law.nd rfl (Or.inl rfl))
    (b_cons (s_set (i := 5) (E.fe (e_callB cr_sortedTu cd_sortedT (by rfl) T.n_sorted (by decide +kernel) (a_cons (l := false) (E.toB (e_ix (E.ec (e_callD (mo := .e) (ok_even_tree T) (hr.mono (by decide)) rfl T.g_even_tree T.F_even_tree.kp T.bd_even_tree (a_cons (l := true) (e_v 2) (a_cons (l := true) (e_v 3) a_nil)) (.inl rfl))) (E.ec e_int))) a_nil))) sc_law.nd rfl (Or.inl rfl))
    (b_cons (s_for (i_range1 (a_cons (l := false) (E.toB e_int) a_nil) (by rfl) T.n_range) (g_name (i := 6) sc_law.nd rfl (.inl rfl))
    (b_cons (s_asg (e_call (mo := .e) (ok__law_numbered T) (hr.mono (by decide)) rfl T.g__law_numbered T.F__law_numbered.kp T.b__law_numbered (a_cons (l := true) (e_v 1) (a_cons (l := true) (e_v 2) (a_cons (l := true) (e_v 3) a_nil))) (.inl rfl)) (g_tup (by rfl) (gs_cons (g_name (i := 7) sc_law.nd rfl (.inl rfl)) (gs_cons (g_name (i := 8) sc_law.nd rfl (.inl rfl)) gs_nil))))
    (b_one (s_if (w_t (w_or (t_not (t_val (E.toB (e_call (mo := .e) (ok__law_told T) (hr.mono (by decide)) rfl T.g__law_told T.F__law_told.kp T.b__law_told (a_cons (l := true) (e_v 7) (a_cons (l := true) (e_v 8) (a_cons (l := true) (e_v 4) a_nil))) (.inl rfl))))) (w_or1 (t_cmp (op_neD hr.units) (OpD.eb opd_ne) (E.toB (e_callB cr_sortedTu cd_sortedT (by rfl) T.n_sorted (by decide +kernel) (a_cons (l := false) (E.toB (e_ix (E.ec (e_callD (mo := .e) (ok_even_tree T) (hr.mono (by decide)) rfl T.g_even_tree T.F_even_tree.kp T.bd_even_tree (a_cons (l := true) (e_v 7) (a_cons (l := true) (e_v 8) a_nil)) (.inl rfl))) (E.ec e_int))) a_nil))) (E.toB (e_v 5)) (nomark _))))) (b_one (s_ret (E.toB e_bl))) b_nil))) PassesOwn.never rfl)
    (b_cons (s_set (i := 9) (e_call (mo := .e) (okS__law_draw T) (hr.mono (by decide)) rfl T.g__law_draw T.F__law_draw.kp T.b__law_draw (a_cons (l := true) (e_v 1) (a_cons (l := true) (e_op op_sub opd_sub (E.toB (e_op op_addA opd_add (E.ec (e_powC 10 6 1000000)) (E.ec e_int))) (E.toB (e_callB (cr_max rfl) cd_maxL (by rfl) T.n_max (by decide +kernel) (a_cons (l := false) (E.toB (e_lc (own := [("_law_end", 10)]) (i_seq (e_v 2)) (fun _ _ _ _ _ => (g_name (i := 10) sc_law.nd rfl (.inl rfl))) (fun _ _ _ _ _ => ts_nil) (fun _ _ _ _ _ => (e_ix (E.ec (e_v 10)) (E.ec e_int))) rfl sc_law.nd (blkOk_by (N := N_law) (sc := defScope s_law) (by decide +kernel)) (fun _ h => h) rg_name)) a_nil)))) a_nil)) (.inl rfl)) sc_law.nd rfl (Or.inr rfl))
    (b_cons (s_set (i := 11) (e_tuple (E.ec (E.fe (e_lc (own := [("_law_end", 10)]) (i_seq (e_v 2)) (fun _ _ _ _ _ => (g_name (i := 10) sc_law.nd rfl (.inl rfl))) (fun _ _ _ _ _ => ts_nil) (fun _ _ _ _ _ => (e_tup (a_cons (l := true) (e_ix (E.ec (e_v 10)) (E.ec e_int)) (a_cons (l := true) (e_ix (E.ec (e_v 10)) (E.ec e_int)) (a_cons (l := true) (e_op op_addA opd_add (E.ec (e_ix (E.ec (e_v 10)) (E.ec e_int))) (E.ec (e_v 9))) (a_cons (l := true) (e_ix (E.ec (e_v 10)) (E.ec e_int)) a_nil)))))) rfl sc_law.nd (blkOk_by (N := N_law) (sc := defScope s_law) (by decide +kernel)) (fun _ h => h) rg_name))) (by rfl) T.n_tuple (by decide +kernel)) sc_law.nd rfl (Or.inl rfl))
    (b_cons (s_if (w_t (w_or (t_not (t_val (E.toB (e_call (mo := .e) (ok__law_told T) (hr.mono (by decide)) rfl T.g__law_told T.F__law_told.kp T.b__law_told (a_cons (l := true) (e_v 11) (a_cons (l := true) (e_v 3) (a_cons (l := true) (e_v 4) a_nil))) (.inl rfl))))) (w_or1 (t_not (t_val (E.toB (e_call (mo := .e) (ok__law_told T) (hr.mono (by decide)) rfl T.g__law_told T.F__law_told.kp T.b__law_told (a_cons (l := true) (e_v 2) (a_cons (l := true) (e_v 3) (a_cons (l := true) (e_v 4) a_nil))) (.inl rfl)))))))) (b_one (s_ret (E.toB e_bl))) b_nil)
    (b_cons (s_asg (e_call (mo := .e) (ok__law_doubled T) (hr.mono (by decide)) rfl T.g__law_doubled T.F__law_doubled.kp T.b__law_doubled (a_cons (l := true) (e_v 1) (a_cons (l := true) (e_v 2) (a_cons (l := true) (e_v 3) a_nil))) (.inl rfl)) (g_tup (by rfl) (gs_cons (g_name (i := 7) sc_law.nd rfl (.inl rfl)) (gs_cons (g_name (i := 8) sc_law.nd rfl (.inl rfl)) gs_nil))))
    (b_cons (s_if (t_not (t_val (E.toB (e_call (mo := .e) (ok__law_told T) (hr.mono (by decide)) rfl T.g__law_told T.F__law_told.kp T.b__law_told (a_cons (l := true) (e_v 7) (a_cons (l := true) (e_v 8) (a_cons (l := true) (e_v 4) a_nil))) (.inl rfl))))) (b_one (s_ret (E.toB e_bl))) b_nil)
    (b_one (s_ret (E.toB (e_and (E.toB (e_call (mo := .e) (ok__law_sides_right T) (hr.mono (by decide)) rfl T.g__law_sides_right T.F__law_sides_right.kp T.b__law_sides_right (a_cons (l := true) (e_v 2) (a_cons (l := true) (e_v 3) (a_cons (l := true) (e_v 4) a_nil))) (.inl rfl))) (e_one (e_call (mo := .e) (ok__law_roots_right T) (hr.mono (by decide)) rfl T.g__law_roots_right T.F__law_roots_right.kp T.b__law_roots_right (a_cons (l := true) (e_v 2) (a_cons (l := true) (e_v 3) (a_cons (l := true) (e_v 4) a_nil))) (.inl rfl)))))))))))))))))), ?_⟩
  refine ⟨_, rfl, sp__law_deck.mk hS hn hT (fun H1 dk c hD1 hT1 _ _ => ?_)⟩
  exact rest_ok (nt := 3) (N := N_law) (by decide) rs_tPS (by decide) (deck_dkF hD1) hT1 k law_pure
end
omit [Tbs] in
set_option maxHeartbeats 0 in
theorem all_mk {l : PySem.W.OpenLaw} {w : World} {K : PySem.W.Frag} {h : Heap} {mg : Str → Option Value} {fa : Addr} (X : K.In h) (G : h.Ns mainGlobals mg) (hfa : mg "law" = some (.ref fa))
    {f0 f1 f2 f3 f4 f5 f6 f7 f8 f9 f10 f11 f12 f13 f14 f15 f16 f17 f18 f19 f20 f21 f22 f23 f24 f25 f26 f27 f28 f29 f30 f31 f32 f33 f34 f35 f36 f37 f38 f39 f40 f41 f42 f43 f44 f45 f46 f47 f48 f49 f50 f51 f52 f53 : Addr}
    {od0 an0 od1 an1 od2 an2 od3 an3 od4 an4 od5 an5 od6 an6 od7 an7 od8 an8 od9 an9 od10 an10 od11 an11 od12 an12 od13 an13 od14 an14 od15 an15 od16 an16 od17 an17 od18 an18 od19 an19 od20 an20 od21 an21 od22 an22 od23 an23 od24 an24 od25 an25 od26 an26 od27 an27 od28 an28 od29 an29 od30 an30 od31 an31 od32 an32 od33 an33 od34 an34 od35 an35 od36 an36 od37 an37 od38 an38 od39 an39 od40 an40 od41 an41 od42 an42 od43 an43 od44 an44 od45 an45 od46 an46 od47 an47 od48 an48 od49 an49 od50 an50 od51 an51 od52 an52 od53 an53 : Option Addr} {sl0 sl1 sl2 sl3 sl4 sl5 sl6 sl7 sl8 sl9 sl10 sl11 sl12 sl13 sl14 sl15 sl16 sl17 sl18 sl19 sl20 sl21 sl22 sl23 sl24 sl25 sl26 sl27 sl28 sl29 sl30 sl31 sl32 sl33 sl34 sl35 sl36 sl37 sl38 sl39 sl40 sl41 sl42 sl43 sl44 sl45 sl46 sl47 sl48 sl49 sl50 sl51 sl52 sl53 : Array (Option Value)} {oc0 kV0 dc0 pm0 ct0 cd0 oc1 kV1 dc1 pm1 ct1 cd1 oc2 kV2 dc2 pm2 ct2 cd2 oc3 kV3 dc3 pm3 ct3 cd3 oc4 kV4 dc4 pm4 ct4 cd4 oc5 kV5 dc5 pm5 ct5 cd5 oc6 kV6 dc6 pm6 ct6 cd6 oc7 kV7 dc7 pm7 ct7 cd7 oc8 kV8 dc8 pm8 ct8 cd8 oc9 kV9 dc9 pm9 ct9 cd9 oc10 kV10 dc10 pm10 ct10 cd10 oc11 kV11 dc11 pm11 ct11 cd11 oc12 kV12 dc12 pm12 ct12 cd12 oc13 kV13 dc13 pm13 ct13 cd13 oc14 kV14 dc14 pm14 ct14 cd14 oc15 kV15 dc15 pm15 ct15 cd15 oc16 kV16 dc16 pm16 ct16 cd16 oc17 kV17 dc17 pm17 ct17 cd17 oc18 kV18 dc18 pm18 ct18 cd18 oc19 kV19 dc19 pm19 ct19 cd19 oc20 kV20 dc20 pm20 ct20 cd20 oc21 kV21 dc21 pm21 ct21 cd21 oc22 kV22 dc22 pm22 ct22 cd22 oc23 kV23 dc23 pm23 ct23 cd23 oc24 kV24 dc24 pm24 ct24 oc25 kV25 dc25 pm25 ct25 cd25 oc26 kV26 dc26 pm26 ct26 cd26 oc27 kV27 dc27 pm27 ct27 cd27 oc28 kV28 dc28 pm28 ct28 oc29 kV29 dc29 pm29 ct29 cd29 oc30 kV30 dc30 pm30 ct30 cd30 oc31 kV31 dc31 pm31 ct31 cd31 oc32 kV32 dc32 pm32 ct32 cd32 oc33 kV33 dc33 pm33 ct33 cd33 oc34 kV34 dc34 pm34 ct34 cd34 oc35 kV35 dc35 pm35 ct35 cd35 oc36 kV36 dc36 pm36 ct36 cd36 oc37 kV37 dc37 pm37 ct37 cd37 oc38 kV38 dc38 pm38 ct38 cd38 oc39 kV39 dc39 pm39 ct39 cd39 oc40 kV40 dc40 pm40 ct40 cd40 oc41 kV41 dc41 pm41 ct41 cd41 oc42 kV42 dc42 pm42 ct42 cd42 oc43 kV43 dc43 pm43 ct43 cd43 oc44 kV44 dc44 pm44 ct44 cd44 oc45 kV45 dc45 pm45 ct45 cd45 oc46 kV46 dc46 pm46 ct46 cd46 oc47 kV47 dc47 pm47 ct47 cd47 oc48 kV48 dc48 pm48 ct48 cd48 oc49 kV49 dc49 pm49 ct49 cd49 oc50 kV50 dc50 pm50 ct50 cd50 oc51 kV51 dc51 pm51 ct51 cd51 oc52 kV52 dc52 pm52 ct52 cd52 oc53 kV53 dc53 pm53 ct53 cd53 : Value}
    {q24 p24 : Addr} {ec24 : Value} {ed24 : Option Addr} {ev24 : Array Value} {es24 : Array (Option Value)}
    {q28 p28 : Addr} {ec28 : Value} {ed28 : Option Addr} {ev28 : Array Value} {es28 : Array (Option Value)}
    {dt22 : Addr} {tc22 : Value} {td22 : Option Addr} {tm22 : Nat} {ts22 : Array (Option Value)}
    (a0 : PySem.W.nsIn K mainGlobals "chain" = some (some (.ref f0))) (l0 : K.lookup f0 = some ⟨oc0, od0, .func (PySem.W.fnOf "chain" "chain" (defArgs s_chain) (defBody s_chain) (defScope s_chain) .none kV0 dc0 pm0 an0 cd0 ct0), sl0⟩) (c0 : PySem.W.codeIn K cd0 "chain" = true) (k0 : PySem.W.keepIn K (.ref f0) = true)
    (a1 : PySem.W.nsIn K mainGlobals "beneath" = some (some (.ref f1))) (l1 : K.lookup f1 = some ⟨oc1, od1, .func (PySem.W.fnOf "beneath" "beneath" (defArgs s_beneath) (defBody s_beneath) (defScope s_beneath) .none kV1 dc1 pm1 an1 cd1 ct1), sl1⟩) (c1 : PySem.W.codeIn K cd1 "beneath" = true) (k1 : PySem.W.keepIn K (.ref f1) = true)
    (a2 : PySem.W.nsIn K mainGlobals "joints_above" = some (some (.ref f2))) (l2 : K.lookup f2 = some ⟨oc2, od2, .func (PySem.W.fnOf "joints_above" "joints_above" (defArgs s_joints_above) (defBody s_joints_above) (defScope s_joints_above) .none kV2 dc2 pm2 an2 cd2 ct2), sl2⟩) (c2 : PySem.W.codeIn K cd2 "joints_above" = true) (k2 : PySem.W.keepIn K (.ref f2) = true)
    (a3 : PySem.W.nsIn K mainGlobals "spot_of" = some (some (.ref f3))) (l3 : K.lookup f3 = some ⟨oc3, od3, .func (PySem.W.fnOf "spot_of" "spot_of" (defArgs s_spot_of) (defBody s_spot_of) (defScope s_spot_of) .none kV3 dc3 pm3 an3 cd3 ct3), sl3⟩) (c3 : PySem.W.codeIn K cd3 "spot_of" = true) (k3 : PySem.W.keepIn K (.ref f3) = true)
    (a4 : PySem.W.nsIn K mainGlobals "grown" = some (some (.ref f4))) (l4 : K.lookup f4 = some ⟨oc4, od4, .func (PySem.W.fnOf "grown" "grown" (defArgs s_grown) (defBody s_grown) (defScope s_grown) .none kV4 dc4 pm4 an4 cd4 ct4), sl4⟩) (c4 : PySem.W.codeIn K cd4 "grown" = true) (k4 : PySem.W.keepIn K (.ref f4) = true)
    (a5 : PySem.W.nsIn K mainGlobals "met" = some (some (.ref f5))) (l5 : K.lookup f5 = some ⟨oc5, od5, .func (PySem.W.fnOf "met" "met" (defArgs s_met) (defBody s_met) (defScope s_met) .none kV5 dc5 pm5 an5 cd5 ct5), sl5⟩) (c5 : PySem.W.codeIn K cd5 "met" = true) (k5 : PySem.W.keepIn K (.ref f5) = true)
    (a6 : PySem.W.nsIn K mainGlobals "apart" = some (some (.ref f6))) (l6 : K.lookup f6 = some ⟨oc6, od6, .func (PySem.W.fnOf "apart" "apart" (defArgs s_apart) (defBody s_apart) (defScope s_apart) .none kV6 dc6 pm6 an6 cd6 ct6), sl6⟩) (c6 : PySem.W.codeIn K cd6 "apart" = true) (k6 : PySem.W.keepIn K (.ref f6) = true)
    (a7 : PySem.W.nsIn K mainGlobals "nearest" = some (some (.ref f7))) (l7 : K.lookup f7 = some ⟨oc7, od7, .func (PySem.W.fnOf "nearest" "nearest" (defArgs s_nearest) (defBody s_nearest) (defScope s_nearest) .none kV7 dc7 pm7 an7 cd7 ct7), sl7⟩) (c7 : PySem.W.codeIn K cd7 "nearest" = true) (k7 : PySem.W.keepIn K (.ref f7) = true)
    (a8 : PySem.W.nsIn K mainGlobals "within" = some (some (.ref f8))) (l8 : K.lookup f8 = some ⟨oc8, od8, .func (PySem.W.fnOf "within" "within" (defArgs s_within) (defBody s_within) (defScope s_within) .none kV8 dc8 pm8 an8 cd8 ct8), sl8⟩) (c8 : PySem.W.codeIn K cd8 "within" = true) (k8 : PySem.W.keepIn K (.ref f8) = true)
    (a9 : PySem.W.nsIn K mainGlobals "corner" = some (some (.ref f9))) (l9 : K.lookup f9 = some ⟨oc9, od9, .func (PySem.W.fnOf "corner" "corner" (defArgs s_corner) (defBody s_corner) (defScope s_corner) .none kV9 dc9 pm9 an9 cd9 ct9), sl9⟩) (c9 : PySem.W.codeIn K cd9 "corner" = true) (k9 : PySem.W.keepIn K (.ref f9) = true)
    (a10 : PySem.W.nsIn K mainGlobals "has" = some (some (.ref f10))) (l10 : K.lookup f10 = some ⟨oc10, od10, .func (PySem.W.fnOf "has" "has" (defArgs s_has) (defBody s_has) (defScope s_has) .none kV10 dc10 pm10 an10 cd10 ct10), sl10⟩) (c10 : PySem.W.codeIn K cd10 "has" = true) (k10 : PySem.W.keepIn K (.ref f10) = true)
    (a11 : PySem.W.nsIn K mainGlobals "steps" = some (some (.ref f11))) (l11 : K.lookup f11 = some ⟨oc11, od11, .func (PySem.W.fnOf "steps" "steps" (defArgs s_steps) (defBody s_steps) (defScope s_steps) .none kV11 dc11 pm11 an11 cd11 ct11), sl11⟩) (c11 : PySem.W.codeIn K cd11 "steps" = true) (k11 : PySem.W.keepIn K (.ref f11) = true)
    (a12 : PySem.W.nsIn K mainGlobals "wanted" = some (some (.ref f12))) (l12 : K.lookup f12 = some ⟨oc12, od12, .func (PySem.W.fnOf "wanted" "wanted" (defArgs s_wanted) (defBody s_wanted) (defScope s_wanted) .none kV12 dc12 pm12 an12 cd12 ct12), sl12⟩) (c12 : PySem.W.codeIn K cd12 "wanted" = true) (k12 : PySem.W.keepIn K (.ref f12) = true)
    (a13 : PySem.W.nsIn K mainGlobals "started" = some (some (.ref f13))) (l13 : K.lookup f13 = some ⟨oc13, od13, .func (PySem.W.fnOf "started" "started" (defArgs s_started) (defBody s_started) (defScope s_started) .none kV13 dc13 pm13 an13 cd13 ct13), sl13⟩) (c13 : PySem.W.codeIn K cd13 "started" = true) (k13 : PySem.W.keepIn K (.ref f13) = true)
    (a14 : PySem.W.nsIn K mainGlobals "height_of" = some (some (.ref f14))) (l14 : K.lookup f14 = some ⟨oc14, od14, .func (PySem.W.fnOf "height_of" "height_of" (defArgs s_height_of) (defBody s_height_of) (defScope s_height_of) .none kV14 dc14 pm14 an14 cd14 ct14), sl14⟩) (c14 : PySem.W.codeIn K cd14 "height_of" = true) (k14 : PySem.W.keepIn K (.ref f14) = true)
    (a15 : PySem.W.nsIn K mainGlobals "row_of" = some (some (.ref f15))) (l15 : K.lookup f15 = some ⟨oc15, od15, .func (PySem.W.fnOf "row_of" "row_of" (defArgs s_row_of) (defBody s_row_of) (defScope s_row_of) .none kV15 dc15 pm15 an15 cd15 ct15), sl15⟩) (c15 : PySem.W.codeIn K cd15 "row_of" = true) (k15 : PySem.W.keepIn K (.ref f15) = true)
    (a16 : PySem.W.nsIn K mainGlobals "reached" = some (some (.ref f16))) (l16 : K.lookup f16 = some ⟨oc16, od16, .func (PySem.W.fnOf "reached" "reached" (defArgs s_reached) (defBody s_reached) (defScope s_reached) .none kV16 dc16 pm16 an16 cd16 ct16), sl16⟩) (c16 : PySem.W.codeIn K cd16 "reached" = true) (k16 : PySem.W.keepIn K (.ref f16) = true)
    (a17 : PySem.W.nsIn K mainGlobals "joined" = some (some (.ref f17))) (l17 : K.lookup f17 = some ⟨oc17, od17, .func (PySem.W.fnOf "joined" "joined" (defArgs s_joined) (defBody s_joined) (defScope s_joined) .none kV17 dc17 pm17 an17 cd17 ct17), sl17⟩) (c17 : PySem.W.codeIn K cd17 "joined" = true) (k17 : PySem.W.keepIn K (.ref f17) = true)
    (a18 : PySem.W.nsIn K mainGlobals "rows_of" = some (some (.ref f18))) (l18 : K.lookup f18 = some ⟨oc18, od18, .func (PySem.W.fnOf "rows_of" "rows_of" (defArgs s_rows_of) (defBody s_rows_of) (defScope s_rows_of) .none kV18 dc18 pm18 an18 cd18 ct18), sl18⟩) (c18 : PySem.W.codeIn K cd18 "rows_of" = true) (k18 : PySem.W.keepIn K (.ref f18) = true)
    (a19 : PySem.W.nsIn K mainGlobals "stood" = some (some (.ref f19))) (l19 : K.lookup f19 = some ⟨oc19, od19, .func (PySem.W.fnOf "stood" "stood" (defArgs s_stood) (defBody s_stood) (defScope s_stood) .none kV19 dc19 pm19 an19 cd19 ct19), sl19⟩) (c19 : PySem.W.codeIn K cd19 "stood" = true) (k19 : PySem.W.keepIn K (.ref f19) = true)
    (a20 : PySem.W.nsIn K mainGlobals "root_spot" = some (some (.ref f20))) (l20 : K.lookup f20 = some ⟨oc20, od20, .func (PySem.W.fnOf "root_spot" "root_spot" (defArgs s_root_spot) (defBody s_root_spot) (defScope s_root_spot) .none kV20 dc20 pm20 an20 cd20 ct20), sl20⟩) (c20 : PySem.W.codeIn K cd20 "root_spot" = true) (k20 : PySem.W.keepIn K (.ref f20) = true)
    (a21 : PySem.W.nsIn K mainGlobals "even_wire" = some (some (.ref f21))) (l21 : K.lookup f21 = some ⟨oc21, od21, .func (PySem.W.fnOf "even_wire" "even_wire" (defArgs s_even_wire) (defBody s_even_wire) (defScope s_even_wire) .none kV21 dc21 pm21 an21 cd21 ct21), sl21⟩) (c21 : PySem.W.codeIn K cd21 "even_wire" = true) (k21 : PySem.W.keepIn K (.ref f21) = true)
    (a22 : PySem.W.nsIn K mainGlobals "even_tree" = some (some (.ref f22))) (l22 : K.lookup f22 = some ⟨oc22, od22, .func (PySem.W.fnOf "even_tree" "even_tree" (defArgs s_even_tree) (defBody s_even_tree) (defScope s_even_tree) (.ref dt22) kV22 dc22 pm22 an22 cd22 ct22), sl22⟩) (c22 : PySem.W.codeIn K cd22 "even_tree" = true) (k22 : PySem.W.keepIn K (.ref f22) = true)
    (t22 : K.lookup dt22 = some ⟨tc22, td22, .seq [Value.none].toArray tm22, ts22⟩)
    (a23 : PySem.W.nsIn K mainGlobals "is_whole" = some (some (.ref f23))) (l23 : K.lookup f23 = some ⟨oc23, od23, .func (PySem.W.fnOf "is_whole" "is_whole" (defArgs s_is_whole) (defBody s_is_whole) (defScope s_is_whole) .none kV23 dc23 pm23 an23 cd23 ct23), sl23⟩) (c23 : PySem.W.codeIn K cd23 "is_whole" = true) (k23 : PySem.W.keepIn K (.ref f23) = true)
    (a24 : PySem.W.nsIn K mainGlobals "are_wholes" = some (some (.ref f24))) (l24 : K.lookup f24 = some ⟨oc24, od24, .func (PySem.W.fnOf "are_wholes" "are_wholes" (defArgs s_are_wholes) (defBody s_are_wholes) (defScope s_are_wholes) .none kV24 dc24 pm24 an24 (.ref q24) ct24), sl24⟩) (c24 : PySem.W.codeIn K (.ref q24) "are_wholes" = true) (k24 : PySem.W.keepIn K (.ref f24) = true)
    (u24 : K.lookup q24 = some ⟨ec24, ed24, .fields ev24, es24⟩) (w24 : ev24[11]? = some (.ref p24)) (v24 : K.lookup p24 = none)
    (a25 : PySem.W.nsIn K mainGlobals "pairs_for" = some (some (.ref f25))) (l25 : K.lookup f25 = some ⟨oc25, od25, .func (PySem.W.fnOf "pairs_for" "pairs_for" (defArgs s_pairs_for) (defBody s_pairs_for) (defScope s_pairs_for) .none kV25 dc25 pm25 an25 cd25 ct25), sl25⟩) (c25 : PySem.W.codeIn K cd25 "pairs_for" = true) (k25 : PySem.W.keepIn K (.ref f25) = true)
    (a26 : PySem.W.nsIn K mainGlobals "first_pair" = some (some (.ref f26))) (l26 : K.lookup f26 = some ⟨oc26, od26, .func (PySem.W.fnOf "first_pair" "first_pair" (defArgs s_first_pair) (defBody s_first_pair) (defScope s_first_pair) .none kV26 dc26 pm26 an26 cd26 ct26), sl26⟩) (c26 : PySem.W.codeIn K cd26 "first_pair" = true) (k26 : PySem.W.keepIn K (.ref f26) = true)
    (a27 : PySem.W.nsIn K mainGlobals "pairs_shown" = some (some (.ref f27))) (l27 : K.lookup f27 = some ⟨oc27, od27, .func (PySem.W.fnOf "pairs_shown" "pairs_shown" (defArgs s_pairs_shown) (defBody s_pairs_shown) (defScope s_pairs_shown) .none kV27 dc27 pm27 an27 cd27 ct27), sl27⟩) (c27 : PySem.W.codeIn K cd27 "pairs_shown" = true) (k27 : PySem.W.keepIn K (.ref f27) = true)
    (a28 : PySem.W.nsIn K mainGlobals "is_paper" = some (some (.ref f28))) (l28 : K.lookup f28 = some ⟨oc28, od28, .func (PySem.W.fnOf "is_paper" "is_paper" (defArgs s_is_paper) (defBody s_is_paper) (defScope s_is_paper) .none kV28 dc28 pm28 an28 (.ref q28) ct28), sl28⟩) (c28 : PySem.W.codeIn K (.ref q28) "is_paper" = true) (k28 : PySem.W.keepIn K (.ref f28) = true)
    (u28 : K.lookup q28 = some ⟨ec28, ed28, .fields ev28, es28⟩) (w28 : ev28[11]? = some (.ref p28)) (v28 : K.lookup p28 = none)
    (a29 : PySem.W.nsIn K mainGlobals "is_pair" = some (some (.ref f29))) (l29 : K.lookup f29 = some ⟨oc29, od29, .func (PySem.W.fnOf "is_pair" "is_pair" (defArgs s_is_pair) (defBody s_is_pair) (defScope s_is_pair) .none kV29 dc29 pm29 an29 cd29 ct29), sl29⟩) (c29 : PySem.W.codeIn K cd29 "is_pair" = true) (k29 : PySem.W.keepIn K (.ref f29) = true)
    (a30 : PySem.W.nsIn K mainGlobals "_law_deck" = some (some (.ref f30))) (l30 : K.lookup f30 = some ⟨oc30, od30, .func (PySem.W.fnOf "_law_deck" "_law_deck" (defArgs s__law_deck) (defBody s__law_deck) (defScope s__law_deck) .none kV30 dc30 pm30 an30 cd30 ct30), sl30⟩) (c30 : PySem.W.codeIn K cd30 "_law_deck" = true) (k30 : PySem.W.keepIn K (.ref f30) = true)
    (a31 : PySem.W.nsIn K mainGlobals "_law_draw" = some (some (.ref f31))) (l31 : K.lookup f31 = some ⟨oc31, od31, .func (PySem.W.fnOf "_law_draw" "_law_draw" (defArgs s__law_draw) (defBody s__law_draw) (defScope s__law_draw) .none kV31 dc31 pm31 an31 cd31 ct31), sl31⟩) (c31 : PySem.W.codeIn K cd31 "_law_draw" = true) (k31 : PySem.W.keepIn K (.ref f31) = true)
    (a32 : PySem.W.nsIn K mainGlobals "_law_place" = some (some (.ref f32))) (l32 : K.lookup f32 = some ⟨oc32, od32, .func (PySem.W.fnOf "_law_place" "_law_place" (defArgs s__law_place) (defBody s__law_place) (defScope s__law_place) .none kV32 dc32 pm32 an32 cd32 ct32), sl32⟩) (c32 : PySem.W.codeIn K cd32 "_law_place" = true) (k32 : PySem.W.keepIn K (.ref f32) = true)
    (a33 : PySem.W.nsIn K mainGlobals "_law_start" = some (some (.ref f33))) (l33 : K.lookup f33 = some ⟨oc33, od33, .func (PySem.W.fnOf "_law_start" "_law_start" (defArgs s__law_start) (defBody s__law_start) (defScope s__law_start) .none kV33 dc33 pm33 an33 cd33 ct33), sl33⟩) (c33 : PySem.W.codeIn K cd33 "_law_start" = true) (k33 : PySem.W.keepIn K (.ref f33) = true)
    (a34 : PySem.W.nsIn K mainGlobals "_law_ends" = some (some (.ref f34))) (l34 : K.lookup f34 = some ⟨oc34, od34, .func (PySem.W.fnOf "_law_ends" "_law_ends" (defArgs s__law_ends) (defBody s__law_ends) (defScope s__law_ends) .none kV34 dc34 pm34 an34 cd34 ct34), sl34⟩) (c34 : PySem.W.codeIn K cd34 "_law_ends" = true) (k34 : PySem.W.keepIn K (.ref f34) = true)
    (a35 : PySem.W.nsIn K mainGlobals "_law_joining" = some (some (.ref f35))) (l35 : K.lookup f35 = some ⟨oc35, od35, .func (PySem.W.fnOf "_law_joining" "_law_joining" (defArgs s__law_joining) (defBody s__law_joining) (defScope s__law_joining) .none kV35 dc35 pm35 an35 cd35 ct35), sl35⟩) (c35 : PySem.W.codeIn K cd35 "_law_joining" = true) (k35 : PySem.W.keepIn K (.ref f35) = true)
    (a36 : PySem.W.nsIn K mainGlobals "_law_beneath" = some (some (.ref f36))) (l36 : K.lookup f36 = some ⟨oc36, od36, .func (PySem.W.fnOf "_law_beneath" "_law_beneath" (defArgs s__law_beneath) (defBody s__law_beneath) (defScope s__law_beneath) .none kV36 dc36 pm36 an36 cd36 ct36), sl36⟩) (c36 : PySem.W.codeIn K cd36 "_law_beneath" = true) (k36 : PySem.W.keepIn K (.ref f36) = true)
    (a37 : PySem.W.nsIn K mainGlobals "_law_wants" = some (some (.ref f37))) (l37 : K.lookup f37 = some ⟨oc37, od37, .func (PySem.W.fnOf "_law_wants" "_law_wants" (defArgs s__law_wants) (defBody s__law_wants) (defScope s__law_wants) .none kV37 dc37 pm37 an37 cd37 ct37), sl37⟩) (c37 : PySem.W.codeIn K cd37 "_law_wants" = true) (k37 : PySem.W.keepIn K (.ref f37) = true)
    (a38 : PySem.W.nsIn K mainGlobals "_law_height" = some (some (.ref f38))) (l38 : K.lookup f38 = some ⟨oc38, od38, .func (PySem.W.fnOf "_law_height" "_law_height" (defArgs s__law_height) (defBody s__law_height) (defScope s__law_height) .none kV38 dc38 pm38 an38 cd38 ct38), sl38⟩) (c38 : PySem.W.codeIn K cd38 "_law_height" = true) (k38 : PySem.W.keepIn K (.ref f38) = true)
    (a39 : PySem.W.nsIn K mainGlobals "_law_off" = some (some (.ref f39))) (l39 : K.lookup f39 = some ⟨oc39, od39, .func (PySem.W.fnOf "_law_off" "_law_off" (defArgs s__law_off) (defBody s__law_off) (defScope s__law_off) .none kV39 dc39 pm39 an39 cd39 ct39), sl39⟩) (c39 : PySem.W.codeIn K cd39 "_law_off" = true) (k39 : PySem.W.keepIn K (.ref f39) = true)
    (a40 : PySem.W.nsIn K mainGlobals "_law_spot" = some (some (.ref f40))) (l40 : K.lookup f40 = some ⟨oc40, od40, .func (PySem.W.fnOf "_law_spot" "_law_spot" (defArgs s__law_spot) (defBody s__law_spot) (defScope s__law_spot) .none kV40 dc40 pm40 an40 cd40 ct40), sl40⟩) (c40 : PySem.W.codeIn K cd40 "_law_spot" = true) (k40 : PySem.W.keepIn K (.ref f40) = true)
    (a41 : PySem.W.nsIn K mainGlobals "_law_over" = some (some (.ref f41))) (l41 : K.lookup f41 = some ⟨oc41, od41, .func (PySem.W.fnOf "_law_over" "_law_over" (defArgs s__law_over) (defBody s__law_over) (defScope s__law_over) .none kV41 dc41 pm41 an41 cd41 ct41), sl41⟩) (c41 : PySem.W.codeIn K cd41 "_law_over" = true) (k41 : PySem.W.keepIn K (.ref f41) = true)
    (a42 : PySem.W.nsIn K mainGlobals "_law_sums" = some (some (.ref f42))) (l42 : K.lookup f42 = some ⟨oc42, od42, .func (PySem.W.fnOf "_law_sums" "_law_sums" (defArgs s__law_sums) (defBody s__law_sums) (defScope s__law_sums) .none kV42 dc42 pm42 an42 cd42 ct42), sl42⟩) (c42 : PySem.W.codeIn K cd42 "_law_sums" = true) (k42 : PySem.W.keepIn K (.ref f42) = true)
    (a43 : PySem.W.nsIn K mainGlobals "_law_whole" = some (some (.ref f43))) (l43 : K.lookup f43 = some ⟨oc43, od43, .func (PySem.W.fnOf "_law_whole" "_law_whole" (defArgs s__law_whole) (defBody s__law_whole) (defScope s__law_whole) .none kV43 dc43 pm43 an43 cd43 ct43), sl43⟩) (c43 : PySem.W.codeIn K cd43 "_law_whole" = true) (k43 : PySem.W.keepIn K (.ref f43) = true)
    (a44 : PySem.W.nsIn K mainGlobals "_law_pair" = some (some (.ref f44))) (l44 : K.lookup f44 = some ⟨oc44, od44, .func (PySem.W.fnOf "_law_pair" "_law_pair" (defArgs s__law_pair) (defBody s__law_pair) (defScope s__law_pair) .none kV44 dc44 pm44 an44 cd44 ct44), sl44⟩) (c44 : PySem.W.codeIn K cd44 "_law_pair" = true) (k44 : PySem.W.keepIn K (.ref f44) = true)
    (a45 : PySem.W.nsIn K mainGlobals "_law_is_tree" = some (some (.ref f45))) (l45 : K.lookup f45 = some ⟨oc45, od45, .func (PySem.W.fnOf "_law_is_tree" "_law_is_tree" (defArgs s__law_is_tree) (defBody s__law_is_tree) (defScope s__law_is_tree) .none kV45 dc45 pm45 an45 cd45 ct45), sl45⟩) (c45 : PySem.W.codeIn K cd45 "_law_is_tree" = true) (k45 : PySem.W.keepIn K (.ref f45) = true)
    (a46 : PySem.W.nsIn K mainGlobals "_law_box" = some (some (.ref f46))) (l46 : K.lookup f46 = some ⟨oc46, od46, .func (PySem.W.fnOf "_law_box" "_law_box" (defArgs s__law_box) (defBody s__law_box) (defScope s__law_box) .none kV46 dc46 pm46 an46 cd46 ct46), sl46⟩) (c46 : PySem.W.codeIn K cd46 "_law_box" = true) (k46 : PySem.W.keepIn K (.ref f46) = true)
    (a47 : PySem.W.nsIn K mainGlobals "_law_numbered" = some (some (.ref f47))) (l47 : K.lookup f47 = some ⟨oc47, od47, .func (PySem.W.fnOf "_law_numbered" "_law_numbered" (defArgs s__law_numbered) (defBody s__law_numbered) (defScope s__law_numbered) .none kV47 dc47 pm47 an47 cd47 ct47), sl47⟩) (c47 : PySem.W.codeIn K cd47 "_law_numbered" = true) (k47 : PySem.W.keepIn K (.ref f47) = true)
    (a48 : PySem.W.nsIn K mainGlobals "_law_doubled" = some (some (.ref f48))) (l48 : K.lookup f48 = some ⟨oc48, od48, .func (PySem.W.fnOf "_law_doubled" "_law_doubled" (defArgs s__law_doubled) (defBody s__law_doubled) (defScope s__law_doubled) .none kV48 dc48 pm48 an48 cd48 ct48), sl48⟩) (c48 : PySem.W.codeIn K cd48 "_law_doubled" = true) (k48 : PySem.W.keepIn K (.ref f48) = true)
    (a49 : PySem.W.nsIn K mainGlobals "_law_side" = some (some (.ref f49))) (l49 : K.lookup f49 = some ⟨oc49, od49, .func (PySem.W.fnOf "_law_side" "_law_side" (defArgs s__law_side) (defBody s__law_side) (defScope s__law_side) .none kV49 dc49 pm49 an49 cd49 ct49), sl49⟩) (c49 : PySem.W.codeIn K cd49 "_law_side" = true) (k49 : PySem.W.keepIn K (.ref f49) = true)
    (a50 : PySem.W.nsIn K mainGlobals "_law_told" = some (some (.ref f50))) (l50 : K.lookup f50 = some ⟨oc50, od50, .func (PySem.W.fnOf "_law_told" "_law_told" (defArgs s__law_told) (defBody s__law_told) (defScope s__law_told) .none kV50 dc50 pm50 an50 cd50 ct50), sl50⟩) (c50 : PySem.W.codeIn K cd50 "_law_told" = true) (k50 : PySem.W.keepIn K (.ref f50) = true)
    (a51 : PySem.W.nsIn K mainGlobals "_law_sides_right" = some (some (.ref f51))) (l51 : K.lookup f51 = some ⟨oc51, od51, .func (PySem.W.fnOf "_law_sides_right" "_law_sides_right" (defArgs s__law_sides_right) (defBody s__law_sides_right) (defScope s__law_sides_right) .none kV51 dc51 pm51 an51 cd51 ct51), sl51⟩) (c51 : PySem.W.codeIn K cd51 "_law_sides_right" = true) (k51 : PySem.W.keepIn K (.ref f51) = true)
    (a52 : PySem.W.nsIn K mainGlobals "_law_roots_right" = some (some (.ref f52))) (l52 : K.lookup f52 = some ⟨oc52, od52, .func (PySem.W.fnOf "_law_roots_right" "_law_roots_right" (defArgs s__law_roots_right) (defBody s__law_roots_right) (defScope s__law_roots_right) .none kV52 dc52 pm52 an52 cd52 ct52), sl52⟩) (c52 : PySem.W.codeIn K cd52 "_law_roots_right" = true) (k52 : PySem.W.keepIn K (.ref f52) = true)
    (a53 : PySem.W.nsIn K mainGlobals "law" = some (some (.ref f53))) (l53 : K.lookup f53 = some ⟨oc53, od53, .func (PySem.W.fnOf "law" "law" (defArgs s_law) (defBody s_law) (defScope s_law) .none kV53 dc53 pm53 an53 cd53 ct53), sl53⟩) (c53 : PySem.W.codeIn K cd53 "law" = true) (k53 : PySem.W.keepIn K (.ref f53) = true)
    {tk_GRAIN : Tok} (y_GRAIN : PySem.W.nsIn K mainGlobals "GRAIN" = some (some (.int 2 tk_GRAIN)))
    (z_list : PySem.W.nsIn K mainGlobals "list" = some none)
    (z_enumerate : PySem.W.nsIn K mainGlobals "enumerate" = some none)
    (z_tuple : PySem.W.nsIn K mainGlobals "tuple" = some none)
    (z_range : PySem.W.nsIn K mainGlobals "range" = some none)
    (z_len : PySem.W.nsIn K mainGlobals "len" = some none)
    (z_max : PySem.W.nsIn K mainGlobals "max" = some none)
    (z_min : PySem.W.nsIn K mainGlobals "min" = some none)
    (z_abs : PySem.W.nsIn K mainGlobals "abs" = some none)
    (z_sum : PySem.W.nsIn K mainGlobals "sum" = some none)
    (z_reversed : PySem.W.nsIn K mainGlobals "reversed" = some none)
    (z_bool : PySem.W.nsIn K mainGlobals "bool" = some none)
    (z_isinstance : PySem.W.nsIn K mainGlobals "isinstance" = some none)
    (z_int : PySem.W.nsIn K mainGlobals "int" = some none)
    (z_all : PySem.W.nsIn K mainGlobals "all" = some none)
    (z_sorted : PySem.W.nsIn K mainGlobals "sorted" = some none)
    (z_zip : PySem.W.nsIn K mainGlobals "zip" = some none)
    : ∃ (fd : FuncData) (cs : List (Addr × Addr)), (∀ p ∈ cs, ∃ x ∈ [("are_wholes" : Str), ("is_paper" : Str)], PySem.W.tabIn K x = some p) ∧ (∀ p ∈ cs, K.lookup p.2 = none) ∧ (∀ (s : Shared) (v : Value), BindsTo s fd ⟨[v], []⟩ [("_law_script", v)]) ∧ ∀ base : Heap, K.In base → base.Ns mainGlobals mg → (∀ p ∈ cs, GxR.TabB base mg p.1 p.2) → FnOk l.prog w K mg base CX0 9 fa fd ["_law_script"] (Pu.sp_lawT K (cs.map (·.2))) := by
  letI : Tbs := ⟨[p24, p28], w, l.prog, fun n => match n with  | _ => .none, [], (fun _ h => nomatch h), (fun _ h => nomatch h)⟩
  have e := hfa.symm.trans (PySem.W.mg_of X G a53)
  cases e
  have F0 := fun_mk (st := s_chain) l0 c0 k0
  have F1 := fun_mk (st := s_beneath) l1 c1 k1
  have F2 := fun_mk (st := s_joints_above) l2 c2 k2
  have F3 := fun_mk (st := s_spot_of) l3 c3 k3
  have F4 := fun_mk (st := s_grown) l4 c4 k4
  have F5 := fun_mk (st := s_met) l5 c5 k5
  have F6 := fun_mk (st := s_apart) l6 c6 k6
  have F7 := fun_mk (st := s_nearest) l7 c7 k7
  have F8 := fun_mk (st := s_within) l8 c8 k8
  have F9 := fun_mk (st := s_corner) l9 c9 k9
  have F10 := fun_mk (st := s_has) l10 c10 k10
  have F11 := fun_mk (st := s_steps) l11 c11 k11
  have F12 := fun_mk (st := s_wanted) l12 c12 k12
  have F13 := fun_mk (st := s_started) l13 c13 k13
  have F14 := fun_mk (st := s_height_of) l14 c14 k14
  have F15 := fun_mk (st := s_row_of) l15 c15 k15
  have F16 := fun_mk (st := s_reached) l16 c16 k16
  have F17 := fun_mk (st := s_joined) l17 c17 k17
  have F18 := fun_mk (st := s_rows_of) l18 c18 k18
  have F19 := fun_mk (st := s_stood) l19 c19 k19
  have F20 := fun_mk (st := s_root_spot) l20 c20 k20
  have F21 := fun_mk (st := s_even_wire) l21 c21 k21
  have F22 := Pu.fun_mkN (st := s_even_tree) l22 c22 k22 t22
  have F23 := fun_mk (st := s_is_whole) l23 c23 k23
  have F24 := fun_mk (st := s_are_wholes) l24 c24 k24
  have F25 := fun_mk (st := s_pairs_for) l25 c25 k25
  have F26 := fun_mk (st := s_first_pair) l26 c26 k26
  have F27 := fun_mk (st := s_pairs_shown) l27 c27 k27
  have F28 := fun_mk (st := s_is_paper) l28 c28 k28
  have F29 := fun_mk (st := s_is_pair) l29 c29 k29
  have F30 := fun_mk (st := s__law_deck) l30 c30 k30
  have F31 := fun_mk (st := s__law_draw) l31 c31 k31
  have F32 := fun_mk (st := s__law_place) l32 c32 k32
  have F33 := fun_mk (st := s__law_start) l33 c33 k33
  have F34 := fun_mk (st := s__law_ends) l34 c34 k34
  have F35 := fun_mk (st := s__law_joining) l35 c35 k35
  have F36 := fun_mk (st := s__law_beneath) l36 c36 k36
  have F37 := fun_mk (st := s__law_wants) l37 c37 k37
  have F38 := fun_mk (st := s__law_height) l38 c38 k38
  have F39 := fun_mk (st := s__law_off) l39 c39 k39
  have F40 := fun_mk (st := s__law_spot) l40 c40 k40
  have F41 := fun_mk (st := s__law_over) l41 c41 k41
  have F42 := fun_mk (st := s__law_sums) l42 c42 k42
  have F43 := fun_mk (st := s__law_whole) l43 c43 k43
  have F44 := fun_mk (st := s__law_pair) l44 c44 k44
  have F45 := fun_mk (st := s__law_is_tree) l45 c45 k45
  have F46 := fun_mk (st := s__law_box) l46 c46 k46
  have F47 := fun_mk (st := s__law_numbered) l47 c47 k47
  have F48 := fun_mk (st := s__law_doubled) l48 c48 k48
  have F49 := fun_mk (st := s__law_side) l49 c49 k49
  have F50 := fun_mk (st := s__law_told) l50 c50 k50
  have F51 := fun_mk (st := s__law_sides_right) l51 c51 k51
  have F52 := fun_mk (st := s__law_roots_right) l52 c52 k52
  have F53 := fun_mk (st := s_law) l53 c53 k53
  have b0 := F0.binds (ps := ["many", "joining", "knot"]) fun _ _ _ _ _ _ us hl => match us, hl with | [_, _, _], _ => rfl
  have b1 := F1.binds (ps := ["many", "joining", "knot"]) fun _ _ _ _ _ _ us hl => match us, hl with | [_, _, _], _ => rfl
  have b2 := F2.binds (ps := ["joining"]) fun _ _ _ _ _ _ us hl => match us, hl with | [_], _ => rfl
  have b3 := F3.binds (ps := ["grain", "x", "y"]) fun _ _ _ _ _ _ us hl => match us, hl with | [_, _, _], _ => rfl
  have b4 := F4.binds (ps := ["box", "by"]) fun _ _ _ _ _ _ us hl => match us, hl with | [_, _], _ => rfl
  have b5 := F5.binds (ps := ["box", "other"]) fun _ _ _ _ _ _ us hl => match us, hl with | [_, _], _ => rfl
  have b6 := F6.binds (ps := ["box", "other"]) fun _ _ _ _ _ _ us hl => match us, hl with | [_, _], _ => rfl
  have b7 := F7.binds (ps := ["box", "spot"]) fun _ _ _ _ _ _ us hl => match us, hl with | [_, _], _ => rfl
  have b8 := F8.binds (ps := ["least", "greatest", "number"]) fun _ _ _ _ _ _ us hl => match us, hl with | [_, _, _], _ => rfl
  have b9 := F9.binds (ps := ["box"]) fun _ _ _ _ _ _ us hl => match us, hl with | [_], _ => rfl
  have b10 := F10.binds (ps := ["box", "spot"]) fun _ _ _ _ _ _ us hl => match us, hl with | [_, _], _ => rfl
  have b11 := F11.binds (ps := ["one", "other"]) fun _ _ _ _ _ _ us hl => match us, hl with | [_, _], _ => rfl
  have b12 := F12.binds (ps := ["ends", "one", "other"]) fun _ _ _ _ _ _ us hl => match us, hl with | [_, _, _], _ => rfl
  have b13 := F13.binds (ps := ["ends"]) fun _ _ _ _ _ _ us hl => match us, hl with | [_], _ => rfl
  have b14 := F14.binds (ps := ["ends", "some"]) fun _ _ _ _ _ _ us hl => match us, hl with | [_, _], _ => rfl
  have b15 := F15.binds (ps := ["ends", "some"]) fun _ _ _ _ _ _ us hl => match us, hl with | [_, _], _ => rfl
  have b16 := F16.binds (ps := ["end", "height"]) fun _ _ _ _ _ _ us hl => match us, hl with | [_, _], _ => rfl
  have b17 := F17.binds (ps := ["one", "other"]) fun _ _ _ _ _ _ us hl => match us, hl with | [_, _], _ => rfl
  have b18 := F18.binds (ps := ["ends", "joining"]) fun _ _ _ _ _ _ us hl => match us, hl with | [_, _], _ => rfl
  have b19 := F19.binds (ps := ["joining", "boxes", "root"]) fun _ _ _ _ _ _ us hl => match us, hl with | [_, _, _], _ => rfl
  have b20 := F20.binds (ps := ["box", "root"]) fun _ _ _ _ _ _ us hl => match us, hl with | [_, _], _ => rfl
  have b21 := F21.binds (ps := ["ends", "joining"]) fun _ _ _ _ _ _ us hl => match us, hl with | [_, _], _ => rfl
  have b22 := Pu.bindsN0 F22 (ps := ["ends", "joining", "root"]) 3 rfl fun _ _ _ _ _ _ _ us its hl hi => match us, its, hl, hi with | [_, _, _], [_], _, _ => ⟨_, rfl, rfl⟩
  have e22 := Pu.bindsN1 F22 (ps := ["ends", "joining", "root"]) 2 rfl fun _ _ _ _ _ _ _ us its hl hi => match us, its, hl, hi with | [_, _], [_], _, _ => ⟨_, rfl, rfl⟩
  have b23 := F23.binds (ps := ["thing"]) fun _ _ _ _ _ _ us hl => match us, hl with | [_], _ => rfl
  have b24 := F24.binds (ps := ["thing", "many"]) fun _ _ _ _ _ _ us hl => match us, hl with | [_, _], _ => rfl
  have b25 := F25.binds (ps := ["ends", "joining"]) fun _ _ _ _ _ _ us hl => match us, hl with | [_, _], _ => rfl
  have b26 := F26.binds (ps := ["ends", "some", "height"]) fun _ _ _ _ _ _ us hl => match us, hl with | [_, _, _], _ => rfl
  have b27 := F27.binds (ps := ["ends", "joining", "thing"]) fun _ _ _ _ _ _ us hl => match us, hl with | [_, _, _], _ => rfl
  have b28 := F28.binds (ps := ["many", "joining", "thing"]) fun _ _ _ _ _ _ us hl => match us, hl with | [_, _, _], _ => rfl
  have b29 := F29.binds (ps := ["some", "thing"]) fun _ _ _ _ _ _ us hl => match us, hl with | [_, _], _ => rfl
  have b30 := F30.binds (ps := ["_law_script"]) fun _ _ _ _ _ _ us hl => match us, hl with | [_], _ => rfl
  have b31 := F31.binds (ps := ["_law_deck_here", "_law_most"]) fun _ _ _ _ _ _ us hl => match us, hl with | [_, _], _ => rfl
  have b32 := F32.binds (ps := ["_law_deck_here", "_law_way", "_law_edge"]) fun _ _ _ _ _ _ us hl => match us, hl with | [_, _, _], _ => rfl
  have b33 := F33.binds (ps := ["_law_deck_here", "_law_way"]) fun _ _ _ _ _ _ us hl => match us, hl with | [_, _], _ => rfl
  have b34 := F34.binds (ps := ["_law_deck_here", "_law_most"]) fun _ _ _ _ _ _ us hl => match us, hl with | [_, _], _ => rfl
  have b35 := F35.binds (ps := ["_law_deck_here", "_law_many"]) fun _ _ _ _ _ _ us hl => match us, hl with | [_, _], _ => rfl
  have b36 := F36.binds (ps := ["_law_many", "_law_joining_here"]) fun _ _ _ _ _ _ us hl => match us, hl with | [_, _], _ => rfl
  have b37 := F37.binds (ps := ["_law_ends_here", "_law_one", "_law_other"]) fun _ _ _ _ _ _ us hl => match us, hl with | [_, _, _], _ => rfl
  have b38 := F38.binds (ps := ["_law_ends_here", "_law_some"]) fun _ _ _ _ _ _ us hl => match us, hl with | [_, _], _ => rfl
  have b39 := F39.binds (ps := ["_law_one", "_law_other"]) fun _ _ _ _ _ _ us hl => match us, hl with | [_, _], _ => rfl
  have b40 := F40.binds (ps := ["_law_grain", "_law_end"]) fun _ _ _ _ _ _ us hl => match us, hl with | [_, _], _ => rfl
  have b41 := F41.binds (ps := ["_law_many", "_law_joining_here"]) fun _ _ _ _ _ _ us hl => match us, hl with | [_, _], _ => rfl
  have b42 := F42.binds (ps := ["_law_ends_here", "_law_joining_here", "_law_grain", "_law_lengths"]) fun _ _ _ _ _ _ us hl => match us, hl with | [_, _, _, _], _ => rfl
  have b43 := F43.binds (ps := ["_law_thing"]) fun _ _ _ _ _ _ us hl => match us, hl with | [_], _ => rfl
  have b44 := F44.binds (ps := ["_law_thing"]) fun _ _ _ _ _ _ us hl => match us, hl with | [_], _ => rfl
  have b45 := F45.binds (ps := ["_law_ends_here", "_law_joining_here", "_law_gap", "_law_thing"]) fun _ _ _ _ _ _ us hl => match us, hl with | [_, _, _, _], _ => rfl
  have b46 := F46.binds (ps := ["_law_ends_here", "_law_some", "_law_height_here"]) fun _ _ _ _ _ _ us hl => match us, hl with | [_, _, _], _ => rfl
  have b47 := F47.binds (ps := ["_law_deck_here", "_law_ends_here", "_law_joining_here"]) fun _ _ _ _ _ _ us hl => match us, hl with | [_, _, _], _ => rfl
  have b48 := F48.binds (ps := ["_law_deck_here", "_law_ends_here", "_law_joining_here"]) fun _ _ _ _ _ _ us hl => match us, hl with | [_, _, _], _ => rfl
  have b49 := F49.binds (ps := ["_law_ends_here", "_law_joining_here", "_law_knot"]) fun _ _ _ _ _ _ us hl => match us, hl with | [_, _, _], _ => rfl
  have b50 := F50.binds (ps := ["_law_ends_here", "_law_joining_here", "_law_due"]) fun _ _ _ _ _ _ us hl => match us, hl with | [_, _, _], _ => rfl
  have b51 := F51.binds (ps := ["_law_ends_here", "_law_joining_here", "_law_due"]) fun _ _ _ _ _ _ us hl => match us, hl with | [_, _, _], _ => rfl
  have b52 := F52.binds (ps := ["_law_ends_here", "_law_joining_here", "_law_due"]) fun _ _ _ _ _ _ us hl => match us, hl with | [_, _, _], _ => rfl
  have b53 := F53.binds (ps := ["_law_script"]) fun _ _ _ _ _ _ us hl => match us, hl with | [_], _ => rfl
  refine ⟨PySem.W.fnOf "law" "law" (defArgs s_law) (defBody s_law) (defScope s_law) .none kV53 dc53 pm53 an53 cd53 ct53, [(q24, p24), (q28, p28)], fun p hp => ?_, fun p hp => ?_, fun s v => .of_eq rfl, fun base hKb _ TB => ?_⟩
  · simp only [List.mem_cons, List.not_mem_nil, or_false] at hp
    rcases hp with rfl | rfl
    · exact ⟨"are_wholes", by simp, Pu.tabIn_mk a24 l24 rfl u24 w24⟩
    · exact ⟨"is_paper", by simp, Pu.tabIn_mk a28 l28 rfl u28 w28⟩
  · simp only [List.mem_cons, List.not_mem_nil, or_false] at hp
    rcases hp with rfl | rfl
    · exact v24
    · exact v28
  let T : Tx K mg base := ⟨⟨_, _, F0, b0, PySem.W.mg_of X G a0, _, _, F1, b1, PySem.W.mg_of X G a1, _, _, F2, b2, PySem.W.mg_of X G a2, _, _, F3, b3, PySem.W.mg_of X G a3, _, _, F4, b4, PySem.W.mg_of X G a4⟩, ⟨_, _, F5, b5, PySem.W.mg_of X G a5, _, _, F6, b6, PySem.W.mg_of X G a6, _, _, F7, b7, PySem.W.mg_of X G a7, _, _, F8, b8, PySem.W.mg_of X G a8, _, _, F9, b9, PySem.W.mg_of X G a9⟩, ⟨_, _, F10, b10, PySem.W.mg_of X G a10, _, _, F11, b11, PySem.W.mg_of X G a11, _, _, F12, b12, PySem.W.mg_of X G a12, _, _, F13, b13, PySem.W.mg_of X G a13, _, _, F14, b14, PySem.W.mg_of X G a14⟩, ⟨_, _, F15, b15, PySem.W.mg_of X G a15, _, _, F16, b16, PySem.W.mg_of X G a16, _, _, F17, b17, PySem.W.mg_of X G a17, _, _, F18, b18, PySem.W.mg_of X G a18, _, _, F19, b19, PySem.W.mg_of X G a19⟩, ⟨_, _, F20, b20, PySem.W.mg_of X G a20, _, _, F21, b21, PySem.W.mg_of X G a21, _, _, F22, e22, b22, PySem.W.mg_of X G a22, _, _, F23, b23, PySem.W.mg_of X G a23, _, _, F24, b24, PySem.W.mg_of X G a24, q24, p24, rfl, TB (q24, p24) (by simp), show p24 ∈ [p24, p28] by simp⟩, ⟨_, _, F25, b25, PySem.W.mg_of X G a25, _, _, F26, b26, PySem.W.mg_of X G a26, _, _, F27, b27, PySem.W.mg_of X G a27, _, _, F28, b28, PySem.W.mg_of X G a28, q28, p28, rfl, TB (q28, p28) (by simp), show p28 ∈ [p24, p28] by simp, _, _, F29, b29, PySem.W.mg_of X G a29⟩, ⟨_, _, F30, b30, PySem.W.mg_of X G a30, _, _, F31, b31, PySem.W.mg_of X G a31, _, _, F32, b32, PySem.W.mg_of X G a32, _, _, F33, b33, PySem.W.mg_of X G a33, _, _, F34, b34, PySem.W.mg_of X G a34⟩, ⟨_, _, F35, b35, PySem.W.mg_of X G a35, _, _, F36, b36, PySem.W.mg_of X G a36, _, _, F37, b37, PySem.W.mg_of X G a37, _, _, F38, b38, PySem.W.mg_of X G a38, _, _, F39, b39, PySem.W.mg_of X G a39⟩, ⟨_, _, F40, b40, PySem.W.mg_of X G a40, _, _, F41, b41, PySem.W.mg_of X G a41, _, _, F42, b42, PySem.W.mg_of X G a42, _, _, F43, b43, PySem.W.mg_of X G a43, _, _, F44, b44, PySem.W.mg_of X G a44⟩, ⟨_, _, F45, b45, PySem.W.mg_of X G a45, _, _, F46, b46, PySem.W.mg_of X G a46, _, _, F47, b47, PySem.W.mg_of X G a47, _, _, F48, b48, PySem.W.mg_of X G a48, _, _, F49, b49, PySem.W.mg_of X G a49⟩, ⟨_, _, F50, b50, PySem.W.mg_of X G a50, _, _, F51, b51, PySem.W.mg_of X G a51, _, _, F52, b52, PySem.W.mg_of X G a52, _, _, F53, b53, PySem.W.mg_of X G a53⟩, _, PySem.W.mg_of X G y_GRAIN, PySem.W.mg_none_of X G z_list, PySem.W.mg_none_of X G z_enumerate, PySem.W.mg_none_of X G z_tuple, PySem.W.mg_none_of X G z_range, PySem.W.mg_none_of X G z_len, PySem.W.mg_none_of X G z_max, PySem.W.mg_none_of X G z_min, PySem.W.mg_none_of X G z_abs, PySem.W.mg_none_of X G z_sum, PySem.W.mg_none_of X G z_reversed, PySem.W.mg_none_of X G z_bool, PySem.W.mg_none_of X G z_isinstance, PySem.W.mg_none_of X G z_int, PySem.W.mg_none_of X G z_all, PySem.W.mg_none_of X G z_sorted, PySem.W.mg_none_of X G z_zip⟩
  exact ok_law T
end Ew
open PySem PySem.W PyProof.Rows
set_option maxRecDepth 100000 in
set_option maxHeartbeats 0 in
theorem PySem.Challenge.cw_evenwires_k85_whole_even_wires_otherwise_holds : PySem.Challenge.rw_evenwires_k85_whole_even_wires_otherwise.Holds := by
  w_on; o_law; k_head; (case hw => w_witness2)
  k_fill
  refine Pu.walkT (l := PySem.Challenge.rw_evenwires_k85_whole_even_wires_otherwise) (k := 9) rfl rfl ⟨rfl, by decide, by decide⟩ (fun w h Y => PySem.W.kIn_of Y) ["are_wholes", "is_paper"] (by first | rfl | decide +kernel) ?F
  case F =>
    intro w mg fa h KX G hmg
    refine' Ew.all_mk KX G hmg ?a0 ?l0 ?c0 ?k0 ?a1 ?l1 ?c1 ?k1 ?a2 ?l2 ?c2 ?k2 ?a3 ?l3 ?c3 ?k3 ?a4 ?l4 ?c4 ?k4 ?a5 ?l5 ?c5 ?k5 ?a6 ?l6 ?c6 ?k6 ?a7 ?l7 ?c7 ?k7 ?a8 ?l8 ?c8 ?k8 ?a9 ?l9 ?c9 ?k9 ?a10 ?l10 ?c10 ?k10 ?a11 ?l11 ?c11 ?k11 ?a12 ?l12 ?c12 ?k12 ?a13 ?l13 ?c13 ?k13 ?a14 ?l14 ?c14 ?k14 ?a15 ?l15 ?c15 ?k15 ?a16 ?l16 ?c16 ?k16 ?a17 ?l17 ?c17 ?k17 ?a18 ?l18 ?c18 ?k18 ?a19 ?l19 ?c19 ?k19 ?a20 ?l20 ?c20 ?k20 ?a21 ?l21 ?c21 ?k21 ?a22 ?l22 ?c22 ?k22 ?t22 ?a23 ?l23 ?c23 ?k23 ?a24 ?l24 ?c24 ?k24 ?u24 ?w24 ?v24 ?a25 ?l25 ?c25 ?k25 ?a26 ?l26 ?c26 ?k26 ?a27 ?l27 ?c27 ?k27 ?a28 ?l28 ?c28 ?k28 ?u28 ?w28 ?v28 ?a29 ?l29 ?c29 ?k29 ?a30 ?l30 ?c30 ?k30 ?a31 ?l31 ?c31 ?k31 ?a32 ?l32 ?c32 ?k32 ?a33 ?l33 ?c33 ?k33 ?a34 ?l34 ?c34 ?k34 ?a35 ?l35 ?c35 ?k35 ?a36 ?l36 ?c36 ?k36 ?a37 ?l37 ?c37 ?k37 ?a38 ?l38 ?c38 ?k38 ?a39 ?l39 ?c39 ?k39 ?a40 ?l40 ?c40 ?k40 ?a41 ?l41 ?c41 ?k41 ?a42 ?l42 ?c42 ?k42 ?a43 ?l43 ?c43 ?k43 ?a44 ?l44 ?c44 ?k44 ?a45 ?l45 ?c45 ?k45 ?a46 ?l46 ?c46 ?k46 ?a47 ?l47 ?c47 ?k47 ?a48 ?l48 ?c48 ?k48 ?a49 ?l49 ?c49 ?k49 ?a50 ?l50 ?c50 ?k50 ?a51 ?l51 ?c51 ?k51 ?a52 ?l52 ?c52 ?k52 ?a53 ?l53 ?c53 ?k53 ?y_GRAIN ?z_list ?z_enumerate ?z_tuple ?z_range ?z_len ?z_max ?z_min ?z_abs ?z_sum ?z_reversed ?z_bool ?z_isinstance ?z_int ?z_all ?z_sorted ?z_zip
    (case a0 => k_is)
    (case l0 => k_is)
    (case c0 => k_is)
    (case k0 => k_is)
    (case a1 => k_is)
    (case l1 => k_is)
    (case c1 => k_is)
    (case k1 => k_is)
    (case a2 => k_is)
    (case l2 => k_is)
    (case c2 => k_is)
    (case k2 => k_is)
    (case a3 => k_is)
    (case l3 => k_is)
    (case c3 => k_is)
    (case k3 => k_is)
    (case a4 => k_is)
    (case l4 => k_is)
    (case c4 => k_is)
    (case k4 => k_is)
    (case a5 => k_is)
    (case l5 => k_is)
    (case c5 => k_is)
    (case k5 => k_is)
    (case a6 => k_is)
    (case l6 => k_is)
    (case c6 => k_is)
    (case k6 => k_is)
    (case a7 => k_is)
    (case l7 => k_is)
    (case c7 => k_is)
    (case k7 => k_is)
    (case a8 => k_is)
    (case l8 => k_is)
    (case c8 => k_is)
    (case k8 => k_is)
    (case a9 => k_is)
    (case l9 => k_is)
    (case c9 => k_is)
    (case k9 => k_is)
    (case a10 => k_is)
    (case l10 => k_is)
    (case c10 => k_is)
    (case k10 => k_is)
    (case a11 => k_is)
    (case l11 => k_is)
    (case c11 => k_is)
    (case k11 => k_is)
    (case a12 => k_is)
    (case l12 => k_is)
    (case c12 => k_is)
    (case k12 => k_is)
    (case a13 => k_is)
    (case l13 => k_is)
    (case c13 => k_is)
    (case k13 => k_is)
    (case a14 => k_is)
    (case l14 => k_is)
    (case c14 => k_is)
    (case k14 => k_is)
    (case a15 => k_is)
    (case l15 => k_is)
    (case c15 => k_is)
    (case k15 => k_is)
    (case a16 => k_is)
    (case l16 => k_is)
    (case c16 => k_is)
    (case k16 => k_is)
    (case a17 => k_is)
    (case l17 => k_is)
    (case c17 => k_is)
    (case k17 => k_is)
    (case a18 => k_is)
    (case l18 => k_is)
    (case c18 => k_is)
    (case k18 => k_is)
    (case a19 => k_is)
    (case l19 => k_is)
    (case c19 => k_is)
    (case k19 => k_is)
    (case a20 => k_is)
    (case l20 => k_is)
    (case c20 => k_is)
    (case k20 => k_is)
    (case a21 => k_is)
    (case l21 => k_is)
    (case c21 => k_is)
    (case k21 => k_is)
    (case a22 => k_is)
    (case l22 => k_is)
    (case c22 => k_is)
    (case k22 => k_is)
    (case t22 => k_is)
    (case a23 => k_is)
    (case l23 => k_is)
    (case c23 => k_is)
    (case k23 => k_is)
    (case a24 => k_is)
    (case l24 => k_is)
    (case c24 => k_is)
    (case k24 => k_is)
    (case u24 => k_is)
    (case w24 => exact rfl)
    (case v24 => exact rfl)
    (case a25 => k_is)
    (case l25 => k_is)
    (case c25 => k_is)
    (case k25 => k_is)
    (case a26 => k_is)
    (case l26 => k_is)
    (case c26 => k_is)
    (case k26 => k_is)
    (case a27 => k_is)
    (case l27 => k_is)
    (case c27 => k_is)
    (case k27 => k_is)
    (case a28 => k_is)
    (case l28 => k_is)
    (case c28 => k_is)
    (case k28 => k_is)
    (case u28 => k_is)
    (case w28 => exact rfl)
    (case v28 => exact rfl)
    (case a29 => k_is)
    (case l29 => k_is)
    (case c29 => k_is)
    (case k29 => k_is)
    (case a30 => k_is)
    (case l30 => k_is)
    (case c30 => k_is)
    (case k30 => k_is)
    (case a31 => k_is)
    (case l31 => k_is)
    (case c31 => k_is)
    (case k31 => k_is)
    (case a32 => k_is)
    (case l32 => k_is)
    (case c32 => k_is)
    (case k32 => k_is)
    (case a33 => k_is)
    (case l33 => k_is)
    (case c33 => k_is)
    (case k33 => k_is)
    (case a34 => k_is)
    (case l34 => k_is)
    (case c34 => k_is)
    (case k34 => k_is)
    (case a35 => k_is)
    (case l35 => k_is)
    (case c35 => k_is)
    (case k35 => k_is)
    (case a36 => k_is)
    (case l36 => k_is)
    (case c36 => k_is)
    (case k36 => k_is)
    (case a37 => k_is)
    (case l37 => k_is)
    (case c37 => k_is)
    (case k37 => k_is)
    (case a38 => k_is)
    (case l38 => k_is)
    (case c38 => k_is)
    (case k38 => k_is)
    (case a39 => k_is)
    (case l39 => k_is)
    (case c39 => k_is)
    (case k39 => k_is)
    (case a40 => k_is)
    (case l40 => k_is)
    (case c40 => k_is)
    (case k40 => k_is)
    (case a41 => k_is)
    (case l41 => k_is)
    (case c41 => k_is)
    (case k41 => k_is)
    (case a42 => k_is)
    (case l42 => k_is)
    (case c42 => k_is)
    (case k42 => k_is)
    (case a43 => k_is)
    (case l43 => k_is)
    (case c43 => k_is)
    (case k43 => k_is)
    (case a44 => k_is)
    (case l44 => k_is)
    (case c44 => k_is)
    (case k44 => k_is)
    (case a45 => k_is)
    (case l45 => k_is)
    (case c45 => k_is)
    (case k45 => k_is)
    (case a46 => k_is)
    (case l46 => k_is)
    (case c46 => k_is)
    (case k46 => k_is)
    (case a47 => k_is)
    (case l47 => k_is)
    (case c47 => k_is)
    (case k47 => k_is)
    (case a48 => k_is)
    (case l48 => k_is)
    (case c48 => k_is)
    (case k48 => k_is)
    (case a49 => k_is)
    (case l49 => k_is)
    (case c49 => k_is)
    (case k49 => k_is)
    (case a50 => k_is)
    (case l50 => k_is)
    (case c50 => k_is)
    (case k50 => k_is)
    (case a51 => k_is)
    (case l51 => k_is)
    (case c51 => k_is)
    (case k51 => k_is)
    (case a52 => k_is)
    (case l52 => k_is)
    (case c52 => k_is)
    (case k52 => k_is)
    (case a53 => k_is)
    (case l53 => k_is)
    (case c53 => k_is)
    (case k53 => k_is)
    (case y_GRAIN => k_is)
    (case z_list => k_is)
    (case z_enumerate => k_is)
    (case z_tuple => k_is)
    (case z_range => k_is)
    (case z_len => k_is)
    (case z_max => k_is)
    (case z_min => k_is)
    (case z_abs => k_is)
    (case z_sum => k_is)
    (case z_reversed => k_is)
    (case z_bool => k_is)
    (case z_isinstance => k_is)
    (case z_int => k_is)
    (case z_all => k_is)
    (case z_sorted => k_is)
    (case z_zip => k_is)

import PyProof.Rows.All
import Wide.All
import OpenK.AllK
import Wide.FinOn
import HandS.ForMost
import HandS.IsInst
import HandS.Style
import HandS.Wide
import HandS.NoneIn
import HandS.Codes
import HandS.TupAny
import HandS.TupLe
import HandS.Conv
import HandS.Deep
import HandS.AnyAll
import HandS.Strs
import HandS.Iter
import HandS.SortKw
import KE.GoesEnumKw
import KE.GoesNew
import KE.GoesMore
import HandS.RevRange
import HandS.SortInts
import HandS.Zip
import KE.GoesEnum
import HandS.More
import KE.DataMinMax
import KE.KTupSum
import HandS.TupMul
import HandS.SetFor
import HandS.Defaults
import HandS.GenList
import HandS.EndTab
import KE.KSortTupG
import HandS.Exc
import HandS.ExcOwn
import HandS.ExcIs
import HandS.WordsExc
import HandS.TryOnly
import KE.SortKeyHeap
import HandS.WordsDict
import KE.KEqDict
import HandS.ExcInit
import HandS.ExcField
import HandS.FStr
import KE.KExcSuper
import HandS.CallSlots
import PyProof.ReprRoads
import PyProof.ReprLen
import HandS.Text
import HandS.StrMore
import PySem.Challenge.RW_evenwires_k73_rows_and_loads_kept
set_option Elab.async false
set_option linter.all false
set_option maxRecDepth 100000
namespace TopF
open PySem PySem.W PyProof.Rows
set_option maxHeartbeats 0
open_top topK for PySem.Challenge.rw_evenwires_k73_rows_and_loads_kept
end TopF
set_option maxHeartbeats 200000
namespace Ew
open PySem PySem.Spec PyProof.Rows L2
/-- what may have happened between two heaps: only what stands in S is changed; tuples and locked things stay -/
structure Evo (S : List Addr) (H H' : Hp) : Prop where
  old : ∀ a o, H a = some o → a ∉ S → H' a = some o
  tup : ∀ a xs, H a = some (.tup xs) → H' a = some (.tup xs)
  frz : ∀ a o u, H a = some (.frz o u) → H' a = some (.frz o u)
section
variable {K : PySem.W.Frag} {S S' : List Addr} {H H1 H2 H' : Hp} {a p q : Addr} {o x y : HO} {xs ys : List V}
theorem get_new (hp : H p = none) (h : H a = some x) : upd H p o a = some x := by rw [upd_ne (ne_of_none h hp)]; exact h
theorem get_ne (hn : a ≠ p) (h : H a = some x) : upd H p o a = some x := by rw [upd_ne hn]; exact h
theorem Evo.refl (S : List Addr) (H : Hp) : Evo S H H := ⟨fun _ _ h _ => h, fun _ _ h => h, fun _ _ _ h => h⟩
theorem Evo.trans (e : Evo S H H1) (f : Evo S H1 H2) : Evo S H H2 := ⟨fun a o h n => f.old a o (e.old a o h n) n, fun a xs h => f.tup a xs (e.tup a xs h), fun a o u h => f.frz a o u (e.frz a o u h)⟩
/-- a new thing -/
theorem Evo.new (e : Evo S H H1) (hp : H1 p = none) : Evo S H (upd H1 p o) :=
  ⟨fun a u h n => get_new hp (e.old a u h n), fun a ys h => get_new hp (e.tup a ys h), fun a u v h => get_new hp (e.frz a u v h)⟩
/-- a thing that was not there at the beginning is changed -/
theorem Evo.mut (e : Evo S H H1) (hp : H p = none) : Evo S H (upd H1 p o) :=
  ⟨fun a u h n => get_ne (ne_of_none h hp) (e.old a u h n), fun a ys h => get_ne (ne_of_none h hp) (e.tup a ys h), fun a u v h => get_ne (ne_of_none h hp) (e.frz a u v h)⟩
/-- a thing of S is changed -/
theorem Evo.set (e : Evo S H H1) (hp : p ∈ S) (hm : ∀ ys, H p ≠ some (.tup ys)) (hf : ∀ u v, H p ≠ some (.frz u v)) : Evo S H (upd H1 p o) :=
  ⟨fun a u h n => get_ne (fun z => n (z ▸ hp)) (e.old a u h n), fun a ys h => get_ne (fun z => hm ys (z ▸ h)) (e.tup a ys h), fun a u v h => get_ne (fun z => hf u v (z ▸ h)) (e.frz a u v h)⟩
/-- a callee's changes -/
theorem Evo.call (e : Evo S H H1) (f : Evo S' H1 H2) (h : ∀ s ∈ S', s ∈ S ∨ H s = none) : Evo S H H2 :=
  ⟨fun a o ha n => f.old a o (e.old a o ha n) fun m => (h a m).elim n (fun z => nomatch (ha.symm.trans z)), fun a xs h => f.tup a xs (e.tup a xs h), fun a o u h => f.frz a o u (e.frz a o u h)⟩
theorem Evo.get (e : Evo S H H') (hn : a ∉ S) (h : H a = some x) : H' a = some x := e.old a x h hn
theorem Evo.fresh (e : Evo [] H H') (h : H' p = none) : H p = none := by
  cases q : H p with
  | none => rfl
  | some o =>
    rw [e.old p o q (by intro z; cases z)] at h
    cases h
end
theorem sz {n : Nat} (h : n ≤ 100000) : n ≤ sizeLine := Nat.le_trans h (by decide)
section
variable {H : Hp} {a : Addr} {kvs kvs' : List (Key × V)} {s : Str} {v : V}
theorem dget (h : H a = some (.dK kvs)) (e : valV kvs (.inr s) = some v) : DGet H a (.str s) (some v) := e ▸ DGet.k (k := Sum.inr s) h
theorem dput (h : H a = some (.dK kvs)) (hl : kvs.length ≤ 1000) (e : putK kvs (.inr s) v = kvs') : DPut H a (.str s) v (upd H a (.dK kvs')) := e ▸ DPut.k (k := Sum.inr s) h (small1000 hl)
end
/-- a test by its answer -/
theorem iteD {c : Prop} [Decidable c] {A B : Prop} (h1 : c → A) (h2 : ¬ c → B) : if decide c = true then A else B := by
  by_cases h : c
  · rw [if_pos (decide_eq_true h)]; exact h1 h
  · rw [if_neg (by rw [decide_eq_false h]; exact Bool.false_ne_true)]; exact h2 h
theorem iteN {c : Prop} [Decidable c] {A B : Prop} (h1 : ¬ c → A) (h2 : c → B) : if (!decide c) = true then A else B := by
  by_cases h : c
  · rw [if_neg (by rw [decide_eq_true h]; exact Bool.false_ne_true)]; exact h2 h
  · rw [if_pos (by rw [decide_eq_false h]; rfl)]; exact h1 h
end Ew
namespace Ew
open PySem PySem.Spec PyProof.Rows L2
/-! readings by lemmas: what is asked, in the form that it has when it is asked -/
section
variable {K : PySem.W.Frag} {H : Hp} {a b p : Addr} {xs ys : List V} {i : Int} {v x y : V} {R : V → Prop} {kvs kvs' : List (Key × V)} {s : Str}
theorem dgetE (h : H a = some (.dK kvs)) (e : valV kvs (.inr s) = some v) (k : R v) : ∃ a' v', V.ref a = .ref a' ∧ DGet H a' (.str s) (some v') ∧ R v' := ⟨a, v, rfl, dget h e, k⟩
theorem dputE {R : Hp → Prop} (h : H a = some (.dK kvs)) (e : putK kvs (.inr s) v = kvs') (k : R (upd H a (.dK kvs'))) (hl : kvs.length ≤ 1000) : ∃ a' H4, V.ref a = .ref a' ∧ DPut H a' (.str s) v H4 ∧ R H4 := ⟨a, _, rfl, dput h hl e, k⟩
end
end Ew
namespace Ew
open PySem PySem.Spec PyProof.Rows L2
theorem tup_mut {H : Hp} {a p : Addr} {o : HO} {xs ys : List V} (hm : H p = some (.lst ys)) (h : H a = some (.tup xs)) : upd H p o a = some (.tup xs) := get_ne (ne_of h hm (by intro z; cases z)) h
/-- a written power -/
theorem op_powC {X : Cx} (b e r : Int) (hc : CPow b e := by exact ⟨by decide, by decide, by decide⟩) (hr : b ^ e.toNat = r := by rfl) : OpR X (binaryOp .Pow) (fun x y H Q => x = .int b ∧ y = .int e ∧ Q (.int r) H) :=
  fun pins s σ H x y v u Q I rx ry h => op_pow pins s σ H x y v u Q I rx ry ⟨b, e, h.1, h.2.1, hc, by show Q (.int (b ^ e.toNat)) H; rw [hr]; exact h.2.2⟩
end Ew
namespace Ew
open PySem PySem.Spec PyProof.Rows L2
/-! data that are rows of whole numbers -/
def intsOf : List V → Option (List Int)
  | [] => some []
  | .int i :: r => match intsOf r with
    | some z => some (i :: z)
    | none => none
  | _ => none
theorem intsOf_map : ∀ {vs : List V} {xs : List Int}, intsOf vs = some xs → vs = xs.map V.int
  | [], _, h => by cases h; rfl
  | .int i :: r, xs, h => by
    unfold intsOf at h
    cases e : intsOf r with
    | none => rw [e] at h; cases h
    | some z =>
      rw [e] at h
      cases h
      rw [intsOf_map e]
      rfl
  | .non :: _, _, h => by cases h
  | .bl _ :: _, _, h => by cases h
  | .str _ :: _, _, h => by cases h
  | .byt _ :: _, _, h => by cases h
  | .flt _ :: _, _, h => by cases h
  | .ref _ :: _, _, h => by cases h
  | .ty _ :: _, _, h => by cases h
theorem intsOf_of : ∀ xs : List Int, intsOf (xs.map V.int) = some xs
  | [] => rfl
  | x :: r => by
    show (match intsOf (r.map V.int) with | some z => some (x :: z) | none => none) = _
    rw [intsOf_of r]
theorem dpInts {K : PySem.W.Frag} {H : Hp} : ∀ xs : List Int, DpAll K H (xs.map V.int) (xs.map PyData.int)
  | [] => .nil
  | x :: r => .cons (.int x) (dpInts r)
theorem canInts : ∀ xs : List Int, PyData.canLayAll0 (xs.map PyData.int) = true
  | [] => by simp [PyData.canLayAll0]
  | x :: r => by
    show PyData.canLayAll0 (PyData.int x :: r.map PyData.int) = true
    simp [PyData.canLayAll0, PyData.canLay0, canInts r]
theorem depInts : ∀ xs : List Int, PyData.depthAll (xs.map PyData.int) ≤ 1
  | [] => by simp [PyData.depthAll]
  | x :: r => by
    show PyData.depthAll (PyData.int x :: r.map PyData.int) ≤ 1
    have h := depInts r
    simp [PyData.depthAll, PyData.depth]
    omega
theorem shIntsL (xs : List Int) : SeqAt.shaped (.list (xs.map PyData.int)) = true := by
  have h := depInts xs
  simp [SeqAt.shaped, PyData.canLay0, canInts xs, PyData.depth]
  omega
theorem eqvAllInts : ∀ xs ys : List Int, PyData.eqvAll (xs.map PyData.int) (ys.map PyData.int) = decide (xs = ys)
  | [], [] => by simp [PyData.eqvAll]
  | [], y :: _ => by simp [PyData.eqvAll]
  | x :: _, [] => by simp [PyData.eqvAll]
  | x :: r, y :: q => by
    show PyData.eqvAll (PyData.int x :: r.map PyData.int) (PyData.int y :: q.map PyData.int) = _
    have e : PyData.eqvAll (PyData.int x :: r.map PyData.int) (PyData.int y :: q.map PyData.int) = ((x == y) && PyData.eqvAll (r.map PyData.int) (q.map PyData.int)) := by simp [PyData.eqvAll, PyData.eqv]
    rw [e, eqvAllInts r q]
    by_cases h : x = y
    · by_cases h2 : r = q
      · simp [h, h2]
      · simp [h, h2]
    · simp [h]
theorem eqvL (xs ys : List Int) : PyData.eqv (.list (xs.map PyData.int)) (.list (ys.map PyData.int)) = decide (xs = ys) := by
  rw [← eqvAllInts]; simp [PyData.eqv]
section
variable {K : PySem.W.Frag} {H : Hp} {a b p : Addr} {vs us : List V} {xs ys : List Int} {R : V → Prop}
/-- == of data: its answer -/
def EqR (K : PySem.W.Frag) (H : Hp) (x y : V) (c : Bool) : Prop := ∃ d e, Dp K H x d ∧ Dp K H y e ∧ SeqAt.shaped d = true ∧ SeqAt.shaped e = true ∧ PyData.eqv d e = c
def rNeX (K : PySem.W.Frag) : R2 := fun x y H Q => ∃ c, EqR K H x y c ∧ Q (.bl (!c)) H
theorem op_neX {X : Cx} (hu : X.A.units + 64 < cLine) : OpR X (compareOp .NotEq) (rNeX X.K) := fun pins s σ H x y v u Q I rx ry ⟨c, ⟨d, e, h1, h2, h3, h4, h5⟩, q⟩ =>
  op_neD hu pins s σ H x y v u Q I rx ry ⟨d, e, h1, h2, h3, h4, h5 ▸ q⟩
theorem eqL (h1 : H a = some (.lst vs)) (h2 : H b = some (.lst us)) (e1 : intsOf vs = some xs) (e2 : intsOf us = some ys) : EqR K H (.ref a) (.ref b) (decide (xs = ys)) := by
  have q1 := intsOf_map e1; have q2 := intsOf_map e2; subst q1 q2
  exact ⟨_, _, .lst (SqL.of h1) (dpInts xs), .lst (SqL.of h2) (dpInts ys), shIntsL _, shIntsL _, eqvL _ _⟩
end
theorem sqL_new {K : PySem.W.Frag} {H : Hp} {a p : Addr} {o : HO} {xs : List V} (hp : H p = none) (h : SqL K H a xs) : SqL K (upd H p o) a xs := by
  rcases h with (h | ⟨o, h⟩) | h
  · exact .inl (.inl (get_new hp h))
  · exact .inl (.inr ⟨o, get_new hp h⟩)
  · exact .inr h
theorem cut63 {xs : List V} (h : xs.length ≤ 63) : cutV xs none (some 63) = xs := by
  unfold cutV
  rw [show HT.sIx xs.length xs.length (some 63) = min 63 xs.length from HT.sIx_nat xs.length xs.length 63, HT.sIx_none, List.drop_zero, Nat.sub_zero]
  exact List.take_of_length_le (by omega)
end Ew
namespace Ew
abbrev ab (x : Int) : Int := if x < 0 then -x else x
end Ew
namespace Ew
open PySem PySem.Spec PyProof.Rows L2
/-! lists of rows of whole numbers -/
inductive RowsAt (H : Hp) : List V → List (List Int) → Prop
  | nil : RowsAt H [] []
  | cons {a : Addr} {vs : List V} {r : List Int} {rs : List (List Int)} : H a = some (.tup (r.map V.int)) → RowsAt H vs rs → RowsAt H (.ref a :: vs) (r :: rs)
theorem RowsAt.mono {H H' : Hp} (f : ∀ a xs, H a = some (.tup xs) → H' a = some (.tup xs)) : ∀ {vs : List V} {rs : List (List Int)}, RowsAt H vs rs → RowsAt H' vs rs
  | _, _, .nil => .nil
  | _, _, .cons h t => .cons (f _ _ h) (RowsAt.mono f t)
theorem RowsAt.evo {S : List Addr} {H H' : Hp} {vs : List V} {rs : List (List Int)} (e : Evo S H H') (h : RowsAt H vs rs) : RowsAt H' vs rs := h.mono e.tup
theorem RowsAt.new {H : Hp} {p : Addr} {o : HO} {vs : List V} {rs : List (List Int)} (h : RowsAt H vs rs) (hp : H p = none) : RowsAt (upd H p o) vs rs := h.mono fun _ _ q => get_new hp q
theorem RowsAt.mut {H : Hp} {p : Addr} {o : HO} {ys vs : List V} {rs : List (List Int)} (h : RowsAt H vs rs) (hp : H p = some (.lst ys)) : RowsAt (upd H p o) vs rs := h.mono fun _ _ q => tup_mut hp q
theorem RowsAt.length {H : Hp} : ∀ {vs : List V} {rs : List (List Int)}, RowsAt H vs rs → vs.length = rs.length
  | _, _, .nil => rfl
  | _, _, .cons _ t => congrArg Nat.succ (RowsAt.length t)
theorem RowsAt.snoc {H : Hp} {a : Addr} {r : List Int} (h : H a = some (.tup (r.map V.int))) : ∀ {vs : List V} {rs : List (List Int)}, RowsAt H vs rs → RowsAt H (vs ++ [.ref a]) (rs ++ [r])
  | _, _, .nil => .cons h .nil
  | _, _, .cons q t => .cons q (RowsAt.snoc h t)
theorem RowsAt.get {H : Hp} : ∀ {vs : List V} {rs : List (List Int)} {i : Nat} {r : List Int}, RowsAt H vs rs → rs[i]? = some r → ∃ a, vs[i]? = some (.ref a) ∧ H a = some (.tup (r.map V.int))
  | _, _, _, _, .nil, e => by cases e
  | _, _, 0, _, .cons q _, e => by cases e; exact ⟨_, rfl, q⟩
  | _, _, i + 1, _, .cons _ t, e => RowsAt.get (i := i) t e
theorem RowsAt.dp {K : PySem.W.Frag} {H : Hp} : ∀ {vs : List V} {rs : List (List Int)}, RowsAt H vs rs → DpAll K H vs (rs.map fun r => .tuple (r.map PyData.int))
  | _, _, .nil => .nil
  | _, _, .cons h t => .cons (.tup (SqT.of h) (dpInts _)) (RowsAt.dp t)
end Ew
namespace Ew
open PySem PySem.Spec PyProof.Rows L2
/-! slices, by what they come to -/
def rSlE (K : PySem.W.Frag) : V → Option Int → Option Int → Hp → VK → Prop := fun x lo hi H Q => ∃ a xs ys, x = .ref a ∧ SqL K H a xs ∧ cutV xs lo hi = ys ∧ ∀ p, H p = none → Q (.ref p) (upd H p (.lst ys))
theorem sl_listE {X : Cx} : SlR X (rSlE X.K) := fun pins s σ H x v vl vu lo hi sl Q I rx hs pl pu ⟨a, xs, ys, h1, h2, h3, h4⟩ =>
  sl_list pins s σ H x v vl vu lo hi sl Q I rx hs pl pu ⟨a, xs, h1, h2, fun p hp => h3 ▸ h4 p hp⟩
end Ew
/-- the tables of codes of the defs that hold generator expressions -/
class Tbs where
  tb : List PySem.Addr
  wd : PySem.World
  /-- the program -/
  pr : PySem.Program
  /-- the classes of exceptions, by numbers -/
  cv : Nat → PySem.Value
  /-- the tables of codes of the defs that hold lambdas, the lambda's full name -/
  tl : List (PySem.Addr × PySem.Str)
  tn : ∀ p ∈ tl, p.1 ∉ tb
  tu : ∀ p ∈ tl, ∀ r ∈ tl, p.1 = r.1 → p.2 = r.2
namespace Pu
open PySem PySem.Spec PyProof.Rows L2
variable [Tbs]
/-! Data without places: what a value shows. -/
inductive D where
  | non | bl (b : Bool) | int (i : Int) | str (s : Str) | ty (n : String)
  | tup (xs : List D) | lst (xs : List D) | dic (kvs : List (Key × D))
  | deck (n : Nat)
  | dpr (kvs : List (List Int × Int))
  | dfz (kvs : List (Int × Int))
  | st (ns : List Int)
  | bor (xs : List D)
  | opq (a : Addr)
  /-- an exception that is handled, at a, its dict at d, with two fields -/
  | xf (a d : Addr) (x y : Int)
  | dpd (kvs : List (List Int × D))
  /-- a thing of the state, by its number -/
  | hd (i : Nat)
/-- a thing of the state: a dict, one that is walked, an instance of a class by its number -/
inductive Cell where
  | dic (kvs : List (Key × D)) | lck (kvs : List (Key × D)) | ins (c : Nat) (fs : List (Str × D)) | lst (xs : List D)
/-- the members of a set -/
def memB (ns : List Int) : Int → Bool := fun j => decide (j ∈ ns)
/-- a dict by pairs of whole numbers, its values whole numbers -/
def dtV (ds : List (List Int × Int)) : List (List Key × V) := ds.map fun q => (q.1.map Sum.inl, V.int q.2)
/-- a dict by whole numbers, its values whole numbers, that is changed no more -/
def dzV (ds : List (Int × Int)) : List (Key × V) := ds.map fun p => (Sum.inl p.1, V.int p.2)
/-! the decks of the laws: what a deck at dk with its cells at c is, by its kind -/
def dkA (c : Addr) (l s n : Int) : List (Key × V) := [(.inr "cells", .ref c), (.inr "left", .int l), (.inr "seed", .int s), (.inr "count", .int n)]
def dkB (c : Addr) (a r s : Int) : List (Key × V) := [(.inr "cells", .ref c), (.inr "at", .int a), (.inr "rest", .int r), (.inr "seed", .int s)]
def dkC (c : Addr) (g s t : Int) : List (Key × V) := [(.inr "cells", .ref c), (.inr "great", .int g), (.inr "seed", .int s), (.inr "turn", .int t)]
def dkE (c : Addr) (s : Int) : List (Key × V) := [(.inr "cells", .ref c), (.inr "seed", .int s)]
def DkF : Nat → Hp → Addr → Addr → Prop
  | 1, H, dk, c => ∃ (l s n : Int) (cs : List Int), H dk = some (.dK (dkA c l s n)) ∧ H c = some (.lst (cs.map V.int)) ∧ 0 ≤ s ∧ s < 4294967296
  | 2, H, dk, c => ∃ (a r s : Int) (cs : List Int), H dk = some (.dK (dkB c a r s)) ∧ H c = some (.lst (cs.map V.int)) ∧ 0 ≤ a ∧ 0 ≤ s ∧ s < 4294967296
  | 3, H, dk, c => ∃ (s n g : Int) (cs : List Int), H dk = some (.lst [.ref c, .int s, .int n, .int g]) ∧ H c = some (.lst (cs.map V.int)) ∧ True
  | 4, H, dk, c => ∃ (g s t : Int) (cs : List Int), H dk = some (.dK (dkC c g s t)) ∧ H c = some (.lst (cs.map V.int)) ∧ True
  | 5, H, dk, c => ∃ (s n _g : Int) (cs : List Int), H dk = some (.lst [.ref c, .int s, .int n]) ∧ H c = some (.lst (cs.map V.int)) ∧ 0 ≤ s ∧ s < 4294967296
  | 6, H, dk, c => ∃ (s n g : Int) (cs : List Int), H dk = some (.lst [.ref c, .int s, .int n, .int g]) ∧ H c = some (.lst (cs.map V.int)) ∧ True
  | 8, H, dk, c => ∃ (s n g : Int) (cs : List Int), H dk = some (.lst [.int g, .int s, .int n]) ∧ H c = some (.lst (cs.map V.int)) ∧ True
  | 7, H, dk, c => ∃ (s _n _g : Int) (cs : List Int), H dk = some (.dK (dkE c s)) ∧ H c = some (.lst (cs.map V.int)) ∧ 0 ≤ s ∧ s < 4294967296
  | _, _, _, _ => False
theorem DkF.keep {n : Nat} {H H' : Hp} {dk c : Addr} (h : DkF n H dk c) (h1 : ∀ o, H dk = some o → H' dk = some o) (h2 : ∀ o, H c = some o → H' c = some o) : DkF n H' dk c := by
  unfold DkF at h ⊢
  split at h
  · obtain ⟨l, s, n, cs, e1, e2, r⟩ := h; exact ⟨l, s, n, cs, h1 _ e1, h2 _ e2, r⟩
  · obtain ⟨l, s, n, cs, e1, e2, r⟩ := h; exact ⟨l, s, n, cs, h1 _ e1, h2 _ e2, r⟩
  · obtain ⟨l, s, n, cs, e1, e2, r⟩ := h; exact ⟨l, s, n, cs, h1 _ e1, h2 _ e2, r⟩
  · obtain ⟨l, s, n, cs, e1, e2, r⟩ := h; exact ⟨l, s, n, cs, h1 _ e1, h2 _ e2, r⟩
  · obtain ⟨l, s, n, cs, e1, e2, r⟩ := h; exact ⟨l, s, n, cs, h1 _ e1, h2 _ e2, r⟩
  · obtain ⟨l, s, n, cs, e1, e2, r⟩ := h; exact ⟨l, s, n, cs, h1 _ e1, h2 _ e2, r⟩
  · obtain ⟨l, s, n, cs, e1, e2, r⟩ := h; exact ⟨l, s, n, cs, h1 _ e1, h2 _ e2, r⟩
  · obtain ⟨l, s, n, cs, e1, e2, r⟩ := h; exact ⟨l, s, n, cs, h1 _ e1, h2 _ e2, r⟩
  · exact h.elim
theorem DkF.al {n : Nat} {H : Hp} {dk c : Addr} (h : DkF n H dk c) : H dk ≠ none ∧ H c ≠ none := by
  have nt : ∀ {u : HO}, some u ≠ none := fun q => by cases q
  unfold DkF at h
  split at h
  · obtain ⟨l, s, n, cs, e1, e2, r⟩ := h; rw [e1, e2]; exact ⟨nt, nt⟩
  · obtain ⟨l, s, n, cs, e1, e2, r⟩ := h; rw [e1, e2]; exact ⟨nt, nt⟩
  · obtain ⟨l, s, n, cs, e1, e2, r⟩ := h; rw [e1, e2]; exact ⟨nt, nt⟩
  · obtain ⟨l, s, n, cs, e1, e2, r⟩ := h; rw [e1, e2]; exact ⟨nt, nt⟩
  · obtain ⟨l, s, n, cs, e1, e2, r⟩ := h; rw [e1, e2]; exact ⟨nt, nt⟩
  · obtain ⟨l, s, n, cs, e1, e2, r⟩ := h; rw [e1, e2]; exact ⟨nt, nt⟩
  · obtain ⟨l, s, n, cs, e1, e2, r⟩ := h; rw [e1, e2]; exact ⟨nt, nt⟩
  · obtain ⟨l, s, n, cs, e1, e2, r⟩ := h; rw [e1, e2]; exact ⟨nt, nt⟩
  · exact h.elim
/-- the count of a deck that counts (kinds 6, 8) -/
def CtF : Nat → Hp → Addr → Addr → Nat → Prop
  | 6, H, dk, c, n => ∃ s g : Int, H dk = some (.lst [.ref c, .int s, .int (n : Int), .int g])
  | 8, H, dk, _, n => ∃ g s : Int, H dk = some (.lst [.int g, .int s, .int (n : Int)])
  | _, _, _, _, _ => True
theorem CtF.keep {k : Nat} {H H' : Hp} {dk c : Addr} {n : Nat} (h : CtF k H dk c n) (h1 : ∀ o, H dk = some o → H' dk = some o) : CtF k H' dk c n := by
  unfold CtF at h ⊢
  split at h
  · obtain ⟨s, g, q⟩ := h; exact ⟨s, g, h1 _ q⟩
  · obtain ⟨s, g, q⟩ := h; exact ⟨s, g, h1 _ q⟩
  · trivial
/-- the zone of places that calls may change: the law's deck (nt: its kind, 0: none) -/
structure Zn where
  dk : Addr
  c : Addr
  nt : Nat
  /-- a list that is borrowed -/
  bo : Option Addr := Option.none
  /-- how many draws there were, of a deck that counts (kind 6) -/
  ct : Nat := 0
  /-- the things of the state -/
  cs : List (Addr × HO) := []
def Zn.Z (z : Zn) : Addr → Prop := fun a => (z.nt ≠ 0 ∧ (a = z.dk ∨ a = z.c ∨ a ∈ z.cs.map (·.1))) ∨ (a ∈ Tbs.tb ∨ a ∈ Tbs.tl.map (·.1))
/-- the thing at c is a code of the name q -/
def CodeF (H : Hp) (c : Addr) (q : Str) : Prop := ∃ (oc : Obj) (u : Heap → Prop) (vs : Array Value) (t : Tok), H c = some (.frz oc (.ext u)) ∧ oc.data = .fields vs ∧ vs[1]? = some (.str q t)
/-- the table at P: each code that it tells is of the name q -/
def TabF (H : Hp) (P : Addr) (q : Str) : Prop := ∃ ps : Array Value, H P = some (.tbl ps) ∧ TriplesOk ps.toList ∧ ∀ (pos : Pos) (cv : Value), codeAmong pos ps.toList = some cv → ∃ c, cv = .ref c ∧ CodeF H c q
/-- what may be written: nothing that is known to the object -/
def NoF (H : Hp) (p : Addr) : Prop := ∀ o u, H p ≠ some (.frz o (.ext u))
/-- the tables stand -/
structure Tabs (H : Hp) : Prop where
  g : ∀ P ∈ Tbs.tb, GxR.TabG H P
  l : ∀ p ∈ Tbs.tl, TabF H p.1 p.2
/-- the things of the state stand as they are told -/
def CsF (z : Zn) (H : Hp) : Prop := (z.cs.map (·.1)).Nodup ∧ ∀ p ∈ z.cs, H p.1 = some p.2 ∧ p.1 ≠ z.dk ∧ p.1 ≠ z.c ∧ ∀ ps, p.2 ≠ .tbl ps
def Zn.ok (z : Zn) (H : Hp) (a : Addr) : Prop := a = z.dk ∧ z.nt ≠ 0 ∧ DkF z.nt H z.dk z.c ∧ CtF z.nt H z.dk z.c z.ct ∧ CsF z H
theorem CsF.nil {z : Zn} {H : Hp} (h : z.cs = []) : CsF z H := by
  unfold CsF
  rw [h]
  exact ⟨List.nodup_nil, fun p q => nomatch q⟩
theorem Zn.keep (z : Zn) : ∀ (H H' : Hp) (a : Addr), z.ok H a → (∀ b o, z.Z b → H b = some o → H' b = some o) → z.ok H' a := fun H H' a ⟨h1, h2, h3, h4, h5⟩ k => ⟨h1, h2, h3.keep (fun o q => k _ o (.inl ⟨h2, .inl rfl⟩) q) (fun o q => k _ o (.inl ⟨h2, .inr (.inl rfl)⟩) q), h4.keep fun o q => k _ o (.inl ⟨h2, .inl rfl⟩) q, h5.1, fun p hp => ⟨k _ _ (.inl ⟨h2, .inr (.inr (List.mem_map.mpr ⟨p, hp, rfl⟩))⟩) (h5.2 p hp).1, (h5.2 p hp).2⟩⟩
/-- no deck yet -/
def Zn.none : Zn := ⟨0, 0, 0, Option.none, 0, []⟩
mutual
/-- the value v shows d; no list or dict of it stands in M -/
inductive Is (z : Zn) (M : Addr → Prop) (H : Hp) : V → D → Prop
  | non : Is z M H .non .non
  | bl (b : Bool) : Is z M H (.bl b) (.bl b)
  | int (i : Int) : Is z M H (.int i) (.int i)
  | str (s : Str) : Is z M H (.str s) (.str s)
  | ty (n : String) : Is z M H (.ty n) (.ty n)
  | tup {a : Addr} {vs : List V} {ds : List D} : H a = some (.tup vs) → ¬ M a → IsA z M H vs ds → Is z M H (.ref a) (.tup ds)
  | lst {a : Addr} {vs : List V} {ds : List D} : H a = some (.lst vs) → ¬ M a → IsA z M H vs ds → Is z M H (.ref a) (.lst ds)
  | dic {a : Addr} {vs : List (Key × V)} {ds : List (Key × D)} : H a = some (.dK vs) → ¬ M a → IsK z M H vs ds → Is z M H (.ref a) (.dic ds)
  | deck {a : Addr} : z.ok H a → Is z M H (.ref a) (.deck z.nt)
  | dpr {a : Addr} {ds : List (List Int × Int)} : H a = some (.dT (dtV ds)) → ¬ M a → Is z M H (.ref a) (.dpr ds)
  | dfz {a : Addr} {o : Obj} {ds : List (Int × Int)} : H a = some (.frz o (.dK (dzV ds))) → ¬ M a → Is z M H (.ref a) (.dfz ds)
  | st {a : Addr} {ns : List Int} {n : Nat} : H a = some (SetO Tbs.wd a (memB ns) n) → n ≤ ns.length → ¬ M a → Is z M H (.ref a) (.st ns)
  | bor {a : Addr} {vs : List V} {ds : List D} : H a = some (.lst vs) → ¬ M a → IsA z M H vs ds → Is z M H (.ref a) (.bor ds)
  | opq (a : Addr) : Is z M H (.ref a) (.opq a)
  | xf (a : Addr) {d : Addr} {x y : Int} : H d = some (.xd [("other", .int y), ("one", .int x)]) → ¬ M d → Is z M H (.ref a) (.xf a d x y)
  | dpd {a : Addr} {vs : List (List Key × V)} {ds : List (List Int × D)} : H a = some (.dT vs) → ¬ M a → vs.map (·.1) = ds.map (fun p => p.1.map Sum.inl) → IsA z M H (vs.map (·.2)) (ds.map (·.2)) → Is z M H (.ref a) (.dpd ds)
  | hd {a : Addr} {i : Nat} : (z.cs[i]?).map (·.1) = some a → Is z M H (.ref a) (.hd i)
inductive IsA (z : Zn) (M : Addr → Prop) (H : Hp) : List V → List D → Prop
  | nil : IsA z M H [] []
  | cons {v : V} {d : D} {vs : List V} {ds : List D} : Is z M H v d → IsA z M H vs ds → IsA z M H (v :: vs) (d :: ds)
inductive IsK (z : Zn) (M : Addr → Prop) (H : Hp) : List (Key × V) → List (Key × D) → Prop
  | nil : IsK z M H [] []
  | cons {k : Key} {v : V} {d : D} {vs : List (Key × V)} {ds : List (Key × D)} : Is z M H v d → IsK z M H vs ds → IsK z M H ((k, v) :: vs) ((k, d) :: ds)
end
section
variable {z : Zn} {M M' : Addr → Prop} {H H' : Hp}
mutual
theorem Is.gen (h1 : ∀ a o, H a = some o → ¬ M a → H' a = some o ∧ ¬ M' a) (h2 : ∀ a, z.ok H a → z.ok H' a) : ∀ {v : V} {d : D}, Is z M H v d → Is z M' H' v d
  | _, _, .non => .non
  | _, _, .bl b => .bl b
  | _, _, .int i => .int i
  | _, _, .str s => .str s
  | _, _, .ty n => .ty n
  | _, _, .tup e n r => .tup (h1 _ _ e n).1 (h1 _ _ e n).2 (IsA.gen h1 h2 r)
  | _, _, .lst e n r => .lst (h1 _ _ e n).1 (h1 _ _ e n).2 (IsA.gen h1 h2 r)
  | _, _, .dic e n r => .dic (h1 _ _ e n).1 (h1 _ _ e n).2 (IsK.gen h1 h2 r)
  | _, _, .deck e => .deck (h2 _ e)
  | _, _, .dpr e n => .dpr (h1 _ _ e n).1 (h1 _ _ e n).2
  | _, _, .dfz e n => .dfz (h1 _ _ e n).1 (h1 _ _ e n).2
  | _, _, .st e l n => .st (h1 _ _ e n).1 l (h1 _ _ e n).2
  | _, _, .bor e n r => .bor (h1 _ _ e n).1 (h1 _ _ e n).2 (IsA.gen h1 h2 r)
  | _, _, .opq v => .opq v
  | _, _, .xf v e n => .xf v (h1 _ _ e n).1 (h1 _ _ e n).2
  | _, _, .dpd e n q r => .dpd (h1 _ _ e n).1 (h1 _ _ e n).2 q (IsA.gen h1 h2 r)
  | _, _, .hd e => .hd e
theorem IsA.gen (h1 : ∀ a o, H a = some o → ¬ M a → H' a = some o ∧ ¬ M' a) (h2 : ∀ a, z.ok H a → z.ok H' a) : ∀ {v : List V} {d : List D}, IsA z M H v d → IsA z M' H' v d
  | _, _, .nil => .nil
  | _, _, .cons h t => .cons (Is.gen h1 h2 h) (IsA.gen h1 h2 t)
theorem IsK.gen (h1 : ∀ a o, H a = some o → ¬ M a → H' a = some o ∧ ¬ M' a) (h2 : ∀ a, z.ok H a → z.ok H' a) : ∀ {v : List (Key × V)} {d : List (Key × D)}, IsK z M H v d → IsK z M' H' v d
  | _, _, .nil => .nil
  | _, _, .cons h t => .cons (Is.gen h1 h2 h) (IsK.gen h1 h2 t)
end
theorem IsA.length : ∀ {vs : List V} {ds : List D}, IsA z M H vs ds → vs.length = ds.length
  | _, _, .nil => rfl
  | _, _, .cons _ t => congrArg Nat.succ (IsA.length t)
theorem IsA.append : ∀ {vs us : List V} {ds es : List D}, IsA z M H vs ds → IsA z M H us es → IsA z M H (vs ++ us) (ds ++ es)
  | _, _, _, _, .nil, h => h
  | _, _, _, _, .cons q t, h => .cons q (IsA.append t h)
theorem IsA.get : ∀ {vs : List V} {ds : List D} {i : Nat} {d : D}, IsA z M H vs ds → ds[i]? = some d → ∃ v, vs[i]? = some v ∧ Is z M H v d
  | _, _, _, _, .nil, e => by cases e
  | _, _, 0, _, .cons q _, e => by cases e; exact ⟨_, rfl, q⟩
  | _, _, i + 1, _, .cons _ t, e => IsA.get (i := i) t e
theorem IsA.take : ∀ {vs : List V} {ds : List D} (n : Nat), IsA z M H vs ds → IsA z M H (vs.take n) (ds.take n)
  | _, _, 0, _ => .nil
  | _, _, _ + 1, .nil => .nil
  | _, _, n + 1, .cons q t => .cons q (IsA.take n t)
theorem IsA.drop : ∀ {vs : List V} {ds : List D} (n : Nat), IsA z M H vs ds → IsA z M H (vs.drop n) (ds.drop n)
  | _, _, 0, h => h
  | _, _, _ + 1, .nil => .nil
  | _, _, n + 1, .cons _ t => IsA.drop n t
theorem IsA.set {v : V} {d : D} (h : Is z M H v d) : ∀ {vs : List V} {ds : List D} (n : Nat), IsA z M H vs ds → IsA z M H (vs.set n v) (ds.set n d)
  | _, _, _, .nil => .nil
  | _, _, 0, .cons _ t => .cons h t
  | _, _, n + 1, .cons q t => .cons q (IsA.set h n t)
theorem IsA.eraseIdx : ∀ {vs : List V} {ds : List D} (n : Nat), IsA z M H vs ds → IsA z M H (vs.eraseIdx n) (ds.eraseIdx n)
  | _, _, _, .nil => .nil
  | _, _, 0, .cons _ t => t
  | _, _, n + 1, .cons q t => .cons q (IsA.eraseIdx n t)
theorem IsA.reverse {vs : List V} {ds : List D} (h : IsA z M H vs ds) : IsA z M H vs.reverse ds.reverse := by
  induction h using IsA.rec (motive_1 := fun _ _ _ => True) (motive_3 := fun _ _ _ => True) with
  | nil => exact .nil
  | cons q t _ ih =>
    rw [List.reverse_cons, List.reverse_cons]
    exact ih.append (.cons q .nil)
  | _ => trivial
theorem IsA.dropLast : ∀ {vs : List V} {ds : List D}, IsA z M H vs ds → IsA z M H vs.dropLast ds.dropLast
  | _, _, .nil => .nil
  | _, _, .cons _ .nil => .nil
  | _, _, .cons q (.cons r t) => .cons q (IsA.dropLast (.cons r t))
theorem IsA.ints : ∀ {vs : List V} {ns : List Int}, IsA z M H vs (ns.map D.int) → vs = ns.map V.int
  | _, [], .nil => rfl
  | _, n :: ns, .cons q t => by cases q; rw [IsA.ints t]; rfl
end
/-! what may happen to the heap -/
structure Evo (z : Zn) (H H' : Hp) : Prop where
  old : ∀ a o, H a = some o → ¬ z.Z a → H' a = some o
  al : ∀ a, H a ≠ none → H' a ≠ none
  dk : ∀ a, z.ok H a → z.ok H' a
  tab : Tabs H → Tabs H'
section
variable {z : Zn} {M M' : Addr → Prop} {H H1 H2 H' : Hp} {p : Addr} {o : HO} {v : V} {d : D}
theorem CodeF.keep {H H' : Hp} {c : Addr} {q : Str} (h : CodeF H c q) (k : ∀ o u, H c = some (.frz o (.ext u)) → H' c = some (.frz o (.ext u))) : CodeF H' c q := by
  obtain ⟨oc, u, vs, t, e, r⟩ := h
  exact ⟨oc, u, vs, t, k _ _ e, r⟩
theorem TabF.keep {H H' : Hp} {P : Addr} {q : Str} (h : TabF H P q) (k : ∀ ps, H P = some (.tbl ps) → H' P = some (.tbl ps)) (k2 : ∀ c o u, H c = some (.frz o (.ext u)) → H' c = some (.frz o (.ext u))) : TabF H' P q := by
  obtain ⟨ps, e, t, f⟩ := h
  refine ⟨ps, k _ e, t, fun pos cv hc => ?_⟩
  obtain ⟨c, e1, e2⟩ := f pos cv hc
  exact ⟨c, e1, e2.keep fun o u q => k2 _ _ _ q⟩
/-- the tables, and what is known, are kept -/
theorem Tabs.keep {H H' : Hp} (h : Tabs H) (k : ∀ P ps, H P = some (.tbl ps) → (P ∈ Tbs.tb ∨ P ∈ Tbs.tl.map (·.1)) → H' P = some (.tbl ps)) (k2 : ∀ c o u, H c = some (.frz o (.ext u)) → H' c = some (.frz o (.ext u))) : Tabs H' :=
  ⟨fun P hP => by
    obtain ⟨ps, e, t⟩ := h.g P hP
    exact ⟨ps, k _ _ e (.inl hP), t⟩, fun p hp => (h.l p hp).keep (fun ps e => k _ _ e (.inr (List.mem_map.mpr ⟨p, hp, rfl⟩))) k2⟩
theorem Tabs.tbl (h : Tabs H) {P : Addr} (hP : P ∈ Tbs.tb ∨ P ∈ Tbs.tl.map (·.1)) : ∃ ps, H P = some (.tbl ps) := by
  rcases hP with hP | hP
  · obtain ⟨ps, e, _⟩ := h.g P hP
    exact ⟨ps, e⟩
  · obtain ⟨p, hp, rfl⟩ := List.mem_map.mp hP
    obtain ⟨ps, e, _⟩ := h.l p hp
    exact ⟨ps, e⟩
theorem Tabs.at (h : Tabs H) {P : Addr} (hP : P ∈ Tbs.tb ∨ P ∈ Tbs.tl.map (·.1)) : H P ≠ none := by
  obtain ⟨ps, e⟩ := h.tbl hP
  rw [e]; intro q; cases q
theorem Tabs.new (h : Tabs H) (hp : H p = none) : Tabs (upd H p o) := h.keep (fun P ps e _ => by rw [upd_ne (ne_of_none e hp)]; exact e) fun c o u e => by rw [upd_ne (ne_of_none e hp)]; exact e
theorem NoF.ne {H : Hp} {p c : Addr} {o : Obj} {u : Heap → Prop} (n : NoF H p) (h : H c = some (.frz o (.ext u))) : c ≠ p := fun e => n o u (by rw [← e]; exact h)
theorem NoF.of {H : Hp} {p : Addr} {o : HO} (h : H p = some o) (n : ∀ a b, o ≠ .frz a (.ext b)) : NoF H p := fun a b e => n a b (Option.some.inj (h.symm.trans e))
theorem NoF.lst {H : Hp} {p : Addr} {vs : List V} (h : H p = some (.lst vs)) : NoF H p := .of h fun a b e => nomatch e
theorem NoF.non {H : Hp} {p : Addr} (h : H p = none) : NoF H p := fun a b e => by rw [h] at e; cases e
theorem Tabs.mut (h : Tabs H) (hp : ¬ z.Z p) (hf : NoF H p) : Tabs (upd H p o) := h.keep (fun P ps e m => by rw [upd_ne (fun w => hp (.inr (by rw [← w]; exact m)))]; exact e) fun c o u e => by rw [upd_ne (hf.ne e)]; exact e
theorem Evo.refl (z : Zn) (H : Hp) : Evo z H H := ⟨fun _ _ h _ => h, fun _ h => h, fun _ h => h, fun h => h⟩
theorem Evo.trans (a : Evo z H H1) (b : Evo z H1 H2) : Evo z H H2 := ⟨fun x o h n => b.old x o (a.old x o h n) n, fun x h => b.al x (a.al x h), fun x h => b.dk x (a.dk x h), fun h => b.tab (a.tab h)⟩
theorem Evo.fresh (a : Evo z H H1) (h : H1 p = none) : H p = none := by
  cases q : H p with
  | none => rfl
  | some o => exact absurd h (a.al p (by rw [q]; intro z; cases z))
theorem ok_new (hp : H p = none) {a : Addr} (h : z.ok H a) : z.ok (upd H p o) a :=
  z.keep _ _ _ h fun b u _ e => by rw [upd_ne (ne_of_none e hp)]; exact e
theorem ok_mut (hp : ¬ z.Z p) {a : Addr} (h : z.ok H a) : z.ok (upd H p o) a :=
  z.keep _ _ _ h fun b u zb e => by rw [upd_ne (fun q => hp (by rw [← q]; exact zb))]; exact e
theorem Evo.new (a : Evo z H H1) (hp : H1 p = none) : Evo z H (upd H1 p o) :=
  ⟨fun x u h n => by rw [upd_ne (ne_of_none (a.old x u h n) hp)]; exact a.old x u h n, fun x h => by
    by_cases e : x = p
    · rw [e, upd_same]; intro z; cases z
    · rw [upd_ne e]; exact a.al x h, fun x h => ok_new hp (a.dk x h), fun h => (a.tab h).new hp⟩
/-- a thing that was not there at first is changed -/
theorem Evo.mut (a : Evo z H H1) (hp : H p = none) (hz : ¬ z.Z p) (hf : NoF H1 p) : Evo z H (upd H1 p o) :=
  ⟨fun x u h n => by rw [upd_ne (ne_of_none h hp)]; exact a.old x u h n, fun x h => by
    by_cases e : x = p
    · rw [e, upd_same]; intro z; cases z
    · rw [upd_ne e]; exact a.al x h, fun x h => ok_mut hz (a.dk x h), fun h => (a.tab h).mut hz hf⟩
theorem Is.evo (hM : ∀ a, z.Z a → M a) (e : Evo z H H') (h : Is z M H v d) : Is z M H' v d := h.gen (fun a o q n => ⟨e.old a o q (fun x => n (hM a x)), n⟩) e.dk
theorem IsA.evo {vs : List V} {ds : List D} (hM : ∀ a, z.Z a → M a) (e : Evo z H H') (h : IsA z M H vs ds) : IsA z M H' vs ds := h.gen (fun a o q n => ⟨e.old a o q (fun x => n (hM a x)), n⟩) e.dk
theorem Is.weak (hM : ∀ a, M' a → M a) (h : Is z M H v d) : Is z M' H v d := h.gen (fun a o q n => ⟨q, fun x => n (hM a x)⟩) fun _ h => h
theorem IsA.weak {vs : List V} {ds : List D} (hM : ∀ a, M' a → M a) (h : IsA z M H vs ds) : IsA z M' H vs ds := h.gen (fun a o q n => ⟨q, fun x => n (hM a x)⟩) fun _ h => h
theorem Is.new (hp : H p = none) (h : Is z M H v d) : Is z M (upd H p o) v d := h.gen (fun a u q n => ⟨by rw [upd_ne (ne_of_none q hp)]; exact q, n⟩) fun _ h => ok_new hp h
theorem IsA.new {vs : List V} {ds : List D} (hp : H p = none) (h : IsA z M H vs ds) : IsA z M (upd H p o) vs ds := h.gen (fun a u q n => ⟨by rw [upd_ne (ne_of_none q hp)]; exact q, n⟩) fun _ h => ok_new hp h
end
theorem DkF.nof {n : Nat} {H : Hp} {dk c P : Addr} {o : HO} (h : DkF n H dk c) (e : H P = some o) (he : (∃ ps, o = .tbl ps) ∨ ∃ a b, o = .frz a b) : dk ≠ P ∧ c ≠ P := by
  unfold DkF at h
  split at h
  all_goals first
    | exact h.elim
    | (obtain ⟨l, s, n, cs, e1, e2, r⟩ := h
       refine ⟨fun w => ?_, fun w => ?_⟩
       · rw [w, e] at e1; rcases he with ⟨ps, rfl⟩ | ⟨a, b, rfl⟩ <;> cases e1
       · rw [w, e] at e2; rcases he with ⟨ps, rfl⟩ | ⟨a, b, rfl⟩ <;> cases e2)
theorem DkF.notbl {n : Nat} {H : Hp} {dk c P : Addr} {ps : Array Value} (h : DkF n H dk c) (e : H P = some (.tbl ps)) : dk ≠ P ∧ c ≠ P := h.nof e (.inl ⟨ps, rfl⟩)
/-- a draw leaves the tables -/
theorem tab_deck {n : Nat} {H H' : Hp} {dk c : Addr} (d : DkF n H dk c) (ev : ∀ b o, H b = some o → b ∉ [dk, c] → H' b = some o) (h : Tabs H) : Tabs H' :=
  h.keep (fun P ps e _ => by
    obtain ⟨n1, n2⟩ := d.notbl e
    exact ev P _ e (by simp only [List.mem_cons, List.not_mem_nil, or_false, not_or]; exact ⟨fun w => n1 w.symm, fun w => n2 w.symm⟩)) fun P o u e => by
    obtain ⟨n1, n2⟩ := d.nof e (.inr ⟨o, _, rfl⟩)
    exact ev P _ e (by simp only [List.mem_cons, List.not_mem_nil, or_false, not_or]; exact ⟨fun w => n1 w.symm, fun w => n2 w.symm⟩)
/-- what the thing at a holds -/
def Con (z : Zn) (M : Addr → Prop) (H : Hp) (a : Addr) : D → Prop
  | .tup ds => ∃ vs, H a = some (.tup vs) ∧ IsA z M H vs ds
  | .lst ds => ∃ vs, H a = some (.lst vs) ∧ IsA z M H vs ds
  | .dic ds => ∃ vs, H a = some (.dK vs) ∧ IsK z M H vs ds
  | .dpr ds => H a = some (.dT (dtV ds))
  | .dpd ds => ∃ vs, H a = some (.dT vs) ∧ vs.map (·.1) = ds.map (fun p => p.1.map Sum.inl) ∧ IsA z M H (vs.map (·.2)) (ds.map (·.2))
  | .st ns => ∃ n, H a = some (SetO Tbs.wd a (memB ns) n) ∧ n ≤ ns.length
  | .bor ds => z.bo = some a ∧ ∃ vs, H a = some (.lst vs) ∧ IsA z M H vs ds
  | _ => False
section
variable {z : Zn} {M M' : Addr → Prop} {H H' : Hp} {a : Addr} {d : D}
theorem Con.gen (ha : ∀ o, H a = some o → H' a = some o) (h1 : ∀ a o, H a = some o → ¬ M a → H' a = some o ∧ ¬ M' a) (h2 : ∀ a, z.ok H a → z.ok H' a) (h : Con z M H a d) : Con z M' H' a d := by
  cases d with
  | tup ds => obtain ⟨vs, e, r⟩ := h; exact ⟨vs, ha _ e, r.gen h1 h2⟩
  | lst ds => obtain ⟨vs, e, r⟩ := h; exact ⟨vs, ha _ e, r.gen h1 h2⟩
  | dic ds => obtain ⟨vs, e, r⟩ := h; exact ⟨vs, ha _ e, r.gen h1 h2⟩
  | dpr ds => exact ha _ h
  | dpd ds => obtain ⟨vs, e, q, r⟩ := h; exact ⟨vs, ha _ e, q, r.gen h1 h2⟩
  | st ns => obtain ⟨n, e, l⟩ := h; exact ⟨n, ha _ e, l⟩
  | bor ds => obtain ⟨w, vs, e, r⟩ := h; exact ⟨w, vs, ha _ e, r.gen h1 h2⟩
  | _ => exact h.elim
theorem Con.is (n : ¬ M a) (h : Con z M H a d) : Is z M H (.ref a) d := by
  cases d with
  | tup ds => obtain ⟨vs, e, r⟩ := h; exact .tup e n r
  | lst ds => obtain ⟨vs, e, r⟩ := h; exact .lst e n r
  | dic ds => obtain ⟨vs, e, r⟩ := h; exact .dic e n r
  | dpr ds => exact .dpr h n
  | dpd ds => obtain ⟨vs, e, q, r⟩ := h; exact .dpd e n q r
  | st ns => obtain ⟨m, e, l⟩ := h; exact .st e l n
  | bor ds => obtain ⟨w, vs, e, r⟩ := h; exact .bor e n r
  | _ => exact h.elim
theorem Con.some (h : Con z M H a d) : ∃ o, H a = some o := by
  cases d with
  | tup ds => obtain ⟨vs, e, r⟩ := h; exact ⟨_, e⟩
  | lst ds => obtain ⟨vs, e, r⟩ := h; exact ⟨_, e⟩
  | dic ds => obtain ⟨vs, e, r⟩ := h; exact ⟨_, e⟩
  | dpr ds => exact ⟨_, h⟩
  | dpd ds => obtain ⟨vs, e, q, r⟩ := h; exact ⟨_, e⟩
  | st ns => obtain ⟨m, e, l⟩ := h; exact ⟨_, e⟩
  | bor ds => obtain ⟨w, vs, e, r⟩ := h; exact ⟨_, e⟩
  | _ => exact h.elim
theorem Con.nof (h : Con z M H a d) : NoF H a := by
  cases d with
  | tup ds => obtain ⟨vs, e, r⟩ := h; exact .of e fun a b q => nomatch q
  | lst ds => obtain ⟨vs, e, r⟩ := h; exact .of e fun a b q => nomatch q
  | dic ds => obtain ⟨vs, e, r⟩ := h; exact .of e fun a b q => nomatch q
  | dpr ds => exact .of h fun a b q => nomatch q
  | dpd ds => obtain ⟨vs, e, q, r⟩ := h; exact .of e fun a b q => nomatch q
  | st ns => obtain ⟨m, e, l⟩ := h; exact .of e fun a b q => nomatch q
  | bor ds => obtain ⟨w, vs, e, r⟩ := h; exact .of e fun a b q => nomatch q
  | _ => exact h.elim
end
/-! slots -/
abbrev Sl := List (Option V)
abbrev AP := Addr → Prop
inductive SV where
  | no | val (d : D) | own (d : D) | gs (g : List Cell)
/-- the places that no plain value of the slots has: the zone, what X names, what slots own -/
def Ms (z : Zn) (X : AP) (σ : Sl) (env : List SV) : AP := fun a => z.Z a ∨ X a ∨ ∃ (i : Nat) (d : D), env[i]? = some (.own d) ∧ σ[i]? = some (some (V.ref a))
/-- the deck stands, with the state -/
def Zn.live (z : Zn) (H : Hp) : Prop := z.ok H z.dk
def IsF (z : Zn) (M : AP) (H : Hp) (fs : List (Str × V)) (ds : List (Str × D)) : Prop := fs.map (·.1) = ds.map (·.1) ∧ IsA z M H (fs.map (·.2)) (ds.map (·.2))
/-- what a thing of the state holds -/
def CellOk (z : Zn) (M : AP) (H : Hp) (o : HO) : Cell → Prop
  | .dic ds => ∃ vs, o = .dK vs ∧ IsK z M H vs ds
  | .lck ds => ∃ od vs, o = .frz od (.dK vs) ∧ IsK z M H vs ds
  | .lst ds => ∃ vs, o = .lst vs ∧ IsA z M H vs ds
  | .ins c ds => ∃ C dx fs, o = .ins C dx fs ∧ Tbs.cv c = .ref C ∧ IsF z M H fs ds
theorem CellOk.gen {z : Zn} {M M' : AP} {H H' : Hp} {o : HO} {c : Cell} (h1 : ∀ a o, H a = some o → ¬ M a → H' a = some o ∧ ¬ M' a) (h2 : ∀ a, z.ok H a → z.ok H' a) (h : CellOk z M H o c) : CellOk z M' H' o c := by
  cases c with
  | dic ds => obtain ⟨vs, e, r⟩ := h; exact ⟨vs, e, r.gen h1 h2⟩
  | lck ds => obtain ⟨od, vs, e, r⟩ := h; exact ⟨od, vs, e, r.gen h1 h2⟩
  | lst ds => obtain ⟨vs, e, r⟩ := h; exact ⟨vs, e, r.gen h1 h2⟩
  | ins c ds => obtain ⟨C, dx, fs, e, q, r1, r2⟩ := h; exact ⟨C, dx, fs, e, q, r1, r2.gen h1 h2⟩
structure StOk (z : Zn) (M : AP) (H : Hp) (g : List Cell) : Prop where
  live : z.live H
  len : z.cs.length = g.length
  at' : ∀ (i : Nat) (p : Addr × HO) (c : Cell), z.cs[i]? = some p → g[i]? = some c → CellOk z M H p.2 c
theorem StOk.gen {z : Zn} {M M' : AP} {H H' : Hp} {g : List Cell} (h1 : ∀ a o, H a = some o → ¬ M a → H' a = some o ∧ ¬ M' a) (h2 : ∀ a, z.ok H a → z.ok H' a) (h : StOk z M H g) : StOk z M' H' g :=
  ⟨h2 _ h.live, h.len, fun i p c e1 e2 => (h.at' i p c e1 e2).gen h1 h2⟩
structure Ok (z : Zn) (X : AP) (H0 H : Hp) (σ : Sl) (env : List SV) : Prop where
  len : σ.length = env.length
  evo : Evo z H0 H
  zal : ∀ a, z.Z a → H a ≠ none
  xal : ∀ a, X a → H a ≠ none ∧ ¬ z.Z a
  val : ∀ (i : Nat) (d : D), env[i]? = some (.val d) → ∃ v, σ[i]? = some (some v) ∧ Is z (Ms z X σ env) H v d
  own : ∀ (i : Nat) (d : D), env[i]? = some (.own d) → ∃ a, σ[i]? = some (some (V.ref a)) ∧ Con z (Ms z X σ env) H a d ∧ ¬ z.Z a ∧ ¬ X a ∧ H0 a = none
  inj : ∀ (i j : Nat) (a : Addr) (d e : D), env[i]? = some (.own d) → env[j]? = some (.own e) → σ[i]? = some (some (V.ref a)) → σ[j]? = some (some (V.ref a)) → i = j
  tab : Tabs H
  gs : ∀ (i : Nat) (g : List Cell), i + 1 = env.length → env[i]? = some (.gs g) → StOk z (Ms z X σ env) H g
/-- what stood outside M stands, outside M' -/
structure Fr (z : Zn) (X : AP) (M : AP) (H : Hp) (M' : AP) (H' : Hp) : Prop where
  old : ∀ a o, H a = some o → ¬ M a → H' a = some o ∧ ¬ M' a
  dk : ∀ a, z.ok H a → z.ok H' a
  al : ∀ a, H a ≠ none → H' a ≠ none
section
variable {z : Zn} {X : AP} {H0 H H' H1 H2 : Hp} {σ σ' : Sl} {env env' : List SV} {M M1 M2 : AP}
theorem Fr.refl : Fr z X M H M H := ⟨fun _ _ h n => ⟨h, n⟩, fun _ h => h, fun _ h => h⟩
theorem Fr.trans (a : Fr z X M H M1 H1) (b : Fr z X M1 H1 M2 H2) : Fr z X M H M2 H2 := ⟨fun x o h n => b.old x o (a.old x o h n).1 (a.old x o h n).2, fun x h => b.dk x (a.dk x h), fun x h => b.al x (a.al x h)⟩
theorem Fr.is {v : V} {d : D} (f : Fr z X M H M1 H1) (h : Is z M H v d) : Is z M1 H1 v d := h.gen f.old f.dk
theorem Fr.isA {v : List V} {d : List D} (f : Fr z X M H M1 H1) (h : IsA z M H v d) : IsA z M1 H1 v d := h.gen f.old f.dk
theorem Ok.keepX (k : Ok z X H0 H σ env) (e : Evo z H H') : ∀ a, X a → H' a = H a := fun a h => by
  cases q : H a with
  | none => exact absurd q (k.xal a h).1
  | some o => exact e.old a o q (k.xal a h).2
theorem Ok.fr (k : Ok z X H0 H σ env) (e : Evo z H H') : Fr z X (Ms z X σ env) H (Ms z X σ env) H' := ⟨fun a o h n => ⟨e.old a o h fun x => n (.inl x), n⟩, e.dk, e.al⟩
theorem Ok.go (k : Ok z X H0 H σ env) (e : Evo z H H') : Ok z X H0 H' σ env :=
  ⟨k.len, k.evo.trans e, fun a h => e.al a (k.zal a h), fun a h => ⟨e.al a (k.xal a h).1, (k.xal a h).2⟩, fun i d h => let ⟨v, h1, h2⟩ := k.val i d h; ⟨v, h1, h2.evo (fun _ h => .inl h) e⟩,
   fun i d h => let ⟨a, h1, h2, h3, h4⟩ := k.own i d h; ⟨a, h1, h2.gen (fun o q => e.old a o q h3) (fun b o q n => ⟨e.old b o q fun x => n (.inl x), n⟩) e.dk, h3, h4⟩, k.inj, e.tab k.tab, fun i g hL h => (k.gs i g (by simpa using hL) h).gen (fun b o q n => ⟨e.old b o q fun x => n (.inl x), n⟩) e.dk⟩
theorem set_own {i j : Nat} {d e : D} (h : (env.set i (.val d))[j]? = some (.own e)) : j ≠ i ∧ env[j]? = some (.own e) := by
  by_cases hj : i = j
  · subst hj
    rw [List.getElem?_set] at h
    split at h
    · split at h <;> cases h
    · exact absurd rfl (by assumption)
  · rw [List.getElem?_set_ne hj] at h
    exact ⟨fun q => hj q.symm, h⟩
theorem set_gs {i j : Nat} {u : SV} {g : List Cell} {env : List SV} (hu : ∀ g', u ≠ .gs g') (h : (env.set i u)[j]? = some (.gs g)) : j ≠ i ∧ env[j]? = some (.gs g) := by
  by_cases hj : i = j
  · subst hj
    rw [List.getElem?_set] at h
    split at h
    · split at h
      · exact absurd (Option.some.inj h) (hu g)
      · cases h
    · exact absurd rfl (by assumption)
  · rw [List.getElem?_set_ne hj] at h
    exact ⟨fun q => hj q.symm, h⟩
theorem set_gsV {i j : Nat} {d : D} {g : List Cell} {env : List SV} (h : (env.set i (.val d))[j]? = some (.gs g)) : j ≠ i ∧ env[j]? = some (.gs g) := set_gs (fun _ w => SV.noConfusion w) h
theorem set_gsO {i j : Nat} {d : D} {g : List Cell} {env : List SV} (h : (env.set i (.own d))[j]? = some (.gs g)) : j ≠ i ∧ env[j]? = some (.gs g) := set_gs (fun _ w => SV.noConfusion w) h
/-- a plain store: the slot i shows d -/
theorem Ok.set (k : Ok z X H0 H σ env) {i : Nat} {v : V} {d : D} (hv : Is z (Ms z X σ env) H v d) : Ok z X H0 H (σ.set i (some v)) (env.set i (.val d)) ∧ Fr z X (Ms z X σ env) H (Ms z X (σ.set i (some v)) (env.set i (.val d))) H := by
  have sub : ∀ a, Ms z X (σ.set i (some v)) (env.set i (.val d)) a → Ms z X σ env a := by
    rintro a (h | h | ⟨j, e, h1, h2⟩)
    · exact .inl h
    · exact .inr (.inl h)
    · obtain ⟨hj, h1⟩ := set_own h1
      rw [List.getElem?_set_ne (Ne.symm hj)] at h2
      exact .inr (.inr ⟨j, e, h1, h2⟩)
  refine ⟨⟨by simp [k.len], k.evo, k.zal, k.xal, fun j e h => ?_, fun j e h => ?_, fun j l a e f h1 h2 h3 h4 => ?_, k.tab, fun j g hL h => (k.gs j g (by simpa using hL) (by first | exact (set_gsV h).2 | exact (set_gsO h).2)).gen (fun a o q n => ⟨q, fun x => n (sub a x)⟩) fun _ h => h⟩, ⟨fun a o q n => ⟨q, fun x => n (sub a x)⟩, fun _ h => h, fun _ h => h⟩⟩
  · by_cases hj : i = j
    · subst hj
      rw [List.getElem?_set] at h
      split at h
      · split at h
        · rename_i hl
          cases h
          refine ⟨v, ?_, hv.weak sub⟩
          rw [List.getElem?_set_self (by rw [k.len]; exact hl)]
        · cases h
      · exact absurd rfl (by assumption)
    · rw [List.getElem?_set_ne hj] at h ⊢
      obtain ⟨u, h1, h2⟩ := k.val j e h
      exact ⟨u, h1, h2.weak sub⟩
  · obtain ⟨hj, h⟩ := set_own h
    rw [List.getElem?_set_ne (Ne.symm hj)]
    obtain ⟨a, h1, h2, h3, h4⟩ := k.own j e h
    exact ⟨a, h1, h2.gen (fun _ q => q) (fun b o q n => ⟨q, fun x => n (sub b x)⟩) fun _ h => h, h3, h4⟩
  · obtain ⟨hj, h1⟩ := set_own h1
    obtain ⟨hl, h2⟩ := set_own h2
    rw [List.getElem?_set_ne (Ne.symm hj)] at h3
    rw [List.getElem?_set_ne (Ne.symm hl)] at h4
    exact k.inj j l a e f h1 h2 h3 h4
abbrev AP.or (X : AP) (a : Addr) : AP := fun b => X b ∨ b = a
/-- a store of a new thing that the slot owns -/
theorem Ok.take (k : Ok z X H0 H σ env) {i : Nat} {a : Addr} {d : D} (hl : i < env.length) (e : Evo z H H') (hn : H a = none) (hc : Con z (Ms z (X.or a) σ env) H' a d) :
    Ok z X H0 H' (σ.set i (some (V.ref a))) (env.set i (.own d)) ∧ Fr z X (Ms z X σ env) H (Ms z X (σ.set i (some (V.ref a))) (env.set i (.own d))) H' := by
  have hz : ¬ z.Z a := fun q => k.zal a q hn
  have hx : ¬ X a := fun q => (k.xal a q).1 hn
  have ms : ∀ b, Ms z X (σ.set i (some (V.ref a))) (env.set i (.own d)) b → Ms z (X.or a) σ env b := by
    rintro b (h | h | ⟨j, f, h1, h2⟩)
    · exact .inl h
    · exact .inr (.inl (.inl h))
    · by_cases hj : i = j
      · subst hj
        rw [List.getElem?_set_self (by rw [k.len]; exact hl)] at h2
        cases h2
        exact .inr (.inl (.inr rfl))
      · rw [List.getElem?_set_ne hj] at h1 h2
        exact .inr (.inr ⟨j, f, h1, h2⟩)
  have ms2 : ∀ b, Ms z (X.or a) σ env b → Ms z X σ env b ∨ b = a := by
    rintro b (h | (h | h) | h)
    · exact .inl (.inl h)
    · exact .inl (.inr (.inl h))
    · exact .inr h
    · exact .inl (.inr (.inr h))
  have old : ∀ b o, H b = some o → ¬ Ms z X σ env b → H' b = some o ∧ ¬ Ms z X (σ.set i (some (V.ref a))) (env.set i (.own d)) b := fun b o q n =>
    ⟨e.old b o q fun x => n (.inl x), fun x => (ms2 b (ms b x)).elim n fun y => by rw [y, hn] at q; cases q⟩
  refine ⟨⟨by simp [k.len], k.evo.trans e, fun b h => e.al b (k.zal b h), fun b h => ⟨e.al b (k.xal b h).1, (k.xal b h).2⟩, fun j f h => ?_, fun j f h => ?_, fun j l b f g h1 h2 h3 h4 => ?_, e.tab k.tab, fun j g hL h => (k.gs j g (by simpa using hL) (by first | exact (set_gsV h).2 | exact (set_gsO h).2)).gen old e.dk⟩, ⟨old, e.dk, e.al⟩⟩
  · by_cases hj : i = j
    · subst hj
      rw [List.getElem?_set_self hl] at h
      cases h
    · rw [List.getElem?_set_ne hj] at h ⊢
      obtain ⟨u, h1, h2⟩ := k.val j f h
      exact ⟨u, h1, h2.gen old e.dk⟩
  · by_cases hj : i = j
    · subst hj
      rw [List.getElem?_set_self hl] at h
      cases h
      exact ⟨a, by rw [List.getElem?_set_self (by rw [k.len]; exact hl)], hc.gen (fun _ q => q) (fun b o q n => ⟨q, fun x => n (ms b x)⟩) fun _ h => h, hz, hx, k.evo.fresh hn⟩
    · rw [List.getElem?_set_ne hj] at h ⊢
      obtain ⟨b, h1, h2, h3, h4⟩ := k.own j f h
      exact ⟨b, h1, h2.gen (fun o q => e.old b o q h3) old e.dk, h3, h4⟩
  · have own' : ∀ (j : Nat) (f : D), (env.set i (.own d))[j]? = some (.own f) → j ≠ i → env[j]? = some (.own f) := fun j f h hj => by rw [List.getElem?_set_ne (Ne.symm hj)] at h; exact h
    have no : ∀ (j : Nat) (f : D), env[j]? = some (.own f) → σ[j]? = some (some (V.ref a)) → False := fun j f h1 h2 => by
      obtain ⟨b, h3, h4, _⟩ := k.own j f h1
      rw [h2] at h3
      cases h3
      obtain ⟨o, h5⟩ := h4.some
      rw [hn] at h5
      cases h5
    by_cases hj : j = i
    · by_cases hl2 : l = i
      · rw [hj, hl2]
      · rw [hj, List.getElem?_set_self (by rw [k.len]; exact hl)] at h3
        cases h3
        rw [List.getElem?_set_ne (Ne.symm hl2)] at h4
        exact (no l g (own' l g h2 hl2) h4).elim
    · by_cases hl2 : l = i
      · rw [hl2, List.getElem?_set_self (by rw [k.len]; exact hl)] at h4
        cases h4
        rw [List.getElem?_set_ne (Ne.symm hj)] at h3
        exact (no j f (own' j f h1 hj) h3).elim
      · rw [List.getElem?_set_ne (Ne.symm hj)] at h3
        rw [List.getElem?_set_ne (Ne.symm hl2)] at h4
        exact k.inj j l b f g (own' j f h1 hj) (own' l g h2 hl2) h3 h4
/-- what a slot owns is changed -/
theorem Ok.mut (k : Ok z X H0 H σ env) {i : Nat} {a : Addr} {d d' : D} {o : HO} (hi : env[i]? = some (.own d)) (hs : σ[i]? = some (some (V.ref a))) (hc : Con z (Ms z X σ env) (upd H a o) a d') :
    Ok z X H0 (upd H a o) σ (env.set i (.own d')) ∧ Fr z X (Ms z X σ env) H (Ms z X σ (env.set i (.own d'))) (upd H a o) := by
  have hl : i < env.length := (List.getElem?_eq_some_iff.mp hi).1
  obtain ⟨a', hs', hc0, hz, hx, h0⟩ := k.own i d hi
  have ea : a' = a := by rw [hs] at hs'; cases hs'; rfl
  subst ea
  have ms : ∀ b, Ms z X σ (env.set i (.own d')) b → Ms z X σ env b := by
    rintro b (h | h | ⟨j, f, h1, h2⟩)
    · exact .inl h
    · exact .inr (.inl h)
    · by_cases hj : i = j
      · subst hj
        exact .inr (.inr ⟨i, d, hi, h2⟩)
      · rw [List.getElem?_set_ne hj] at h1
        exact .inr (.inr ⟨j, f, h1, h2⟩)
  have ain : Ms z X σ env a' := .inr (.inr ⟨i, d, hi, hs⟩)
  have old : ∀ b u, H b = some u → ¬ Ms z X σ env b → upd H a' o b = some u ∧ ¬ Ms z X σ (env.set i (.own d')) b := fun b u q n =>
    ⟨by rw [upd_ne (fun e => n (by rw [e]; exact ain))]; exact q, fun x => n (ms b x)⟩
  have dk : ∀ b, z.ok H b → z.ok (upd H a' o) b := fun b h => ok_mut hz h
  have al : ∀ b, H b ≠ none → upd H a' o b ≠ none := fun b h => by
    by_cases e : b = a'
    · rw [e, upd_same]; intro q; cases q
    · rw [upd_ne e]; exact h
  refine ⟨⟨by simp [k.len], k.evo.mut h0 hz hc0.nof, fun b h => al b (k.zal b h), fun b h => ⟨al b (k.xal b h).1, (k.xal b h).2⟩, fun j f h => ?_, fun j f h => ?_, fun j l b f g h1 h2 h3 h4 => ?_, k.tab.mut hz hc0.nof, fun j g hL h => (k.gs j g (by simpa using hL) (by first | exact (set_gsV h).2 | exact (set_gsO h).2)).gen old dk⟩, ⟨old, dk, al⟩⟩
  · by_cases hj : i = j
    · subst hj
      rw [List.getElem?_set_self hl] at h
      cases h
    · rw [List.getElem?_set_ne hj] at h
      obtain ⟨u, h1, h2⟩ := k.val j f h
      exact ⟨u, h1, h2.gen old dk⟩
  · by_cases hj : i = j
    · subst hj
      rw [List.getElem?_set_self hl] at h
      cases h
      exact ⟨a', hs, hc.gen (fun _ q => q) (fun b o q n => ⟨q, fun x => n (ms b x)⟩) fun _ h => h, hz, hx, h0⟩
    · rw [List.getElem?_set_ne hj] at h
      obtain ⟨b, h1, h2, h3, h4⟩ := k.own j f h
      have nb : b ≠ a' := fun e => hj (k.inj i j a' d f hi h hs (e ▸ h1))
      exact ⟨b, h1, h2.gen (fun o q => by rw [upd_ne nb]; exact q) old dk, h3, h4⟩
  · have un : ∀ (j : Nat) (f : D), (env.set i (.own d'))[j]? = some (.own f) → ∃ f', env[j]? = some (.own f') := fun j f h => by
      by_cases hj : i = j
      · subst hj; exact ⟨d, hi⟩
      · rw [List.getElem?_set_ne hj] at h; exact ⟨f, h⟩
    obtain ⟨f', h1'⟩ := un j f h1
    obtain ⟨g', h2'⟩ := un l g h2
    exact k.inj j l b f' g' h1' h2' h3 h4
end
end Pu
namespace Pu
open PySem PySem.Spec PyProof.Rows L2
variable [Tbs]
/-! == of data -/
mutual
def pd : D → PyData
  | .non => .none
  | .bl b => .bool b
  | .int i => .int i
  | .str s => .str s
  | .ty _ => .none
  | .tup xs => .tuple (pdA xs)
  | .lst xs => .list (pdA xs)
  | .dic _ => .none
  | .deck _ => .none
  | .dpr _ => .none
  | .dfz _ => .none
  | .st _ => .none
  | .bor _ => .none
  | .opq _ => .none
  | .xf _ _ _ _ => .none
  | .dpd _ => .none
  | .hd _ => .none
def pdA : List D → List PyData
  | [] => []
  | x :: xs => pd x :: pdA xs
end
mutual
/-- of None, truths, numbers, texts, tuples and lists, at most n deep -/
def shp : Nat → D → Bool
  | _, .non => true
  | _, .bl _ => true
  | _, .int _ => true
  | _, .str s => PyData.strOk s
  | 0, .tup _ => false
  | n + 1, .tup xs => shpA n xs
  | 0, .lst _ => false
  | n + 1, .lst xs => shpA n xs
  | _, .ty _ => false
  | _, .dic _ => false
  | _, .deck _ => false
  | _, .dpr _ => false
  | _, .dfz _ => false
  | _, .st _ => false
  | _, .bor _ => false
  | _, .opq _ => false
  | _, .xf _ _ _ _ => false
  | _, .dpd _ => false
  | _, .hd _ => false
def shpA : Nat → List D → Bool
  | _, [] => true
  | n, x :: xs => shp n x && shpA n xs
end
mutual
/-- the same without truths -/
def pln : Nat → D → Bool
  | _, .non => true
  | _, .bl _ => false
  | _, .int _ => true
  | _, .str s => PyData.strOk s
  | 0, .tup _ => false
  | n + 1, .tup xs => plnA n xs
  | 0, .lst _ => false
  | n + 1, .lst xs => plnA n xs
  | _, .ty _ => false
  | _, .dic _ => false
  | _, .deck _ => false
  | _, .dpr _ => false
  | _, .dfz _ => false
  | _, .st _ => false
  | _, .bor _ => false
  | _, .opq _ => false
  | _, .xf _ _ _ _ => false
  | _, .dpd _ => false
  | _, .hd _ => false
def plnA : Nat → List D → Bool
  | _, [] => true
  | n, x :: xs => pln n x && plnA n xs
end
mutual
theorem pln_shp : ∀ (n : Nat) (d : D), pln n d = true → shp n d = true
  | _, .non, _ => by simp [shp]
  | _, .bl _, h => by simp [pln] at h
  | _, .int _, _ => by simp [shp]
  | _, .str s, h => by simp only [pln] at h; simp only [shp]; exact h
  | 0, .tup _, h => by simp [pln] at h
  | n + 1, .tup xs, h => by simp only [pln] at h; simp only [shp]; exact plnA_shp n xs h
  | 0, .lst _, h => by simp [pln] at h
  | n + 1, .lst xs, h => by simp only [pln] at h; simp only [shp]; exact plnA_shp n xs h
  | _, .ty _, h => by simp [pln] at h
  | _, .dic _, h => by simp [pln] at h
  | _, .deck _, h => by simp [pln] at h
  | _, .dpr _, h => by simp [pln] at h
  | _, .dfz _, h => by simp [pln] at h
  | _, .st _, h => by simp [pln] at h
  | _, .bor _, h => by simp [pln] at h
  | _, .opq _, h => by simp [pln] at h
  | _, .xf _ _ _ _, h => by simp [pln] at h
  | _, .dpd _, h => by simp [pln] at h
  | _, .hd _, h => by simp [pln] at h
theorem plnA_shp : ∀ (n : Nat) (xs : List D), plnA n xs = true → shpA n xs = true
  | _, [], _ => by simp [shpA]
  | n, x :: xs, h => by
    simp only [plnA, Bool.and_eq_true] at h
    simp only [shpA, Bool.and_eq_true]
    exact ⟨pln_shp n x h.1, plnA_shp n xs h.2⟩
end
mutual
theorem shp_lay : ∀ (n : Nat) (d : D), shp n d = true → (pd d).canLay0 = true ∧ (pd d).depth ≤ n + 1
  | n, .non, _ => by simp [pd, PyData.canLay0, PyData.depth]
  | n, .bl _, h => by simp [pd, PyData.canLay0, PyData.depth]
  | n, .int _, _ => by simp [pd, PyData.canLay0, PyData.depth]
  | n, .str s, h => by simp only [shp] at h; simp [pd, PyData.canLay0, PyData.depth, h]
  | 0, .tup _, h => by simp [shp] at h
  | n + 1, .tup xs, h => by
    simp only [shp] at h
    have q := shp_layA n xs h
    simp only [pd, PyData.canLay0, PyData.depth, q.1, true_and]
    omega
  | 0, .lst _, h => by simp [shp] at h
  | n + 1, .lst xs, h => by
    simp only [shp] at h
    have q := shp_layA n xs h
    simp only [pd, PyData.canLay0, PyData.depth, q.1, true_and]
    omega
  | _, .ty _, h => by simp [shp] at h
  | _, .dic _, h => by simp [shp] at h
  | _, .deck _, h => by simp [shp] at h
  | _, .dpr _, h => by simp [shp] at h
  | _, .dfz _, h => by simp [shp] at h
  | _, .st _, h => by simp [shp] at h
  | _, .bor _, h => by simp [shp] at h
  | _, .opq _, h => by simp [shp] at h
  | _, .xf _ _ _ _, h => by simp [shp] at h
  | _, .dpd _, h => by simp [shp] at h
  | _, .hd _, h => by simp [shp] at h
theorem shp_layA : ∀ (n : Nat) (xs : List D), shpA n xs = true → PyData.canLayAll0 (pdA xs) = true ∧ PyData.depthAll (pdA xs) ≤ n + 1
  | n, [], _ => by simp [pdA, PyData.canLayAll0, PyData.depthAll]
  | n, x :: xs, h => by
    simp only [shpA, Bool.and_eq_true] at h
    have q := shp_lay n x h.1
    have r := shp_layA n xs h.2
    simp only [pdA, PyData.canLayAll0, PyData.depthAll, q.1, r.1, Bool.and_self, true_and]
    omega
end
theorem shaped_of {d : D} (h : shp 60 d = true) : SeqAt.shaped (pd d) = true := by
  have q := shp_lay 60 d h
  simp only [SeqAt.shaped, q.1, Bool.true_and, decide_eq_true_eq]
  omega
section
variable {z : Zn} {M : Addr → Prop} {H : Hp} {K : PySem.W.Frag}
mutual
theorem Is.dp : ∀ {v : V} {d : D} {n : Nat}, Is z M H v d → shp n d = true → Dp K H v (pd d)
  | _, _, _, .non, _ => by simp only [pd]; exact .non
  | _, _, _, .bl b, _ => by simp only [pd]; exact .bl b
  | _, _, _, .int b, _ => by simp only [pd]; exact .int b
  | _, _, _, .str b, _ => by simp only [pd]; exact .str b
  | _, _, _, .ty b, h => by simp [shp] at h
  | _, _, 0, .tup e _ r, h => by simp [shp] at h
  | _, _, n + 1, .tup e _ r, h => by simp only [pd]; exact .tup (SqT.of e) (IsA.dp r (by simpa only [shp] using h))
  | _, _, 0, .lst e _ r, h => by simp [shp] at h
  | _, _, n + 1, .lst e _ r, h => by simp only [pd]; exact .lst (SqL.of e) (IsA.dp r (by simpa only [shp] using h))
  | _, _, _, .dic _ _ _, h => by simp [shp] at h
  | _, _, _, .deck _, h => by simp [shp] at h
  | _, _, _, .dpr _ _, h => by simp [shp] at h
  | _, _, _, .dfz _ _, h => by simp [shp] at h
  | _, _, _, .st _ _ _, h => by simp [shp] at h
  | _, _, _, .bor _ _ _, h => by simp [shp] at h
  | _, _, _, .opq _, h => by simp [shp] at h
  | _, _, _, .xf _ _ _, h => by simp [shp] at h
  | _, _, _, .dpd _ _ _ _, h => by simp [shp] at h
  | _, _, _, .hd _, h => by simp [shp] at h
theorem IsA.dp : ∀ {vs : List V} {ds : List D} {n : Nat}, IsA z M H vs ds → shpA n ds = true → DpAll K H vs (pdA ds)
  | _, _, _, .nil, _ => by simp only [pdA]; exact .nil
  | _, _, _, .cons q t, h => by
    simp only [shpA, Bool.and_eq_true] at h
    simp only [pdA]
    exact .cons (Is.dp q h.1) (IsA.dp t h.2)
end
end
def eqvD (a b : D) : Bool := PyData.eqv (pd a) (pd b)
mutual
theorem eqv_iff : ∀ (n m : Nat) (a b : D), pln n a = true → pln m b = true → (PyData.eqv (pd a) (pd b) = true ↔ a = b)
  | n, m, a, b, ha, hb => by
    cases a with
    | non => cases b <;> simp_all [pd, PyData.eqv, pln]
    | bl _ => simp [pln] at ha
    | int i => cases b <;> simp_all [pd, PyData.eqv, pln]
    | str s => cases b <;> simp_all [pd, PyData.eqv, pln]
    | ty _ => simp [pln] at ha
    | dic _ => simp [pln] at ha
    | deck _ => simp [pln] at ha
    | dpr _ => simp [pln] at ha
    | dfz _ => simp [pln] at ha
    | st _ => simp [pln] at ha
    | bor _ => simp [pln] at ha
    | opq _ => simp [pln] at ha
    | xf _ _ _ _ => simp [pln] at ha
    | dpd _ => simp [pln] at ha
    | hd _ => simp [pln] at ha
    | tup xs =>
      cases b with
      | tup ys =>
        cases n with
        | zero => simp [pln] at ha
        | succ n =>
          cases m with
          | zero => simp [pln] at hb
          | succ m =>
            simp only [pln] at ha hb
            simp only [pd, PyData.eqv, D.tup.injEq]
            exact eqv_iffA n m xs ys ha hb
      | bl _ => simp [pln] at hb
      | _ => simp_all [pd, PyData.eqv, pln]
    | lst xs =>
      cases b with
      | lst ys =>
        cases n with
        | zero => simp [pln] at ha
        | succ n =>
          cases m with
          | zero => simp [pln] at hb
          | succ m =>
            simp only [pln] at ha hb
            simp only [pd, PyData.eqv, D.lst.injEq]
            exact eqv_iffA n m xs ys ha hb
      | bl _ => simp [pln] at hb
      | _ => simp_all [pd, PyData.eqv, pln]
theorem eqv_iffA : ∀ (n m : Nat) (a b : List D), plnA n a = true → plnA m b = true → (PyData.eqvAll (pdA a) (pdA b) = true ↔ a = b)
  | n, m, [], [], _, _ => by simp [pdA, PyData.eqvAll]
  | n, m, [], _ :: _, _, _ => by simp [pdA, PyData.eqvAll]
  | n, m, _ :: _, [], _, _ => by simp [pdA, PyData.eqvAll]
  | n, m, x :: xs, y :: ys, ha, hb => by
    simp only [plnA, Bool.and_eq_true] at ha hb
    simp only [pdA, PyData.eqvAll, Bool.and_eq_true, List.cons.injEq]
    rw [eqv_iff n m x y ha.1 hb.1, eqv_iffA n m xs ys ha.2 hb.2]
end
theorem eqvD_iff {a b : D} (ha : pln 60 a = true) (hb : pln 60 b = true) : eqvD a b = true ↔ a = b := eqv_iff 60 60 a b ha hb
end Pu
namespace Pu
open PySem PySem.Spec PyProof.Rows L2
variable [Tbs]
/-! readings without places -/
abbrev PX := List SV → (D → Prop) → Prop
abbrev PTs' := List SV → (Bool → Prop) → Prop
abbrev PAs := List SV → (List D → Prop) → Prop
/-- the zone and X -/
def Zx (z : Zn) (X : AP) : AP := fun a => z.Z a ∨ X a
/-- how an expression's value stands: f new and alone; e plain; c its parts plain; b for a look only -/
inductive Mode where | f | e | c | b
  deriving DecidableEq
def mutD : D → Bool
  | .lst _ => true
  | .dic _ => true
  | .dpr _ => true
  | .dpd _ => true
  | .st _ => true
  | _ => false
def Rel (m : Mode) (z : Zn) (X : AP) (H H' : Hp) (σ : Sl) (env : List SV) (v : V) (d : D) : Prop := match m with
  | .f => ∃ a, v = .ref a ∧ H a = none ∧ Con z (Ms z (X.or a) σ env) H' a d
  | .e => Is z (Ms z X σ env) H' v d
  | .c => Is z (Ms z X σ env) H' v d ∨ ∃ a, v = .ref a ∧ Con z (Ms z X σ env) H' a d ∧ ¬ Zx z X a ∧ mutD d = true
  | .b => Is z (Zx z X) H' v d
section
variable {z : Zn} {X : AP} {H0 H H1 H' : Hp} {σ : Sl} {env : List SV} {v : V} {d : D} {m : Mode}
theorem Zx.ms {a : Addr} (h : Zx z X a) : Ms z X σ env a := h.elim .inl fun q => .inr (.inl q)
theorem Ms.orL {a b : Addr} (h : Ms z X σ env b) : Ms z (X.or a) σ env b := by
  rcases h with h | h | h
  · exact .inl h
  · exact .inr (.inl (.inl h))
  · exact .inr (.inr h)
theorem Ok.notMs (k : Ok z X H0 H σ env) {a : Addr} (h : H a = none) : ¬ Ms z X σ env a := by
  rintro (q | q | ⟨i, d, q1, q2⟩)
  · exact k.zal a q h
  · exact (k.xal a q).1 h
  · obtain ⟨b, h1, h2, _⟩ := k.own i d q1
    rw [q2] at h1
    cases h1
    obtain ⟨o, h3⟩ := h2.some
    rw [h] at h3
    cases h3
theorem Rel.fe (k : Ok z X H0 H σ env) (h : Rel .f z X H H' σ env v d) : Rel .e z X H H' σ env v d := by
  obtain ⟨a, rfl, hn, hc⟩ := h
  exact (hc.gen (fun _ q => q) (fun b o q n => ⟨q, fun x => n x.orL⟩) fun _ h => h).is (k.notMs hn)
theorem Rel.ec (h : Rel .e z X H H' σ env v d) : Rel .c z X H H' σ env v d := .inl h
theorem Rel.cb (h : Rel .c z X H H' σ env v d) : Rel .b z X H H' σ env v d := by
  rcases h with h | ⟨a, rfl, hc, n, _⟩
  · exact Is.weak (fun a q => q.ms) h
  · exact (hc.gen (fun _ q => q) (fun b o q n => ⟨q, fun x => n x.ms⟩) fun _ h => h).is n
theorem Rel.eb (h : Rel .e z X H H' σ env v d) : Rel .b z X H H' σ env v d := h.ec.cb
theorem Rel.toB (k : Ok z X H0 H σ env) (h : Rel m z X H H' σ env v d) : Rel .b z X H H' σ env v d := by
  cases m with
  | f => exact (h.fe k).eb
  | e => exact h.eb
  | c => exact h.cb
  | b => exact h
/-- a later heap -/
theorem Rel.evo (k : Ok z X H0 H σ env) (e : Evo z H1 H') (h : Rel m z X H H1 σ env v d) (h0 : Evo z H H1) : Rel m z X H H' σ env v d := by
  cases m with
  | f =>
    obtain ⟨a, rfl, hn, hc⟩ := h
    refine ⟨a, rfl, hn, hc.gen (fun o q => e.old a o q fun x => ?_) (fun b o q n => ⟨e.old b o q fun x => n (.inl x), n⟩) e.dk⟩
    exact k.zal a x hn
  | e => exact Is.evo (fun _ q => .inl q) e h
  | c =>
    rcases h with h | ⟨a, rfl, hc, n, md⟩
    · exact .inl (Is.evo (fun _ q => .inl q) e h)
    · exact .inr ⟨a, rfl, hc.gen (fun o q => e.old a o q fun x => n (.inl x)) (fun b o q n => ⟨e.old b o q fun x => n (.inl x), n⟩) e.dk, n, md⟩
  | b => exact Is.evo (fun _ q => .inl q) e h
/-- a later start: for all but f -/
theorem Rel.later (hm : m ≠ .f) (h : Rel m z X H H' σ env v d) : Rel m z X H1 H' σ env v d := by
  cases m with
  | f => exact absurd rfl hm
  | _ => exact h
/-- an earlier start -/
theorem Rel.early (e : Evo z H H1) (h : Rel m z X H1 H' σ env v d) : Rel m z X H H' σ env v d := by
  cases m with
  | f => obtain ⟨a, rfl, hn, hc⟩ := h; exact ⟨a, rfl, e.fresh hn, hc⟩
  | e => exact h
  | c => exact h
  | b => exact h
end
def RE (m : Mode) (t : TE) (p : PX) : Prop := ∀ (z : Zn) (X : AP) (H0 H : Hp) (σ : Sl) (env : List SV) (Q : VK) (k : D → Prop), Ok z X H0 H σ env →
  (∀ d v H', Evo z H H' → Rel m z X H H' σ env v d → k d → Q v H') → p env k → t σ H Q
def RT (t : TT) (p : PTs') : Prop := ∀ (z : Zn) (X : AP) (H0 H : Hp) (σ : Sl) (env : List SV) (Q : Bool → Hp → Prop) (k : Bool → Prop), Ok z X H0 H σ env →
  (∀ b H', Evo z H H' → k b → Q b H') → p env k → t σ H Q
/-- arguments: plain (l = true), or for a look only -/
def RA (l : Bool) (t : TA) (p : PAs) : Prop := ∀ (z : Zn) (X : AP) (H0 H : Hp) (σ : Sl) (env : List SV) (Q : List V → Hp → Prop) (k : List D → Prop), Ok z X H0 H σ env →
  (∀ ds vs H', Evo z H H' → IsA z (if l = true then Ms z X σ env else Zx z X) H' vs ds → k ds → Q vs H') → p env k → t σ H Q
structure E (m : Mode) (C : Cx) (e : Expr) (p : PX) : Prop where
  ex : ∃ t, PE C e t ∧ RE m t p
structure T (C : Cx) (e : Expr) (p : PTs') : Prop where
  ex : ∃ t, PT C e t ∧ RT t p
structure W (C : Cx) (e : Expr) (p : PTs') : Prop where
  ex : ∃ t, PW C e t ∧ RT t p
structure A (l : Bool) (C : Cx) (es : List Expr) (p : PAs) : Prop where
  ex : ∃ t, PA C es t ∧ RA l t p
section
variable {C : Cx} {e a b : Expr} {p q : PX} {m m' : Mode} {pos : Pos}
theorem E.toB (h : E m C e p) : E .b C e p := by
  obtain ⟨t, h1, h2⟩ := h
  exact ⟨t, h1, fun z X H0 H σ env Q k o c hp => h2 z X H0 H σ env Q k o (fun d v H' ev r kd => c d v H' ev (r.toB o) kd) hp⟩
theorem E.fe (h : E .f C e p) : E .e C e p := by
  obtain ⟨t, h1, h2⟩ := h
  exact ⟨t, h1, fun z X H0 H σ env Q k o c hp => h2 z X H0 H σ env Q k o (fun d v H' ev r kd => c d v H' ev (r.fe o) kd) hp⟩
theorem E.ec (h : E .e C e p) : E .c C e p := by
  obtain ⟨t, h1, h2⟩ := h
  exact ⟨t, h1, fun z X H0 H σ env Q k o c hp => h2 z X H0 H σ env Q k o (fun d v H' ev r kd => c d v H' ev r.ec kd) hp⟩
/-! ### names, constants -/
def eC (d : D) : PX := fun _ k => k d
def eV (i : Nat) : PX := fun env k => match env[i]? with
  | some (.val d) => k d
  | _ => False
def eO (i : Nat) : PX := fun env k => match env[i]? with
  | some (.own (.lst xs)) => k (.lst xs)
  | some (.own (.dic xs)) => k (.dic xs)
  | some (.own (.dpr xs)) => k (.dpr xs)
  | some (.own (.dpd xs)) => k (.dpd xs)
  | some (.own (.st xs)) => k (.st xs)
  | some (.own (.bor xs)) => k (.lst xs)
  | _ => False
theorem re_c {v : V} {d : D} (h : ∀ z M H, Is z M H v d) : RE .e (tC v) (eC d) := fun z X H0 H σ env Q k o c hp => c d v H (Evo.refl _ _) (h _ _ _) hp
theorem e_int {i : Int} {j} : E .e C (.Constant (.int i) j pos) (eC (.int i)) := ⟨_, pe_int, re_c fun _ _ _ => .int i⟩
theorem e_bl {i : Bool} {j} : E .e C (.Constant (.bool i) j pos) (eC (.bl i)) := ⟨_, pe_bl, re_c fun _ _ _ => .bl i⟩
theorem e_non {j} : E .e C (.Constant .none j pos) (eC .non) := ⟨_, pe_non, re_c fun _ _ _ => .non⟩
theorem e_str {i : Str} {j} : E .e C (.Constant (.str i) j pos) (eC (.str i)) := ⟨_, pe_str, re_c fun _ _ _ => .str i⟩
theorem e_gint {x : Str} {i : Int} {t : Tok} (hg : Gl C x) (hm : C.mg x = some (.int i t)) (hd : (x == ("__debug__" : Str)) = false := by decide) : E .e C (.Name x pos) (eC (.int i)) := ⟨_, pe_glob (v := .int i) hg hm ⟨_, rfl⟩ hd, re_c fun _ _ _ => .int i⟩
theorem e_ty {x : Str} {n : String} (hg : Gl C x) (hm : C.mg x = none) (hv : bootBuiltins x = some (.type n)) (hn : x ≠ "__name__" := by decide) (hd : (x == ("__debug__" : Str)) = false := by decide) : E .e C (.Name x pos) (eC (.ty n)) :=
  ⟨_, pe_bltn (v := .ty n) hg hm hv rfl hn hd, re_c fun _ _ _ => .ty n⟩
theorem re_v (i : Nat) : RE .e (tVar i) (eV i) := fun z X H0 H σ env Q k o c hp => by
  unfold eV at hp
  split at hp
  · rename_i d he
    obtain ⟨v, h1, h2⟩ := o.val i d he
    exact ⟨v, h1, c d v H (Evo.refl _ _) h2 hp⟩
  · exact hp.elim
theorem re_o (i : Nat) : RE .c (tVar i) (eO i) := fun z X H0 H σ env Q k o c hp => by
  unfold eO at hp
  split at hp
  · rename_i xs he
    obtain ⟨a, h1, h2, h3, h4⟩ := o.own i _ he
    exact ⟨_, h1, c _ _ H (Evo.refl _ _) (.inr ⟨a, rfl, h2, fun q => q.elim h3 h4.1, rfl⟩) hp⟩
  · rename_i xs he
    obtain ⟨a, h1, h2, h3, h4⟩ := o.own i _ he
    exact ⟨_, h1, c _ _ H (Evo.refl _ _) (.inr ⟨a, rfl, h2, fun q => q.elim h3 h4.1, rfl⟩) hp⟩
  · rename_i xs he
    obtain ⟨a, h1, h2, h3, h4⟩ := o.own i _ he
    exact ⟨_, h1, c _ _ H (Evo.refl _ _) (.inr ⟨a, rfl, h2, fun q => q.elim h3 h4.1, rfl⟩) hp⟩
  · rename_i xs he
    obtain ⟨a, h1, h2, h3, h4⟩ := o.own i _ he
    exact ⟨_, h1, c _ _ H (Evo.refl _ _) (.inr ⟨a, rfl, h2, fun q => q.elim h3 h4.1, rfl⟩) hp⟩
  · rename_i xs he
    obtain ⟨a, h1, h2, h3, h4⟩ := o.own i _ he
    exact ⟨_, h1, c _ _ H (Evo.refl _ _) (.inr ⟨a, rfl, h2, fun q => q.elim h3 h4.1, rfl⟩) hp⟩
  · rename_i xs he
    obtain ⟨a, h1, h2, h3, h4⟩ := o.own i _ he
    exact ⟨_, h1, c (.lst xs) _ H (Evo.refl _ _) (.inr ⟨a, rfl, h2.2, fun q => q.elim h3 h4.1, rfl⟩) hp⟩
  · exact hp.elim
theorem e_v (i : Nat) {x : Str} (hN : C.N[i]? = some x := by rfl) (hv : Vis C.env.scope x := by first | exact Or.inl rfl | exact Or.inr (Or.inl rfl) | exact Or.inr (Or.inr rfl)) (hd : (x == ("__debug__" : Str)) = false := by decide)
    (hcd : (x == ("__classdict__" : Str)) = false := by decide) : E .e C (.Name x pos) (eV i) := ⟨_, pe_var hN hv hd hcd, re_v i⟩
theorem e_o (i : Nat) {x : Str} (hN : C.N[i]? = some x := by rfl) (hv : Vis C.env.scope x := by first | exact Or.inl rfl | exact Or.inr (Or.inl rfl) | exact Or.inr (Or.inr rfl)) (hd : (x == ("__debug__" : Str)) = false := by decide)
    (hcd : (x == ("__classdict__" : Str)) = false := by decide) : E .c C (.Name x pos) (eO i) := ⟨_, pe_var hN hv hd hcd, re_o i⟩
/-! ### operators, by values -/
/-- the pure operation g stands for r: operands of mode mi, the answer of mode mo -/
def OpD (mi mo : Mode) (r : R2) (g : D → D → (D → Prop) → Prop) : Prop := ∀ (z : Zn) (X : AP) (H0 H : Hp) (σ : Sl) (env : List SV) (v u : V) (x y : D) (Q : VK) (k : D → Prop), Ok z X H0 H σ env → Rel mi z X H H σ env v x → Rel mi z X H H σ env u y →
  (∀ d w H', Evo z H H' → Rel mo z X H H' σ env w d → k d → Q w H') → g x y k → r v u H Q
def eOp (g : D → D → (D → Prop) → Prop) (p q : PX) : PX := fun env k => p env fun x => q env fun y => g x y k
theorem RE.op {mi mo : Mode} {r : R2} {g : D → D → (D → Prop) → Prop} {ta tb : TE} (hm : mi ≠ .f) (ho : OpD mi mo r g) (ha : RE mi ta p) (hb : RE mi tb q) : RE mo (tOp r ta tb) (eOp g p q) := fun z X H0 H σ env Q k o c hp => by
  refine ha z X H0 H σ env _ _ o (fun x v H1 e1 r1 hp1 => ?_) hp
  refine hb z X H0 H1 σ env _ _ (o.go e1) (fun y u H2 e2 r2 hp2 => ?_) hp1
  refine ho z X H0 H2 σ env v u x y Q k ((o.go e1).go e2) ((r1.evo o e2 e1).later hm) (r2.later hm) (fun d w H3 e3 r3 kd => ?_) hp2
  exact c d w H3 (e1.trans (e2.trans e3)) (r3.early (e1.trans e2)) kd
theorem e_op {mi mo : Mode} {op : Operator} {r : R2} {g : D → D → (D → Prop) → Prop} (hr : OpR C (binaryOp op) r) (ho : OpD mi mo r g) (ha : E mi C a p) (hb : E mi C b q) (hm : mi ≠ .f := by decide) : E mo C (.BinOp a op b pos) (eOp g p q) := by
  obtain ⟨ta, a1, a2⟩ := ha
  obtain ⟨tb, b1, b2⟩ := hb
  exact ⟨_, pe_op hr a1 b1, RE.op hm ho a2 b2⟩
theorem e_cmp {mi mo : Mode} {op : CmpOp} {r : R2} {g : D → D → (D → Prop) → Prop} (hr : OpR C (compareOp op) r) (ho : OpD mi mo r g) (ha : E mi C a p) (hb : E mi C b q) (hk : behindInMarks op b = false) (hm : mi ≠ .f := by decide) : E mo C (.Compare a [op] [b] pos) (eOp g p q) := by
  obtain ⟨ta, a1, a2⟩ := ha
  obtain ⟨tb, b1, b2⟩ := hb
  exact ⟨_, pe_cmpR hr a1 b1 hk, RE.op hm ho a2 b2⟩
/-- a value that is a truth, as a test -/
def blK (d : D) (k : Bool → Prop) : Prop := match d with
  | .bl b => k b
  | _ => False
def tOf (p : PX) : PTs' := fun env k => p env fun d => blK d k
theorem RT.of {t : TE} (h : RE .b t p) : RT (tTest t) (tOf p) := fun z X H0 H σ env Q k o c hp => by
  refine h z X H0 H σ env _ _ o (fun d v H' e r hd => ?_) hp
  cases d with
  | bl b =>
    cases (show Is z _ H' v (.bl b) from r)
    exact ⟨b, rfl, c b H' e hd⟩
  | _ => exact (show False from hd).elim
theorem t_cmp {mi : Mode} {op : CmpOp} {r : R2} {g : D → D → (D → Prop) → Prop} (hr : OpR C (compareOp op) r) (ho : OpD mi .b r g) (ha : E mi C a p) (hb : E mi C b q) (hk : behindInMarks op b = false) (hm : mi ≠ .f := by decide) : T C (.Compare a [op] [b] pos) (tOf (eOp g p q)) := by
  obtain ⟨ta, a1, a2⟩ := ha
  obtain ⟨tb, b1, b2⟩ := hb
  exact ⟨_, pt_cmpR hr a1 b1 hk, RT.of (RE.op hm ho a2 b2)⟩
theorem t_val (h : E m C e p) (he : ∀ whole, isTrue e C.env whole = (do let v ← whole; standAt e.pos; holding [v] (truthy v)) := by intro _; rfl) : T C e (tOf p) := by
  obtain ⟨t, h1, h2⟩ := h.toB
  exact ⟨_, pt_val h1 he, RT.of h2⟩
/-- a op b op' c -/
def bCase (d : D) (A B : Prop) : Prop := match d with
  | .bl true => A
  | .bl false => B
  | _ => False
def eChain (g g' : D → D → (D → Prop) → Prop) (p q r : PX) : PX := fun env k => p env fun x => q env fun y => g x y fun w => bCase w (r env fun u => g' y u k) (k (.bl false))
theorem RE.chain {s : PX} {r r' : R2} {g g' : D → D → (D → Prop) → Prop} {ta tb tc : TE} (ho : OpD .b .b r g) (ho' : OpD .b .e r' g') (ha : RE .b ta p) (hb : RE .b tb q) (hc : RE .b tc s) : RE .e (tChain r r' ta tb tc) (eChain g g' p q s) := fun z X H0 H σ env Q k o c hp => by
  refine ha z X H0 H σ env _ _ o (fun x v H1 e1 r1 hp1 => ?_) hp
  refine hb z X H0 H1 σ env _ _ (o.go e1) (fun y u H2 e2 r2 hp2 => ?_) hp1
  have o2 := (o.go e1).go e2
  refine ho z X H0 H2 σ env v u x y _ _ o2 ((r1.evo o e2 e1).later (by decide)) (r2.later (by decide)) (fun d w H3 e3 r3 kd => ?_) hp2
  cases d with
  | bl b =>
    cases (show Is z _ H3 w (.bl b) from r3)
    refine ⟨b, rfl, ?_⟩
    cases b with
    | false =>
      rw [if_neg Bool.false_ne_true]
      exact c _ _ H3 (e1.trans (e2.trans e3)) (Is.bl false) kd
    | true =>
      rw [if_pos rfl]
      refine hc z X H0 H3 σ env _ _ (o2.go e3) (fun l w H4 e4 r4 hp4 => ?_) kd
      refine ho' z X H0 H4 σ env u w y l Q k ((o2.go e3).go e4) ((r2.evo (o.go e1) (e3.trans e4) e2).later (by decide)) (r4.later (by decide)) (fun d x H5 e5 r5 kd => ?_) hp4
      exact c d x H5 (e1.trans (e2.trans (e3.trans (e4.trans e5)))) r5 kd
  | _ => exact (show False from kd).elim
theorem t_chain {c : Expr} {s : PX} {op op' : CmpOp} {r r' : R2} {g g' : D → D → (D → Prop) → Prop} (hr : OpR C (compareOp op) r) (hr' : OpR C (compareOp op') r') (ho : OpD .b .b r g) (ho' : OpD .b .e r' g') (ha : E .b C a p) (hb : E .b C b q) (hc : E .b C c s)
    (hm : lastMarks [op, op'] [b, c] = false := by with_unfolding_all rfl) : T C (.Compare a [op, op'] [b, c] pos) (tOf (eChain g g' p q s)) := by
  obtain ⟨ta, a1, a2⟩ := ha
  obtain ⟨tb, b1, b2⟩ := hb
  obtain ⟨tc, c1, c2⟩ := hc
  exact ⟨_, pt_chain hr hr' a1 b1 c1 hm, RT.of (fun z X H0 H σ env Q k o c hp => RE.chain ho ho' a2 b2 c2 z X H0 H σ env Q k o (fun d v H' ev r kd => c d v H' ev r.eb kd) hp)⟩
/-! whole numbers -/
def dII (Cc : Int → Int → Prop) (g : Int → Int → D) : D → D → (D → Prop) → Prop := fun x y k => match x, y with
  | .int i, .int j => Cc i j ∧ k (g i j)
  | _, _ => False
def dI0 (g : Int → Int → D) : D → D → (D → Prop) → Prop := fun x y k => match x, y with
  | .int i, .int j => k (g i j)
  | _, _ => False
theorem Is.intI {z : Zn} {M : AP} {H : Hp} {v : V} {i : Int} (h : Is z M H v (.int i)) : v = .int i := by cases h; rfl
theorem opd_II {Cc : Int → Int → Prop} {g : Int → Int → D} {g' : Int → Int → V} (h : ∀ i j z M H, Is z M H (g' i j) (g i j)) : OpD .b .e (rI Cc g') (dII Cc g) := fun z X H0 H σ env v u x y Q k o r1 r2 c hp => by
  cases x with
  | int i =>
    cases y with
    | int j => exact ⟨i, j, Is.intI r1, Is.intI r2, hp.1, c _ _ H (Evo.refl _ _) (h i j _ _ _) hp.2⟩
    | _ => exact (show False from hp).elim
  | _ => exact (show False from hp).elim
theorem opd_I0 {g : Int → Int → D} {g' : Int → Int → V} (h : ∀ i j z M H, Is z M H (g' i j) (g i j)) : OpD .b .e (rI0 g') (dI0 g) := fun z X H0 H σ env v u x y Q k o r1 r2 c hp => by
  cases x with
  | int i =>
    cases y with
    | int j => exact ⟨i, j, Is.intI r1, Is.intI r2, c _ _ H (Evo.refl _ _) (h i j _ _ _) hp⟩
    | _ => exact (show False from hp).elim
  | _ => exact (show False from hp).elim
theorem OpD.eb {mi : Mode} {r : R2} {g : D → D → (D → Prop) → Prop} (h : OpD mi .e r g) : OpD mi .b r g := fun z X H0 H σ env v u x y Q k o r1 r2 c hp => h z X H0 H σ env v u x y Q k o r1 r2 (fun d w H' e r kd => c d w H' e r.eb kd) hp
abbrev dSub := dI0 fun i j => .int (i - j)
abbrev dMul := dII CMul fun i j => .int (i * j)
abbrev dDiv := dII CDiv fun i j => .int (i / j)
abbrev dMod := dII (fun _ j => 0 < j) fun i j => .int (i % j)
abbrev dPow := dII CPow fun i j => .int (i ^ j.toNat)
abbrev dLt := dI0 fun i j => .bl (decide (i < j))
abbrev dLe := dI0 fun i j => .bl (decide (i ≤ j))
abbrev dGt := dI0 fun i j => .bl (decide (j < i))
abbrev dGe := dI0 fun i j => .bl (decide (j ≤ i))
theorem opd_sub : OpD .b .e (rI0 fun i j => .int (i - j)) dSub := opd_I0 fun i j _ _ _ => .int _
theorem opd_mul : OpD .b .e (rI CMul fun i j => .int (i * j)) dMul := opd_II fun i j _ _ _ => .int _
theorem opd_div : OpD .b .e (rI CDiv fun i j => .int (i / j)) dDiv := opd_II fun i j _ _ _ => .int _
theorem opd_mod : OpD .b .e (rI (fun _ j => 0 < j) fun i j => .int (i % j)) dMod := opd_II fun i j _ _ _ => .int _
theorem opd_pow : OpD .b .e (rI CPow fun i j => .int (i ^ j.toNat)) dPow := opd_II fun i j _ _ _ => .int _
theorem opd_lt : OpD .b .e (rI0 fun i j => .bl (decide (i < j))) dLt := opd_I0 fun i j _ _ _ => .bl _
theorem opd_le : OpD .b .e (rI0 fun i j => .bl (decide (i ≤ j))) dLe := opd_I0 fun i j _ _ _ => .bl _
theorem opd_gt : OpD .b .e (rI0 fun i j => .bl (decide (j < i))) dGt := opd_I0 fun i j _ _ _ => .bl _
theorem opd_ge : OpD .b .e (rI0 fun i j => .bl (decide (j ≤ i))) dGe := opd_I0 fun i j _ _ _ => .bl _
def eUn (g : D → (D → Prop) → Prop) (p : PX) : PX := fun env k => p env fun x => g x k
def dNeg : D → (D → Prop) → Prop := fun x k => match x with
  | .int i => k (.int (-i))
  | _ => False
theorem e_neg (ha : E m C a p) : E .e C (.UnaryOp .USub a pos) (eUn dNeg p) := by
  obtain ⟨t, h1, h2⟩ := ha.toB
  refine ⟨_, pe_un un_neg h1, fun z X H0 H σ env Q k o c hp => h2 z X H0 H σ env _ _ o (fun d v H' e r hd => ?_) hp⟩
  cases d with
  | int i => exact ⟨i, Is.intI r, c _ _ H' e (Is.int _) hd⟩
  | _ => exact (show False from hd).elim
end
/-! + -/
/-- of two rules one -/
theorem opr_or {C : Cx} {f : Value → Value → Sem Value} {r r' : R2} (h : OpR C f r) (h' : OpR C f r') : OpR C f (fun x y H Q => r x y H Q ∨ r' x y H Q) := fun pins s σ H x y v u Q I rx ry q => q.elim (h pins s σ H x y v u Q I rx ry) (h' pins s σ H x y v u Q I rx ry)
def rAddA (K : PySem.W.Frag) : R2 := fun x y H Q => (rI0 fun i j => .int (i + j)) x y H Q ∨ (rCatA K x y H Q ∨ (rCat x y H Q ∨ (∃ i j, x = .str i ∧ y = .str j ∧ i.length + j.length ≤ sizeLine ∧ Q (.str (i ++ j)) H)))
theorem op_addA {C : Cx} : OpR C (binaryOp .Add) (rAddA C.K) := opr_or op_add (opr_or op_catA (opr_or op_cat op_add_str))
def dAdd : D → D → (D → Prop) → Prop := fun x y k => match x, y with
  | .int i, .int j => k (.int (i + j))
  | .tup xs, .tup ys => xs.length + ys.length ≤ 100000 ∧ k (.tup (xs ++ ys))
  | .lst xs, .lst ys => xs.length + ys.length ≤ 100000 ∧ k (.lst (xs ++ ys))
  | .str xs, .str ys => xs.length + ys.length ≤ 100000 ∧ k (.str (xs ++ ys))
  | _, _ => False
theorem sz {n : Nat} (h : n ≤ 100000) : n ≤ sizeLine := Nat.le_trans h (by decide)
section
variable {z : Zn} {X : AP} {H0 H H1 H' : Hp} {σ : Sl} {env : List SV} {v : V} {d : D} {m : Mode} {M : AP}
theorem Rel.conT {xs : List D} (h : Rel .c z X H H' σ env v (.tup xs)) : ∃ a vs, v = .ref a ∧ H' a = some (.tup vs) ∧ IsA z (Ms z X σ env) H' vs xs ∧ ¬ Ms z X σ env a := by
  rcases h with h | ⟨a, rfl, ⟨vs, e, r⟩, n, md⟩
  · cases h with
    | tup e n r => exact ⟨_, _, rfl, e, r, n⟩
  · cases md
theorem Rel.conL {xs : List D} (h : Rel .c z X H H' σ env v (.lst xs)) : ∃ a vs, v = .ref a ∧ H' a = some (.lst vs) ∧ IsA z (Ms z X σ env) H' vs xs ∧ ¬ Zx z X a := by
  rcases h with h | ⟨a, rfl, ⟨vs, e, r⟩, n, md⟩
  · cases h with
    | lst e n r => exact ⟨_, _, rfl, e, r, fun q => n q.ms⟩
  · exact ⟨a, vs, rfl, e, r, n⟩
theorem Rel.strC {s : Str} (h : Rel .c z X H H' σ env v (.str s)) : v = .str s := by
  rcases h with h | ⟨a, _, hc, _⟩
  · cases h; rfl
  · exact hc.elim
theorem Rel.intC {s : Int} (h : Rel .c z X H H' σ env v (.int s)) : v = .int s := by
  rcases h with h | ⟨a, _, hc, _⟩
  · cases h; rfl
  · exact hc.elim
/-- parts of something that stood ahead of a new thing at a -/
theorem IsA.newer {a : Addr} {o : HO} {vs : List V} {ds : List D} (ha : H a = none) (h : IsA z (Ms z X σ env) H vs ds) : IsA z (Ms z (X.or a) σ env) (upd H a o) vs ds :=
  h.gen (fun b u q n => ⟨by rw [upd_ne (ne_of_none q ha)]; exact q, fun x => by
    rcases x with x | (x | x) | x
    · exact n (.inl x)
    · exact n (.inr (.inl x))
    · rw [x, ha] at q; cases q
    · exact n (.inr (.inr x))⟩) fun _ h => ok_new ha h
theorem Rel.newL {a : Addr} {vs : List V} {ds : List D} (hn : H a = none) (ha : H' a = none) (h : IsA z (Ms z X σ env) H' vs ds) : Rel .f z X H (upd H' a (.lst vs)) σ env (.ref a) (.lst ds) :=
  ⟨a, rfl, hn, vs, upd_same, h.newer ha⟩
theorem Rel.newT {a : Addr} {vs : List V} {ds : List D} (hn : H a = none) (ha : H' a = none) (h : IsA z (Ms z X σ env) H' vs ds) : Rel .f z X H (upd H' a (.tup vs)) σ env (.ref a) (.tup ds) :=
  ⟨a, rfl, hn, vs, upd_same, h.newer ha⟩
end
theorem opd_add {K : PySem.W.Frag} : OpD .c .e (rAddA K) dAdd := fun z X H0 H σ env v u x y Q k o r1 r2 c hp => by
  cases x with
  | int i =>
    cases y with
    | int j => exact .inl ⟨i, j, r1.intC, r2.intC, c _ _ H (Evo.refl _ _) (Is.int _) hp⟩
    | _ => exact (show False from hp).elim
  | str i =>
    cases y with
    | str j => exact .inr (.inr (.inr ⟨i, j, r1.strC, r2.strC, sz hp.1, c _ _ H (Evo.refl _ _) (Is.str _) hp.2⟩))
    | _ => exact (show False from hp).elim
  | tup xs =>
    cases y with
    | tup ys =>
      obtain ⟨a, vs, e1, h1, i1, n1⟩ := r1.conT
      obtain ⟨b, us, e2, h2, i2, n2⟩ := r2.conT
      subst e1 e2
      have l1 := i1.length
      have l2 := i2.length
      refine .inr (.inl ⟨a, b, vs, us, rfl, rfl, SqT.of h1, SqT.of h2, sz (by rw [l1, l2]; exact hp.1), fun e => ?_, fun e1 e => ?_, fun e1 e2 q hq => ?_⟩)
      · subst e
        cases i1
        exact c _ _ H (Evo.refl _ _) (Is.tup h2 n2 i2) hp.2
      · subst e
        cases i2
        have hp2 := hp.2
        rw [List.append_nil] at hp2
        exact c _ _ H (Evo.refl _ _) (Is.tup h1 n1 i1) hp2
      · exact c _ _ _ ((Evo.refl _ _).new hq) ((Rel.newT hq hq (i1.append i2)).fe o) hp.2
    | _ => exact (show False from hp).elim
  | lst xs =>
    cases y with
    | lst ys =>
      obtain ⟨a, vs, e1, h1, i1, n1⟩ := r1.conL
      obtain ⟨b, us, e2, h2, i2, n2⟩ := r2.conL
      subst e1 e2
      refine .inr (.inr (.inl ⟨a, b, vs, us, rfl, rfl, h1, h2, sz (by rw [i1.length, i2.length]; exact hp.1), fun q hq => ?_⟩))
      exact c _ _ _ ((Evo.refl _ _).new hq) ((Rel.newL hq hq (i1.append i2)).fe o) hp.2
    | _ => exact (show False from hp).elim
  | _ => exact (show False from hp).elim
end Pu
namespace Pu
open PySem PySem.Spec PyProof.Rows L2
variable [Tbs]
section
variable {C : Cx} {e a b : Expr} {p q : PX} {m m' : Mode} {pos : Pos}
/-! ### ==, in, is -/
def EqV (x y : D) (c : Bool) : Prop := shp 60 x = true ∧ shp 60 y = true ∧ eqvD x y = c
def dEq : D → D → (D → Prop) → Prop := fun x y k => ∃ c, EqV x y c ∧ k (.bl c)
def dNe : D → D → (D → Prop) → Prop := fun x y k => ∃ c, EqV x y c ∧ k (.bl (!c))
theorem opd_eq {K : PySem.W.Frag} : OpD .b .e (rEqD K) dEq := fun z X H0 H σ env v u x y Q k o r1 r2 c hp => by
  obtain ⟨b, ⟨h1, h2, h3⟩, hk⟩ := hp
  exact ⟨_, _, Is.dp r1 h1, Is.dp r2 h2, shaped_of h1, shaped_of h2, by rw [show PyData.eqv (pd x) (pd y) = b from h3]; exact c _ _ H (Evo.refl _ _) (Is.bl _) hk⟩
theorem opd_ne {K : PySem.W.Frag} : OpD .b .e (rNeD K) dNe := fun z X H0 H σ env v u x y Q k o r1 r2 c hp => by
  obtain ⟨b, ⟨h1, h2, h3⟩, hk⟩ := hp
  exact ⟨_, _, Is.dp r1 h1, Is.dp r2 h2, shaped_of h1, shaped_of h2, by rw [show PyData.eqv (pd x) (pd y) = b from h3]; exact c _ _ H (Evo.refl _ _) (Is.bl _) hk⟩
def dIs (neg : Bool) : D → D → (D → Prop) → Prop := fun x y k => match x, y with
  | .non, .non => k (.bl (neg ^^ true))
  | .bl a, .bl b => k (.bl (neg ^^ decide (a = b)))
  | _, .non => k (.bl neg)
  | _, _ => False
def rIsA : R2 := fun x y H Q => (y = .non ∧ Q (.bl (decide (x = .non))) H) ∨ (∃ a b, x = .bl a ∧ y = .bl b ∧ Q (.bl (decide (a = b))) H)
def rIsNA : R2 := fun x y H Q => (y = .non ∧ Q (.bl (!decide (x = .non))) H) ∨ (∃ a b, x = .bl a ∧ y = .bl b ∧ Q (.bl (!decide (a = b))) H)
theorem op_isA : OpR C (compareOp .Is) rIsA := opr_or op_isN op_is_bl
theorem op_isNA : OpR C (compareOp .IsNot) rIsNA := opr_or op_notN op_isnot_bl
theorem Is.notNon {z : Zn} {M : AP} {H : Hp} {v : V} {d : D} (h : Is z M H v d) (hd : d ≠ .non) : v ≠ .non := by
  cases h <;> first | exact absurd rfl hd | (intro q; cases q)
theorem opd_is : OpD .b .e rIsA (dIs false) := fun z X H0 H σ env v u x y Q k o r1 r2 c hp => by
  cases y with
  | non =>
    cases (show Is z _ H u .non from r2)
    refine .inl ⟨rfl, ?_⟩
    by_cases hx : x = .non
    · subst hx
      cases (show Is z _ H v .non from r1)
      exact c _ _ H (Evo.refl _ _) (Is.bl _) hp
    · rw [decide_eq_false (Is.notNon r1 hx)]
      refine c (.bl false) _ H (Evo.refl _ _) (Is.bl _) ?_
      cases x <;> first | exact absurd rfl hx | exact hp
  | bl b =>
    cases x with
    | bl a =>
      cases (show Is z _ H u _ from r2)
      cases (show Is z _ H v _ from r1)
      exact .inr ⟨a, b, rfl, rfl, c _ _ H (Evo.refl _ _) (Is.bl _) (by simpa [dIs] using hp)⟩
    | _ => exact (show False from hp).elim
  | _ => cases x <;> exact (show False from hp).elim
theorem opd_isN : OpD .b .e rIsNA (dIs true) := fun z X H0 H σ env v u x y Q k o r1 r2 c hp => by
  cases y with
  | non =>
    cases (show Is z _ H u .non from r2)
    refine .inl ⟨rfl, ?_⟩
    by_cases hx : x = .non
    · subst hx
      cases (show Is z _ H v .non from r1)
      exact c _ _ H (Evo.refl _ _) (Is.bl _) hp
    · rw [decide_eq_false (Is.notNon r1 hx)]
      refine c (.bl true) _ H (Evo.refl _ _) (Is.bl _) ?_
      cases x <;> first | exact absurd rfl hx | exact hp
  | bl b =>
    cases x with
    | bl a =>
      cases (show Is z _ H u _ from r2)
      cases (show Is z _ H v _ from r1)
      exact .inr ⟨a, b, rfl, rfl, c _ _ H (Evo.refl _ _) (Is.bl _) (by simpa [dIs] using hp)⟩
    | _ => exact (show False from hp).elim
  | _ => cases x <;> exact (show False from hp).elim
/-- a number among numbers -/
def intsD : List D → Option (List Int)
  | [] => some []
  | .int i :: r => (intsD r).map (i :: ·)
  | _ => none
theorem intsD_eq : ∀ {ds : List D} {ns : List Int}, intsD ds = some ns → ds = ns.map D.int
  | [], _, h => by cases h; rfl
  | .int i :: r, ns, h => by
    unfold intsD at h
    cases e : intsD r with
    | none => rw [e] at h; cases h
    | some z => rw [e] at h; cases h; rw [intsD_eq e]; rfl
  | .non :: _, _, h => by cases h
  | .bl _ :: _, _, h => by cases h
  | .str _ :: _, _, h => by cases h
  | .ty _ :: _, _, h => by cases h
  | .tup _ :: _, _, h => by cases h
  | .lst _ :: _, _, h => by cases h
  | .dic _ :: _, _, h => by cases h
  | .deck _ :: _, _, h => by cases h
  | .dpr _ :: _, _, h => by cases h
  | .dfz _ :: _, _, h => by cases h
  | .st _ :: _, _, h => by cases h
  | .bor _ :: _, _, h => by cases h
  | .dpd _ :: _, _, h => by cases h
  | .hd _ :: _, _, h => by cases h
theorem intsD_map : ∀ ns : List Int, intsD (ns.map D.int) = some ns
  | [] => rfl
  | n :: ns => by show (intsD (ns.map D.int)).map (n :: ·) = _; rw [intsD_map ns]; rfl
/-! ### tests, and, or, not, if -/
variable {s t : PTs'} {rest : List Expr}
def tAndP (s t : PTs') : PTs' := fun env k => s env fun x => if x = true then t env k else k false
def tOrP (s t : PTs') : PTs' := fun env k => s env fun x => if x = true then k true else t env k
def tNotP (s : PTs') : PTs' := fun env k => s env fun x => k (!x)
theorem w_t (h : W C e s) : T C e s := let ⟨t, h1, h2⟩ := h; ⟨t, h1.pt, h2⟩
theorem w_and1 (h : T C a s) : W C (.BoolOp .And [a] pos) s := let ⟨t, h1, h2⟩ := h; ⟨t, pw_and1 h1, h2⟩
theorem w_or1 (h : T C a s) : W C (.BoolOp .Or [a] pos) s := let ⟨t, h1, h2⟩ := h; ⟨t, pw_or1 h1, h2⟩
theorem w_and (h : T C a s) (g : W C (.BoolOp .And (b :: rest) pos) t) : W C (.BoolOp .And (a :: b :: rest) pos) (tAndP s t) := by
  obtain ⟨t1, h1, h2⟩ := h
  obtain ⟨t2, g1, g2⟩ := g
  refine ⟨_, pw_and h1 g1, fun z X H0 H σ env Q k o c hp => h2 z X H0 H σ env _ _ o (fun x H1 e1 hx => ?_) hp⟩
  cases x with
  | true => exact g2 z X H0 H1 σ env Q k (o.go e1) (fun y H2 e2 hy => c y H2 (e1.trans e2) hy) hx
  | false => exact c false H1 e1 hx
theorem w_or (h : T C a s) (g : W C (.BoolOp .Or (b :: rest) pos) t) : W C (.BoolOp .Or (a :: b :: rest) pos) (tOrP s t) := by
  obtain ⟨t1, h1, h2⟩ := h
  obtain ⟨t2, g1, g2⟩ := g
  refine ⟨_, pw_or h1 g1, fun z X H0 H σ env Q k o c hp => h2 z X H0 H σ env _ _ o (fun x H1 e1 hx => ?_) hp⟩
  cases x with
  | false => exact g2 z X H0 H1 σ env Q k (o.go e1) (fun y H2 e2 hy => c y H2 (e1.trans e2) hy) hx
  | true => exact c true H1 e1 hx
theorem t_not (h : T C a s) : T C (.UnaryOp .Not a pos) (tNotP s) := by
  obtain ⟨t1, h1, h2⟩ := h
  exact ⟨_, pt_not h1, fun z X H0 H σ env Q k o c hp => h2 z X H0 H σ env _ _ o (fun x H1 e1 hx => c _ H1 e1 hx) hp⟩
/-- values -/
def eAnd (p q : PX) : PX := fun env k => p env fun x => bCase x (q env k) (k (.bl false))
def eOr (p q : PX) : PX := fun env k => p env fun x => bCase x (k (.bl true)) (q env k)
def dNot : D → (D → Prop) → Prop := fun x k => match x with
  | .bl c => k (.bl (!c))
  | _ => False
theorem e_one {op} (h : E m C a p) : E m C (.BoolOp op [a] pos) p := let ⟨t, h1, h2⟩ := h; ⟨t, pe_one h1, h2⟩
theorem e_and (h : E m C a p) (g : E .e C (.BoolOp .And (b :: rest) pos) q) : E .e C (.BoolOp .And (a :: b :: rest) pos) (eAnd p q) := by
  obtain ⟨t1, h1, h2⟩ := h.toB
  obtain ⟨t2, g1, g2⟩ := g
  refine ⟨_, pe_and h1 g1, fun z X H0 H σ env Q k o c hp => h2 z X H0 H σ env _ _ o (fun d v H1 e1 r1 hx => ?_) hp⟩
  cases d with
  | bl x =>
    cases (show Is z _ H1 v _ from r1)
    refine ⟨x, rfl, ?_⟩
    cases x with
    | true => rw [if_pos rfl]; exact g2 z X H0 H1 σ env Q k (o.go e1) (fun d v H2 e2 r2 hy => c d v H2 (e1.trans e2) r2 hy) hx
    | false => rw [if_neg Bool.false_ne_true]; exact c _ _ H1 e1 (Is.bl _) hx
  | _ => exact (show False from hx).elim
theorem e_not (h : E m C a p) : E .e C (.UnaryOp .Not a pos) (eUn dNot p) := by
  obtain ⟨t1, h1, h2⟩ := h.toB
  refine ⟨_, pe_not h1, fun z X H0 H σ env Q k o c hp => h2 z X H0 H σ env _ _ o (fun d v H1 e1 r1 hx => ?_) hp⟩
  cases d with
  | bl x =>
    cases (show Is z _ H1 v _ from r1)
    exact ⟨x, rfl, c _ _ H1 e1 (Is.bl _) hx⟩
  | _ => exact (show False from hx).elim
def eIf (s : PTs') (p q : PX) : PX := fun env k => s env fun x => if x = true then p env k else q env k
theorem e_if {c : Expr} (h : T C c s) (ha : E .e C a p) (hb : E .e C b q) : E .e C (.IfExp c a b pos) (eIf s p q) := by
  obtain ⟨t, h1, h2⟩ := h
  obtain ⟨ta, a1, a2⟩ := ha
  obtain ⟨tb, b1, b2⟩ := hb
  refine ⟨_, pe_ifExp h1 a1 b1, fun z X H0 H σ env Q k o c hp => h2 z X H0 H σ env _ _ o (fun x H1 e1 hx => ?_) hp⟩
  cases x with
  | true => exact a2 z X H0 H1 σ env Q k (o.go e1) (fun d v H2 e2 r2 hy => c d v H2 (e1.trans e2) r2 hy) hx
  | false => exact b2 z X H0 H1 σ env Q k (o.go e1) (fun d v H2 e2 r2 hy => c d v H2 (e1.trans e2) r2 hy) hx
theorem IsA.isEmpty {z : Zn} {M : AP} {H : Hp} {vs : List V} {ds : List D} (h : IsA z M H vs ds) : ds.isEmpty = vs.isEmpty := by cases h <;> rfl
/-! ### arguments, displays -/
variable {es : List Expr} {l : Bool} {g : PAs}
def lm : Bool → Mode
  | true => .e
  | false => .b
def aNil : PAs := fun _ k => k []
def aCons (p : PX) (g : PAs) : PAs := fun env k => p env fun x => g env fun xs => k (x :: xs)
theorem a_nil : A l C [] aNil := ⟨_, pa_nil, fun z X H0 H σ env Q k o c hp => c [] [] H (Evo.refl _ _) .nil hp⟩
theorem a_cons (h : E (lm l) C e p) (hr : A l C es g) (hs : starEach (e :: es) C.env = (false, eval e C.env) :: starEach es C.env := by rfl) : A l C (e :: es) (aCons p g) := by
  obtain ⟨t, h1, h2⟩ := h
  obtain ⟨u, g1, g2⟩ := hr
  refine ⟨_, pa_cons h1 g1 hs, fun z X H0 H σ env Q k o c hp => h2 z X H0 H σ env _ _ o (fun d v H1 e1 r1 hx => ?_) hp⟩
  refine g2 z X H0 H1 σ env _ _ (o.go e1) (fun ds vs H2 e2 r2 hy => c (d :: ds) (v :: vs) H2 (e1.trans e2) (.cons ?_ r2) hy) hx
  cases l with
  | true => exact Is.evo (fun _ q => .inl q) e2 r1
  | false => exact Is.evo (fun _ q => .inl q) e2 r1
def eTup (g : PAs) : PX := fun env k => g env fun xs => xs.length ≤ 100000 ∧ k (.tup xs)
def eLst (g : PAs) : PX := fun env k => g env fun xs => xs.length ≤ 100000 ∧ k (.lst xs)
theorem e_tup {x1} (h : A true C es g) : E .e C (.Tuple es x1 pos) (eTup g) := by
  obtain ⟨t, h1, h2⟩ := h
  refine ⟨_, pe_tup h1, fun z X H0 H σ env Q k o c hp => h2 z X H0 H σ env _ _ o (fun ds vs H1 e1 r1 hx => ⟨by rw [r1.length]; exact sz hx.1, fun q hq => ?_⟩) hp⟩
  exact c _ _ _ (e1.new hq) ((Rel.newT (e1.fresh hq) hq r1).fe o) hx.2
theorem e_lst (h : A true C es g) : E .f C (.List es pos) (eLst g) := by
  obtain ⟨t, h1, h2⟩ := h
  refine ⟨_, pe_lst h1, fun z X H0 H σ env Q k o c hp => h2 z X H0 H σ env _ _ o (fun ds vs H1 e1 r1 hx => ⟨by rw [r1.length]; exact sz hx.1, fun q hq => ?_⟩) hp⟩
  exact c _ _ _ (e1.new hq) (Rel.newL (e1.fresh hq) hq r1) hx.2
/-! ### x[i], x[i:j] -/
def dIx : D → D → (D → Prop) → Prop := fun x y k => match x, y with
  | .tup xs, .int i => ∃ d, atI xs i = some d ∧ k d
  | .lst xs, .int i => ∃ d, atI xs i = some d ∧ k d
  | .str s, .int i => ∃ c, s.length ≤ 100000 ∧ atI s.cps.toList i = some c ∧ k (.str ⟨#[c]⟩)
  | _, _ => False
theorem IsA.atI {z : Zn} {M : AP} {H : Hp} {vs : List V} {ds : List D} {i : Int} {d : D} (h : IsA z M H vs ds) (e : L2.atI ds i = some d) : ∃ v, L2.atI vs i = some v ∧ Is z M H v d := by
  unfold L2.atI at e ⊢
  rw [h.length]
  cases q : ixN ds.length i with
  | none => rw [q] at e; cases e
  | some j =>
    rw [q] at e
    obtain ⟨v, h1, h2⟩ := h.get (i := j) e
    exact ⟨v, h1, h2⟩
theorem opd_ix {K : PySem.W.Frag} : OpD .c .e (rIx K) dIx := fun z X H0 H σ env v u x y Q k o r1 r2 c hp => by
  cases x with
  | tup xs =>
    cases y with
    | int i =>
      obtain ⟨d, hd, hk⟩ := hp
      obtain ⟨a, vs, rfl, h1, h2, _⟩ := r1.conT
      obtain ⟨w, h3, h4⟩ := h2.atI hd
      exact .inr (.inl ⟨a, vs, i, w, rfl, r2.intC, SqT.of h1, h3, c d w H (Evo.refl _ _) h4 hk⟩)
    | _ => exact (show False from hp).elim
  | lst xs =>
    cases y with
    | int i =>
      obtain ⟨d, hd, hk⟩ := hp
      obtain ⟨a, vs, rfl, h1, h2, _⟩ := r1.conL
      obtain ⟨w, h3, h4⟩ := h2.atI hd
      exact .inl ⟨a, vs, i, w, rfl, r2.intC, SqL.of h1, h3, c d w H (Evo.refl _ _) h4 hk⟩
    | _ => exact (show False from hp).elim
  | str s =>
    cases y with
    | int i =>
      obtain ⟨d, hl, hd, hk⟩ := hp
      exact .inr (.inr ⟨s, i, d, r1.strC, r2.intC, sz hl, hd, c _ _ H (Evo.refl _ _) (Is.str _) hk⟩)
    | _ => exact (show False from hp).elim
  | _ => exact (show False from hp).elim
theorem e_ix (ha : E .c C a p) (hb : E .c C b q) (hs : PlainIx b := by exact fun _ _ => rfl) : E .e C (.Subscript a b pos) (eOp dIx p q) := by
  obtain ⟨ta, a1, a2⟩ := ha
  obtain ⟨tb, b1, b2⟩ := hb
  exact ⟨_, pe_ix (r := rIx C.K) ix_seq a1 b1 hs, RE.op (by decide) opd_ix a2 b2⟩
def cutD (xs : List D) (lo hi : Option Int) : List D := (xs.drop (HT.sIx xs.length 0 lo)).take (HT.sIx xs.length xs.length hi - HT.sIx xs.length 0 lo)
theorem IsA.cut {z : Zn} {M : AP} {H : Hp} {vs : List V} {ds : List D} {lo hi : Option Int} (h : IsA z M H vs ds) : IsA z M H (cutV vs lo hi) (cutD ds lo hi) := by
  unfold cutV cutD
  rw [h.length]
  exact (h.drop _).take _
theorem cut_whole {α : Type} {xs : List α} {lo hi : Option Int} (h : HT.sIx xs.length 0 lo = 0 ∧ HT.sIx xs.length xs.length hi = xs.length) : (xs.drop (HT.sIx xs.length 0 lo)).take (HT.sIx xs.length xs.length hi - HT.sIx xs.length 0 lo) = xs := by
  rw [h.1, h.2]; simp
def dSl : D → Option Int → Option Int → (D → Prop) → Prop := fun x lo hi k => match x with
  | .tup xs => k (.tup (cutD xs lo hi))
  | .lst xs => k (.lst (cutD xs lo hi))
  | _ => False
def rSlQ (K : PySem.W.Frag) : V → Option Int → Option Int → Hp → VK → Prop := fun x lo hi H Q => rSlA K x lo hi H Q ∨ rSlL K x lo hi H Q
theorem sl_seq : SlR C (rSlQ C.K) := fun pins s σ H x v vl vu lo hi sl Q I rx hs pl pu h => h.elim (sl_tupA pins s σ H x v vl vu lo hi sl Q I rx hs pl pu) (sl_list pins s σ H x v vl vu lo hi sl Q I rx hs pl pu)
abbrev PO' := List SV → (Option Int → Prop) → Prop
def RO (t : TO) (p : PO') : Prop := ∀ (z : Zn) (X : AP) (H0 H : Hp) (σ : Sl) (env : List SV) (Q : Option Int → Hp → Prop) (k : Option Int → Prop), Ok z X H0 H σ env →
  (∀ b H', Evo z H H' → k b → Q b H') → p env k → t σ H Q
structure O (C : Cx) (e : Option Expr) (p : PO') : Prop where
  ex : ∃ t, PO C e t ∧ RO t p
def oNo : PO' := fun _ k => k none
def inK (d : D) (k : Int → Prop) : Prop := match d with
  | .int i => k i
  | _ => False
def oPart (p : PX) : PO' := fun env k => p env fun d => inK d fun i => k (some i)
theorem o_none : O C none oNo := ⟨_, po_none, fun z X H0 H σ env Q k o c hp => c none H (Evo.refl _ _) hp⟩
theorem o_some (h : E m C e p) : O C (some e) (oPart p) := by
  obtain ⟨t, h1, h2⟩ := h.toB
  refine ⟨_, po_some h1, fun z X H0 H σ env Q k o c hp => h2 z X H0 H σ env _ _ o (fun d v H1 e1 r1 hx => ?_) hp⟩
  cases d with
  | int i => exact ⟨i, Is.intI r1, c _ H1 e1 hx⟩
  | _ => exact (show False from hx).elim
def eSl (p : PX) (lo hi : PO') : PX := fun env k => p env fun x => lo env fun i => hi env fun j => dSl x i j k
theorem e_slice {lo hi : Option Expr} {pl ph : PO'} {p2 : Pos} (h : E .c C e p) (hl : O C lo pl) (hh : O C hi ph) : E .e C (.Subscript e (.Slice lo hi none p2) pos) (eSl p pl ph) := by
  obtain ⟨t, h1, h2⟩ := h
  obtain ⟨tl, l1, l2⟩ := hl
  obtain ⟨th, g1, g2⟩ := hh
  refine ⟨_, pe_slice (r := rSlQ C.K) sl_seq h1 l1 g1, fun z X H0 H σ env Q k o c hp => h2 z X H0 H σ env _ _ o (fun d v H1 e1 r1 hx => ?_) hp⟩
  refine l2 z X H0 H1 σ env _ _ (o.go e1) (fun i H2 e2 hx => ?_) hx
  refine g2 z X H0 H2 σ env _ _ ((o.go e1).go e2) (fun j H3 e3 hx => ?_) hx
  have r3 := r1.evo o (e2.trans e3) e1
  have ev := e1.trans (e2.trans e3)
  cases d with
  | tup xs =>
    obtain ⟨a, vs, rfl, q1, q2, n⟩ := r3.conT
    refine .inl ⟨a, vs, rfl, SqT.of q1, fun w => ?_, fun w q hq => ?_⟩
    · refine c _ _ H3 ev ?_ hx
      have e : cutD xs i j = xs := by
        have l := q2.length
        rw [l] at w
        exact cut_whole w
      rw [e]
      exact Is.tup q1 n q2
    · exact c _ _ _ (ev.new hq) ((Rel.newT (ev.fresh hq) hq q2.cut).fe o) hx
  | lst xs =>
    obtain ⟨a, vs, rfl, q1, q2, n⟩ := r3.conL
    exact .inr ⟨a, vs, rfl, SqL.of q1, fun q hq => c _ _ _ (ev.new hq) ((Rel.newL (ev.fresh hq) hq q2.cut).fe o) hx⟩
  | _ => exact (show False from hx).elim
end
end Pu
namespace Ew
open PySem PySem.Spec PyProof.Rows L2
section
variable {prog : Program} {w : World} {A : Around} {E : Value → Shared → Prop} {s : Shared}
/-- what max asks of the tuple of its arguments -/
def Askmax (prog : Program) (w : World) (A : Around) (Q : Value → Shared → Prop) (it : Value) (s₂ : Shared) : Prop := ∃ I fp wr n P St bt, it = .ref I ∧ Walks prog w A.in1 I fp wr n P St ∧ St 0 s₂.heap ∧ (∀ b ∈ fp, b < s₂.heap.objs.size) ∧ 0 < n ∧ CmpOf prog w A.in1 .Gt P bt ∧
  ∀ v h' tk, P (argBest bt (n - 1)) v → (∀ b o, b ∉ wr → s₂.heap.get? b = some o → h'.get? b = some o) → Q v { s₂ with heap := h', toks := tk }
theorem ask_max {xs : Array (Int × Tok)} {Q : Value → Shared → Prop} {c : Sem Value} (hh : A.handled = none) (hne : 0 < xs.size)
    (hc : wpAny (model prog w) A.in1 (pyIter (.ref s.heap.objs.size)) (Askmax prog w A Q) E { s with heap := s.heap.push { cls := .type "tuple", data := .seq (intItems xs) } } → wpAny (model prog w) A c Q E s)
    (h : ∀ h' tk M t', (∀ d o, s.heap.get? d = some o → h'.get? d = some o) → M ∈ xs.toList.map (·.1) → (∀ a, a ∈ xs.toList.map (·.1) → a ≤ M) → Q (.int M t') { s with heap := h', toks := tk }) : wpAny (model prog w) A c Q E s := by
  have hT : (s.heap.push { cls := .type "tuple", data := .seq (intItems xs) }).IsTuple s.heap.objs.size (intItems xs) := ⟨_, Heap.get?_push_size _ rfl, rfl, 0, rfl⟩
  have hsz : (s.heap.push { cls := .type "tuple", data := .seq (intItems xs) }).objs.size = s.heap.objs.size + 1 := Heap.size_push ..
  have hln : (intItems xs).size = xs.size := by simp [intItems]
  refine hc (wpAny_pyIter_tuple hT ?_)
  refine ⟨_, [_, s.heap.objs.size], [_], _, _, _, _, rfl, Walks.tuple (A := A.in1) hh _ s.heap.objs.size (by rw [hsz]; exact Nat.ne_of_lt (Nat.lt_succ_self _)) (intItems xs),
    ⟨⟨_, Heap.get?_push_size _ rfl, rfl, rfl⟩, hT.push _⟩, fun d hd => ?_, by rw [hln]; exact hne, CmpOf.ints_gt (numAt xs) (fun _ _ => intItems_at), fun v h' tk hP hk => ?_⟩
  · show d < ((s.heap.push _).push _).objs.size
    rw [Heap.size_push, hsz]
    rcases List.mem_cons.mp hd with e | hd
    · rw [e, hsz]; exact Nat.lt_succ_self _
    · rw [List.mem_singleton.mp hd]; exact Nat.lt_succ_of_lt (Nat.lt_succ_self _)
  · have hold : ∀ d o, s.heap.get? d = some o → h'.get? d = some o := fun d o e => by
      refine hk d o (fun hm => ?_) (Heap.get?_push_of_some _ (Heap.get?_push_of_some _ e))
      have := Heap.lt_size e
      rw [List.mem_singleton.mp hm, hsz] at this
      exact Nat.lt_irrefl _ (Nat.lt_of_succ_lt this)
    obtain ⟨t, rfl⟩ := intItems_at hP
    obtain ⟨h1, h2⟩ := argBest_gt (numAt xs) ((intItems xs).size - 1)
    refine h h' tk _ t hold ?_ fun a ha => ?_
    · rw [numAt_eq]; exact PySem.getD_mem (by rw [List.length_map, Array.length_toList]; omega)
    · obtain ⟨j, hj, rfl⟩ := PySem.mem_getD ha
      rw [List.length_map, Array.length_toList] at hj
      rw [← numAt_eq]; exact h2 j (by omega)
theorem args_max3 (a0 a1 a2 : Value) : argsOk "max" ⟨[a0, a1, a2], []⟩ := by unfold argsOk; kernel_rfl
theorem tree_max3 {a0 a1 a2 : Value} {Q : Value → Shared → Prop} (h : wpAny (model prog w) A.in1 (pyIter (.ref s.heap.objs.size)) (Askmax prog w A Q) E { s with heap := s.heap.push { cls := .type "tuple", data := .seq #[a0, a1, a2] } }) : wpAny (model prog w) A (call (.builtin "max") [a0, a1, a2]) Q E s := by
  have hname : (toString "max" ++ toString ".loop" : String) = "max.loop" := by decide
  refine call_function_tree F.kind_max F.plain_max F.entry_max (args_max3 _ _ _) ?_
  show wpAny _ A.in1 (Builtin.Builtins.bindParams "max" ["key", "default"] 0 ⟨[], []⟩ >>= _) _ _ s
  refine wpAny_bind (wpAny_of_eq (show Builtin.Builtins.bindParams "max" ["key", "default"] 0 ⟨[], []⟩ = pure [none, none] from rfl) ?_)
  show wpAny _ A.in1 (newTuple [a0, a1, a2] >>= _) _ _ s
  refine wpAny_bind (wpAny_newObj_type ?_)
  refine wpAny_bind (wpAny_mono h (fun it s₂ h₂ => ?_) fun _ _ e => e)
  obtain ⟨I, fp, wr, n, P, St, bt, rfl, W, hst, hfp, hn, hcmp, hQ⟩ := h₂
  refine wpAny_bind (wpAny_newObj_type ?_)
  have hSf : s₂.heap.objs.size ∉ fp := fun hm => Nat.lt_irrefl _ (hfp _ hm)
  rw [hname]
  refine wpAny_pure ⟨plainId_quiet F.plain_max_loop _, codeAny_max_loop_first W bt hcmp s₂.heap.objs.size hSf hn (W.frame _ _ _ hst fun b _ o e => Heap.get?_push_of_some _ e) (Heap.get?_push_size _ rfl) fun v h' tk hP hk => ?_⟩
  exact hQ v h' tk hP fun b o hbw e => hk b o hbw (Nat.ne_of_lt (Heap.lt_size e)) (Heap.get?_push_of_some _ e)
theorem args_max4 (a0 a1 a2 a3 : Value) : argsOk "max" ⟨[a0, a1, a2, a3], []⟩ := by unfold argsOk; kernel_rfl
theorem tree_max4 {a0 a1 a2 a3 : Value} {Q : Value → Shared → Prop} (h : wpAny (model prog w) A.in1 (pyIter (.ref s.heap.objs.size)) (Askmax prog w A Q) E { s with heap := s.heap.push { cls := .type "tuple", data := .seq #[a0, a1, a2, a3] } }) : wpAny (model prog w) A (call (.builtin "max") [a0, a1, a2, a3]) Q E s := by
  have hname : (toString "max" ++ toString ".loop" : String) = "max.loop" := by decide
  refine call_function_tree F.kind_max F.plain_max F.entry_max (args_max4 _ _ _ _) ?_
  show wpAny _ A.in1 (Builtin.Builtins.bindParams "max" ["key", "default"] 0 ⟨[], []⟩ >>= _) _ _ s
  refine wpAny_bind (wpAny_of_eq (show Builtin.Builtins.bindParams "max" ["key", "default"] 0 ⟨[], []⟩ = pure [none, none] from rfl) ?_)
  show wpAny _ A.in1 (newTuple [a0, a1, a2, a3] >>= _) _ _ s
  refine wpAny_bind (wpAny_newObj_type ?_)
  refine wpAny_bind (wpAny_mono h (fun it s₂ h₂ => ?_) fun _ _ e => e)
  obtain ⟨I, fp, wr, n, P, St, bt, rfl, W, hst, hfp, hn, hcmp, hQ⟩ := h₂
  refine wpAny_bind (wpAny_newObj_type ?_)
  have hSf : s₂.heap.objs.size ∉ fp := fun hm => Nat.lt_irrefl _ (hfp _ hm)
  rw [hname]
  refine wpAny_pure ⟨plainId_quiet F.plain_max_loop _, codeAny_max_loop_first W bt hcmp s₂.heap.objs.size hSf hn (W.frame _ _ _ hst fun b _ o e => Heap.get?_push_of_some _ e) (Heap.get?_push_size _ rfl) fun v h' tk hP hk => ?_⟩
  exact hQ v h' tk hP fun b o hbw e => hk b o hbw (Nat.ne_of_lt (Heap.lt_size e)) (Heap.get?_push_of_some _ e)
theorem args_max5 (a0 a1 a2 a3 a4 : Value) : argsOk "max" ⟨[a0, a1, a2, a3, a4], []⟩ := by unfold argsOk; kernel_rfl
theorem tree_max5 {a0 a1 a2 a3 a4 : Value} {Q : Value → Shared → Prop} (h : wpAny (model prog w) A.in1 (pyIter (.ref s.heap.objs.size)) (Askmax prog w A Q) E { s with heap := s.heap.push { cls := .type "tuple", data := .seq #[a0, a1, a2, a3, a4] } }) : wpAny (model prog w) A (call (.builtin "max") [a0, a1, a2, a3, a4]) Q E s := by
  have hname : (toString "max" ++ toString ".loop" : String) = "max.loop" := by decide
  refine call_function_tree F.kind_max F.plain_max F.entry_max (args_max5 _ _ _ _ _) ?_
  show wpAny _ A.in1 (Builtin.Builtins.bindParams "max" ["key", "default"] 0 ⟨[], []⟩ >>= _) _ _ s
  refine wpAny_bind (wpAny_of_eq (show Builtin.Builtins.bindParams "max" ["key", "default"] 0 ⟨[], []⟩ = pure [none, none] from rfl) ?_)
  show wpAny _ A.in1 (newTuple [a0, a1, a2, a3, a4] >>= _) _ _ s
  refine wpAny_bind (wpAny_newObj_type ?_)
  refine wpAny_bind (wpAny_mono h (fun it s₂ h₂ => ?_) fun _ _ e => e)
  obtain ⟨I, fp, wr, n, P, St, bt, rfl, W, hst, hfp, hn, hcmp, hQ⟩ := h₂
  refine wpAny_bind (wpAny_newObj_type ?_)
  have hSf : s₂.heap.objs.size ∉ fp := fun hm => Nat.lt_irrefl _ (hfp _ hm)
  rw [hname]
  refine wpAny_pure ⟨plainId_quiet F.plain_max_loop _, codeAny_max_loop_first W bt hcmp s₂.heap.objs.size hSf hn (W.frame _ _ _ hst fun b _ o e => Heap.get?_push_of_some _ e) (Heap.get?_push_size _ rfl) fun v h' tk hP hk => ?_⟩
  exact hQ v h' tk hP fun b o hbw e => hk b o hbw (Nat.ne_of_lt (Heap.lt_size e)) (Heap.get?_push_of_some _ e)
end
section
variable {X : Cx}
theorem call_max3 (hc : X.calm = true) : CallR X (.builtin "max") (fun xs H Q => ∃ a0 a1 a2 : Int, xs = [.int a0, .int a1, .int a2] ∧ ∀ m, (m = a0 ∨ m = a1 ∨ m = a2) → a0 ≤ m → a1 ≤ m → a2 ≤ m → Q (.int m) H) := by
  intro pins s σ H xs us Q I r h
  obtain ⟨a0, a1, a2, rfl, q⟩ := h
  cases r with | cons q0 r0 =>
  obtain ⟨t0, rfl⟩ := q0
  cases r0 with | cons q1 r1 =>
  obtain ⟨t1, rfl⟩ := q1
  cases r1 with | cons q2 r2 =>
  obtain ⟨t2, rfl⟩ := q2
  cases r2
  refine ask_max (xs := #[(a0, t0), (a1, t1), (a2, t2)]) (I.ok.hd hc) (by simp) (fun h => tree_max3 (by simpa [intItems] using h)) fun h' tk M t' hk hm hle => ⟨.int M, H, I.kept hk, ⟨_, rfl⟩, q M ?_ (hle _ (by simp)) (hle _ (by simp)) (hle _ (by simp))⟩
  · simpa using hm
theorem call_max4 (hc : X.calm = true) : CallR X (.builtin "max") (fun xs H Q => ∃ a0 a1 a2 a3 : Int, xs = [.int a0, .int a1, .int a2, .int a3] ∧ ∀ m, (m = a0 ∨ m = a1 ∨ m = a2 ∨ m = a3) → a0 ≤ m → a1 ≤ m → a2 ≤ m → a3 ≤ m → Q (.int m) H) := by
  intro pins s σ H xs us Q I r h
  obtain ⟨a0, a1, a2, a3, rfl, q⟩ := h
  cases r with | cons q0 r0 =>
  obtain ⟨t0, rfl⟩ := q0
  cases r0 with | cons q1 r1 =>
  obtain ⟨t1, rfl⟩ := q1
  cases r1 with | cons q2 r2 =>
  obtain ⟨t2, rfl⟩ := q2
  cases r2 with | cons q3 r3 =>
  obtain ⟨t3, rfl⟩ := q3
  cases r3
  refine ask_max (xs := #[(a0, t0), (a1, t1), (a2, t2), (a3, t3)]) (I.ok.hd hc) (by simp) (fun h => tree_max4 (by simpa [intItems] using h)) fun h' tk M t' hk hm hle => ⟨.int M, H, I.kept hk, ⟨_, rfl⟩, q M ?_ (hle _ (by simp)) (hle _ (by simp)) (hle _ (by simp)) (hle _ (by simp))⟩
  · simpa using hm
theorem call_max5 (hc : X.calm = true) : CallR X (.builtin "max") (fun xs H Q => ∃ a0 a1 a2 a3 a4 : Int, xs = [.int a0, .int a1, .int a2, .int a3, .int a4] ∧ ∀ m, (m = a0 ∨ m = a1 ∨ m = a2 ∨ m = a3 ∨ m = a4) → a0 ≤ m → a1 ≤ m → a2 ≤ m → a3 ≤ m → a4 ≤ m → Q (.int m) H) := by
  intro pins s σ H xs us Q I r h
  obtain ⟨a0, a1, a2, a3, a4, rfl, q⟩ := h
  cases r with | cons q0 r0 =>
  obtain ⟨t0, rfl⟩ := q0
  cases r0 with | cons q1 r1 =>
  obtain ⟨t1, rfl⟩ := q1
  cases r1 with | cons q2 r2 =>
  obtain ⟨t2, rfl⟩ := q2
  cases r2 with | cons q3 r3 =>
  obtain ⟨t3, rfl⟩ := q3
  cases r3 with | cons q4 r4 =>
  obtain ⟨t4, rfl⟩ := q4
  cases r4
  refine ask_max (xs := #[(a0, t0), (a1, t1), (a2, t2), (a3, t3), (a4, t4)]) (I.ok.hd hc) (by simp) (fun h => tree_max5 (by simpa [intItems] using h)) fun h' tk M t' hk hm hle => ⟨.int M, H, I.kept hk, ⟨_, rfl⟩, q M ?_ (hle _ (by simp)) (hle _ (by simp)) (hle _ (by simp)) (hle _ (by simp)) (hle _ (by simp))⟩
  · simpa using hm
end
section
variable {prog : Program} {w : World} {A : Around} {E : Value → Shared → Prop} {s : Shared}
/-- what min asks of the tuple of its arguments -/
def Askmin (prog : Program) (w : World) (A : Around) (Q : Value → Shared → Prop) (it : Value) (s₂ : Shared) : Prop := ∃ I fp wr n P St bt, it = .ref I ∧ Walks prog w A.in1 I fp wr n P St ∧ St 0 s₂.heap ∧ (∀ b ∈ fp, b < s₂.heap.objs.size) ∧ 0 < n ∧ CmpOf prog w A.in1 .Lt P bt ∧
  ∀ v h' tk, P (argBest bt (n - 1)) v → (∀ b o, b ∉ wr → s₂.heap.get? b = some o → h'.get? b = some o) → Q v { s₂ with heap := h', toks := tk }
theorem ask_min {xs : Array (Int × Tok)} {Q : Value → Shared → Prop} {c : Sem Value} (hh : A.handled = none) (hne : 0 < xs.size)
    (hc : wpAny (model prog w) A.in1 (pyIter (.ref s.heap.objs.size)) (Askmin prog w A Q) E { s with heap := s.heap.push { cls := .type "tuple", data := .seq (intItems xs) } } → wpAny (model prog w) A c Q E s)
    (h : ∀ h' tk M t', (∀ d o, s.heap.get? d = some o → h'.get? d = some o) → M ∈ xs.toList.map (·.1) → (∀ a, a ∈ xs.toList.map (·.1) → M ≤ a) → Q (.int M t') { s with heap := h', toks := tk }) : wpAny (model prog w) A c Q E s := by
  have hT : (s.heap.push { cls := .type "tuple", data := .seq (intItems xs) }).IsTuple s.heap.objs.size (intItems xs) := ⟨_, Heap.get?_push_size _ rfl, rfl, 0, rfl⟩
  have hsz : (s.heap.push { cls := .type "tuple", data := .seq (intItems xs) }).objs.size = s.heap.objs.size + 1 := Heap.size_push ..
  have hln : (intItems xs).size = xs.size := by simp [intItems]
  refine hc (wpAny_pyIter_tuple hT ?_)
  refine ⟨_, [_, s.heap.objs.size], [_], _, _, _, _, rfl, Walks.tuple (A := A.in1) hh _ s.heap.objs.size (by rw [hsz]; exact Nat.ne_of_lt (Nat.lt_succ_self _)) (intItems xs),
    ⟨⟨_, Heap.get?_push_size _ rfl, rfl, rfl⟩, hT.push _⟩, fun d hd => ?_, by rw [hln]; exact hne, CmpOf.ints_lt (numAt xs) (fun _ _ => intItems_at), fun v h' tk hP hk => ?_⟩
  · show d < ((s.heap.push _).push _).objs.size
    rw [Heap.size_push, hsz]
    rcases List.mem_cons.mp hd with e | hd
    · rw [e, hsz]; exact Nat.lt_succ_self _
    · rw [List.mem_singleton.mp hd]; exact Nat.lt_succ_of_lt (Nat.lt_succ_self _)
  · have hold : ∀ d o, s.heap.get? d = some o → h'.get? d = some o := fun d o e => by
      refine hk d o (fun hm => ?_) (Heap.get?_push_of_some _ (Heap.get?_push_of_some _ e))
      have := Heap.lt_size e
      rw [List.mem_singleton.mp hm, hsz] at this
      exact Nat.lt_irrefl _ (Nat.lt_of_succ_lt this)
    obtain ⟨t, rfl⟩ := intItems_at hP
    obtain ⟨h1, h2⟩ := argBest_lt (numAt xs) ((intItems xs).size - 1)
    refine h h' tk _ t hold ?_ fun a ha => ?_
    · rw [numAt_eq]; exact PySem.getD_mem (by rw [List.length_map, Array.length_toList]; omega)
    · obtain ⟨j, hj, rfl⟩ := PySem.mem_getD ha
      rw [List.length_map, Array.length_toList] at hj
      rw [← numAt_eq]; exact h2 j (by omega)
theorem args_min3 (a0 a1 a2 : Value) : argsOk "min" ⟨[a0, a1, a2], []⟩ := by unfold argsOk; kernel_rfl
theorem tree_min3 {a0 a1 a2 : Value} {Q : Value → Shared → Prop} (h : wpAny (model prog w) A.in1 (pyIter (.ref s.heap.objs.size)) (Askmin prog w A Q) E { s with heap := s.heap.push { cls := .type "tuple", data := .seq #[a0, a1, a2] } }) : wpAny (model prog w) A (call (.builtin "min") [a0, a1, a2]) Q E s := by
  have hname : (toString "min" ++ toString ".loop" : String) = "min.loop" := by decide
  refine call_function_tree F.kind_min F.plain_min F.entry_min (args_min3 _ _ _) ?_
  show wpAny _ A.in1 (Builtin.Builtins.bindParams "min" ["key", "default"] 0 ⟨[], []⟩ >>= _) _ _ s
  refine wpAny_bind (wpAny_of_eq (show Builtin.Builtins.bindParams "min" ["key", "default"] 0 ⟨[], []⟩ = pure [none, none] from rfl) ?_)
  show wpAny _ A.in1 (newTuple [a0, a1, a2] >>= _) _ _ s
  refine wpAny_bind (wpAny_newObj_type ?_)
  refine wpAny_bind (wpAny_mono h (fun it s₂ h₂ => ?_) fun _ _ e => e)
  obtain ⟨I, fp, wr, n, P, St, bt, rfl, W, hst, hfp, hn, hcmp, hQ⟩ := h₂
  refine wpAny_bind (wpAny_newObj_type ?_)
  have hSf : s₂.heap.objs.size ∉ fp := fun hm => Nat.lt_irrefl _ (hfp _ hm)
  rw [hname]
  refine wpAny_pure ⟨plainId_quiet F.plain_min_loop _, codeAny_min_loop_first W bt hcmp s₂.heap.objs.size hSf hn (W.frame _ _ _ hst fun b _ o e => Heap.get?_push_of_some _ e) (Heap.get?_push_size _ rfl) fun v h' tk hP hk => ?_⟩
  exact hQ v h' tk hP fun b o hbw e => hk b o hbw (Nat.ne_of_lt (Heap.lt_size e)) (Heap.get?_push_of_some _ e)
theorem args_min4 (a0 a1 a2 a3 : Value) : argsOk "min" ⟨[a0, a1, a2, a3], []⟩ := by unfold argsOk; kernel_rfl
theorem tree_min4 {a0 a1 a2 a3 : Value} {Q : Value → Shared → Prop} (h : wpAny (model prog w) A.in1 (pyIter (.ref s.heap.objs.size)) (Askmin prog w A Q) E { s with heap := s.heap.push { cls := .type "tuple", data := .seq #[a0, a1, a2, a3] } }) : wpAny (model prog w) A (call (.builtin "min") [a0, a1, a2, a3]) Q E s := by
  have hname : (toString "min" ++ toString ".loop" : String) = "min.loop" := by decide
  refine call_function_tree F.kind_min F.plain_min F.entry_min (args_min4 _ _ _ _) ?_
  show wpAny _ A.in1 (Builtin.Builtins.bindParams "min" ["key", "default"] 0 ⟨[], []⟩ >>= _) _ _ s
  refine wpAny_bind (wpAny_of_eq (show Builtin.Builtins.bindParams "min" ["key", "default"] 0 ⟨[], []⟩ = pure [none, none] from rfl) ?_)
  show wpAny _ A.in1 (newTuple [a0, a1, a2, a3] >>= _) _ _ s
  refine wpAny_bind (wpAny_newObj_type ?_)
  refine wpAny_bind (wpAny_mono h (fun it s₂ h₂ => ?_) fun _ _ e => e)
  obtain ⟨I, fp, wr, n, P, St, bt, rfl, W, hst, hfp, hn, hcmp, hQ⟩ := h₂
  refine wpAny_bind (wpAny_newObj_type ?_)
  have hSf : s₂.heap.objs.size ∉ fp := fun hm => Nat.lt_irrefl _ (hfp _ hm)
  rw [hname]
  refine wpAny_pure ⟨plainId_quiet F.plain_min_loop _, codeAny_min_loop_first W bt hcmp s₂.heap.objs.size hSf hn (W.frame _ _ _ hst fun b _ o e => Heap.get?_push_of_some _ e) (Heap.get?_push_size _ rfl) fun v h' tk hP hk => ?_⟩
  exact hQ v h' tk hP fun b o hbw e => hk b o hbw (Nat.ne_of_lt (Heap.lt_size e)) (Heap.get?_push_of_some _ e)
theorem args_min5 (a0 a1 a2 a3 a4 : Value) : argsOk "min" ⟨[a0, a1, a2, a3, a4], []⟩ := by unfold argsOk; kernel_rfl
theorem tree_min5 {a0 a1 a2 a3 a4 : Value} {Q : Value → Shared → Prop} (h : wpAny (model prog w) A.in1 (pyIter (.ref s.heap.objs.size)) (Askmin prog w A Q) E { s with heap := s.heap.push { cls := .type "tuple", data := .seq #[a0, a1, a2, a3, a4] } }) : wpAny (model prog w) A (call (.builtin "min") [a0, a1, a2, a3, a4]) Q E s := by
  have hname : (toString "min" ++ toString ".loop" : String) = "min.loop" := by decide
  refine call_function_tree F.kind_min F.plain_min F.entry_min (args_min5 _ _ _ _ _) ?_
  show wpAny _ A.in1 (Builtin.Builtins.bindParams "min" ["key", "default"] 0 ⟨[], []⟩ >>= _) _ _ s
  refine wpAny_bind (wpAny_of_eq (show Builtin.Builtins.bindParams "min" ["key", "default"] 0 ⟨[], []⟩ = pure [none, none] from rfl) ?_)
  show wpAny _ A.in1 (newTuple [a0, a1, a2, a3, a4] >>= _) _ _ s
  refine wpAny_bind (wpAny_newObj_type ?_)
  refine wpAny_bind (wpAny_mono h (fun it s₂ h₂ => ?_) fun _ _ e => e)
  obtain ⟨I, fp, wr, n, P, St, bt, rfl, W, hst, hfp, hn, hcmp, hQ⟩ := h₂
  refine wpAny_bind (wpAny_newObj_type ?_)
  have hSf : s₂.heap.objs.size ∉ fp := fun hm => Nat.lt_irrefl _ (hfp _ hm)
  rw [hname]
  refine wpAny_pure ⟨plainId_quiet F.plain_min_loop _, codeAny_min_loop_first W bt hcmp s₂.heap.objs.size hSf hn (W.frame _ _ _ hst fun b _ o e => Heap.get?_push_of_some _ e) (Heap.get?_push_size _ rfl) fun v h' tk hP hk => ?_⟩
  exact hQ v h' tk hP fun b o hbw e => hk b o hbw (Nat.ne_of_lt (Heap.lt_size e)) (Heap.get?_push_of_some _ e)
end
section
variable {X : Cx}
theorem call_min3 (hc : X.calm = true) : CallR X (.builtin "min") (fun xs H Q => ∃ a0 a1 a2 : Int, xs = [.int a0, .int a1, .int a2] ∧ ∀ m, (m = a0 ∨ m = a1 ∨ m = a2) → m ≤ a0 → m ≤ a1 → m ≤ a2 → Q (.int m) H) := by
  intro pins s σ H xs us Q I r h
  obtain ⟨a0, a1, a2, rfl, q⟩ := h
  cases r with | cons q0 r0 =>
  obtain ⟨t0, rfl⟩ := q0
  cases r0 with | cons q1 r1 =>
  obtain ⟨t1, rfl⟩ := q1
  cases r1 with | cons q2 r2 =>
  obtain ⟨t2, rfl⟩ := q2
  cases r2
  refine ask_min (xs := #[(a0, t0), (a1, t1), (a2, t2)]) (I.ok.hd hc) (by simp) (fun h => tree_min3 (by simpa [intItems] using h)) fun h' tk M t' hk hm hle => ⟨.int M, H, I.kept hk, ⟨_, rfl⟩, q M ?_ (hle _ (by simp)) (hle _ (by simp)) (hle _ (by simp))⟩
  · simpa using hm
theorem call_min4 (hc : X.calm = true) : CallR X (.builtin "min") (fun xs H Q => ∃ a0 a1 a2 a3 : Int, xs = [.int a0, .int a1, .int a2, .int a3] ∧ ∀ m, (m = a0 ∨ m = a1 ∨ m = a2 ∨ m = a3) → m ≤ a0 → m ≤ a1 → m ≤ a2 → m ≤ a3 → Q (.int m) H) := by
  intro pins s σ H xs us Q I r h
  obtain ⟨a0, a1, a2, a3, rfl, q⟩ := h
  cases r with | cons q0 r0 =>
  obtain ⟨t0, rfl⟩ := q0
  cases r0 with | cons q1 r1 =>
  obtain ⟨t1, rfl⟩ := q1
  cases r1 with | cons q2 r2 =>
  obtain ⟨t2, rfl⟩ := q2
  cases r2 with | cons q3 r3 =>
  obtain ⟨t3, rfl⟩ := q3
  cases r3
  refine ask_min (xs := #[(a0, t0), (a1, t1), (a2, t2), (a3, t3)]) (I.ok.hd hc) (by simp) (fun h => tree_min4 (by simpa [intItems] using h)) fun h' tk M t' hk hm hle => ⟨.int M, H, I.kept hk, ⟨_, rfl⟩, q M ?_ (hle _ (by simp)) (hle _ (by simp)) (hle _ (by simp)) (hle _ (by simp))⟩
  · simpa using hm
theorem call_min5 (hc : X.calm = true) : CallR X (.builtin "min") (fun xs H Q => ∃ a0 a1 a2 a3 a4 : Int, xs = [.int a0, .int a1, .int a2, .int a3, .int a4] ∧ ∀ m, (m = a0 ∨ m = a1 ∨ m = a2 ∨ m = a3 ∨ m = a4) → m ≤ a0 → m ≤ a1 → m ≤ a2 → m ≤ a3 → m ≤ a4 → Q (.int m) H) := by
  intro pins s σ H xs us Q I r h
  obtain ⟨a0, a1, a2, a3, a4, rfl, q⟩ := h
  cases r with | cons q0 r0 =>
  obtain ⟨t0, rfl⟩ := q0
  cases r0 with | cons q1 r1 =>
  obtain ⟨t1, rfl⟩ := q1
  cases r1 with | cons q2 r2 =>
  obtain ⟨t2, rfl⟩ := q2
  cases r2 with | cons q3 r3 =>
  obtain ⟨t3, rfl⟩ := q3
  cases r3 with | cons q4 r4 =>
  obtain ⟨t4, rfl⟩ := q4
  cases r4
  refine ask_min (xs := #[(a0, t0), (a1, t1), (a2, t2), (a3, t3), (a4, t4)]) (I.ok.hd hc) (by simp) (fun h => tree_min5 (by simpa [intItems] using h)) fun h' tk M t' hk hm hle => ⟨.int M, H, I.kept hk, ⟨_, rfl⟩, q M ?_ (hle _ (by simp)) (hle _ (by simp)) (hle _ (by simp)) (hle _ (by simp)) (hle _ (by simp))⟩
  · simpa using hm
end
end Ew
namespace Pu
open PySem PySem.Spec PyProof.Rows L2
variable [Tbs]
/-! ### calls of built-ins -/
def CallD (l : Bool) (mo : Mode) (r : List V → Hp → VK → Prop) (g : List D → (D → Prop) → Prop) : Prop := ∀ (z : Zn) (X : AP) (H0 H : Hp) (σ : Sl) (env : List SV) (vs : List V) (ds : List D) (Q : VK) (k : D → Prop), Ok z X H0 H σ env →
  IsA z (if l = true then Ms z X σ env else Zx z X) H vs ds → (∀ d w H', Evo z H H' → Rel mo z X H H' σ env w d → k d → Q w H') → g ds k → r vs H Q
def eCall (g : List D → (D → Prop) → Prop) (a : PAs) : PX := fun env k => a env fun ds => g ds k
section
variable {C : Cx} {e a b : Expr} {es : List Expr} {p q : PX} {ga : PAs} {m mo : Mode} {l : Bool} {pos pp : Pos} {x : Str} {id ty : String} {r : List V → Hp → VK → Prop} {g : List D → (D → Prop) → Prop}
theorem RE.cB {t : TA} (hd : CallD l mo r g) (h : RA l t ga) : RE mo (tCB r t) (eCall g ga) := fun z X H0 H σ env Q k o c hp =>
  h z X H0 H σ env _ _ o (fun ds vs H1 e1 r1 hx => hd z X H0 H1 σ env vs ds Q k (o.go e1) r1 (fun d w H2 e2 r2 kd => c d w H2 (e1.trans e2) (r2.early e1) kd) hx) hp
theorem e_callB (hc : CallR C (.builtin id) r) (hd : CallD l mo r g) (hg : Gl C x) (hm : C.mg x = none) (hv : bootBuiltins x = some (.builtin id)) (ha : A l C (e :: es) ga) (hn : x ≠ "__name__" := by decide) (hdb : (x == ("__debug__" : Str)) = false := by decide)
    (he : starEach (e :: es) C.env = (false, eval e C.env) :: starEach es C.env := by rfl) (hpl : (backTo pos (starEach es C.env)).any (·.1) = false := by rfl) : E mo C (.Call (.Name x pp) (e :: es) [] pos) (eCall g ga) := by
  obtain ⟨t, h1, h2⟩ := ha
  exact ⟨_, pe_callB hc hg hm hv h1 hn hdb he hpl, RE.cB hd h2⟩
theorem e_callTy (hc : CallR C (.type ty) r) (hd : CallD l mo r g) (hg : Gl C x) (hm : C.mg x = none) (hv : bootBuiltins x = some (.type ty)) (ha : A l C (e :: es) ga) (hn : x ≠ "__name__" := by decide) (hdb : (x == ("__debug__" : Str)) = false := by decide)
    (he : starEach (e :: es) C.env = (false, eval e C.env) :: starEach es C.env := by rfl) (hpl : (backTo pos (starEach es C.env)).any (·.1) = false := by rfl) : E mo C (.Call (.Name x pp) (e :: es) [] pos) (eCall g ga) := by
  obtain ⟨t, h1, h2⟩ := ha
  exact ⟨_, pe_callTy hc hg hm hv h1 hn hdb he hpl, RE.cB hd h2⟩
end
def gAbs : List D → (D → Prop) → Prop := fun ds k => match ds with
  | [.int i] => k (.int (if i < 0 then -i else i))
  | _ => False
theorem IsA.one {z : Zn} {M : AP} {H : Hp} {vs : List V} {d : D} (h : IsA z M H vs [d]) : ∃ v, vs = [v] ∧ Is z M H v d := by
  cases h with
  | cons q t => cases t; exact ⟨_, rfl, q⟩
theorem IsA.two {z : Zn} {M : AP} {H : Hp} {vs : List V} {d d' : D} (h : IsA z M H vs [d, d']) : ∃ v v', vs = [v, v'] ∧ Is z M H v d ∧ Is z M H v' d' := by
  cases h with
  | cons q t => obtain ⟨v', rfl, h⟩ := IsA.one t; exact ⟨_, _, rfl, q, h⟩
theorem cd_abs {l : Bool} : CallD l .e (fun xs H Q => ∃ i, xs = [.int i] ∧ Q (.int (if i < 0 then -i else i)) H) gAbs := fun z X H0 H σ env vs ds Q k o h c hp => by
  unfold gAbs at hp
  split at hp
  · rename_i i
    obtain ⟨v, rfl, hv⟩ := h.one
    cases hv
    exact ⟨i, rfl, c _ _ H (Evo.refl _ _) (Is.int _) hp⟩
  · exact hp.elim
/-- the greatest, the least of some numbers -/
def maxI : List Int → Int
  | [] => 0
  | [a] => a
  | a :: b :: r => max a (maxI (b :: r))
def minI : List Int → Int
  | [] => 0
  | [a] => a
  | a :: b :: r => min a (minI (b :: r))
theorem maxI_le : ∀ {ns : List Int} {n : Int}, n ∈ ns → n ≤ maxI ns
  | [a], n, h => by simp at h; subst h; exact Int.le_refl _
  | a :: b :: r, n, h => by
    show n ≤ max a (maxI (b :: r))
    rcases List.mem_cons.mp h with rfl | h
    · exact Int.le_max_left ..
    · exact Int.le_trans (maxI_le h) (Int.le_max_right ..)
theorem maxI_mem : ∀ {ns : List Int}, ns ≠ [] → maxI ns ∈ ns
  | [], h => absurd rfl h
  | [a], _ => List.mem_singleton.mpr rfl
  | a :: b :: r, _ => by
    show max a (maxI (b :: r)) ∈ _
    have q := maxI_mem (ns := b :: r) (by simp)
    rcases Int.le_total a (maxI (b :: r)) with h | h
    · rw [Int.max_eq_right h]; exact List.mem_cons_of_mem _ q
    · rw [Int.max_eq_left h]; exact List.mem_cons_self
theorem minI_le : ∀ {ns : List Int} {n : Int}, n ∈ ns → minI ns ≤ n
  | [a], n, h => by simp at h; subst h; exact Int.le_refl _
  | a :: b :: r, n, h => by
    show min a (minI (b :: r)) ≤ n
    rcases List.mem_cons.mp h with rfl | h
    · exact Int.min_le_left ..
    · exact Int.le_trans (Int.min_le_right ..) (minI_le h)
theorem minI_mem : ∀ {ns : List Int}, ns ≠ [] → minI ns ∈ ns
  | [], h => absurd rfl h
  | [a], _ => List.mem_singleton.mpr rfl
  | a :: b :: r, _ => by
    show min a (minI (b :: r)) ∈ _
    have q := minI_mem (ns := b :: r) (by simp)
    rcases Int.le_total a (minI (b :: r)) with h | h
    · rw [Int.min_eq_left h]; exact List.mem_cons_self
    · rw [Int.min_eq_right h]; exact List.mem_cons_of_mem _ q
theorem maxI_eq {ns : List Int} {m : Int} (h : m ∈ ns) (u : ∀ y ∈ ns, y ≤ m) : m = maxI ns := Int.le_antisymm (maxI_le h) (u _ (maxI_mem (List.ne_nil_of_mem h)))
theorem minI_eq {ns : List Int} {m : Int} (h : m ∈ ns) (u : ∀ y ∈ ns, m ≤ y) : m = minI ns := Int.le_antisymm (u _ (minI_mem (List.ne_nil_of_mem h))) (minI_le h)
def gMaxN : List D → (D → Prop) → Prop := fun ds k => match ds with
  | [.int a, .int b] => k (.int (max a b))
  | [.int a, .int b, .int c] => k (.int (max a (max b c)))
  | [.int a, .int b, .int c, .int d] => k (.int (max a (max b (max c d))))
  | [.int a, .int b, .int c, .int d, .int e] => k (.int (max a (max b (max c (max d e)))))
  | _ => False
def gMinN : List D → (D → Prop) → Prop := fun ds k => match ds with
  | [.int a, .int b] => k (.int (min a b))
  | [.int a, .int b, .int c] => k (.int (min a (min b c)))
  | [.int a, .int b, .int c, .int d] => k (.int (min a (min b (min c d))))
  | [.int a, .int b, .int c, .int d, .int e] => k (.int (min a (min b (min c (min d e)))))
  | _ => False
def rMaxN : List V → Hp → VK → Prop := fun xs H Q => (∃ i j, xs = [.int i, .int j] ∧ Q (.int (if j > i then j else i)) H) ∨
  (∃ a0 a1 a2 : Int, xs = [.int a0, .int a1, .int a2] ∧ ∀ m, (m = a0 ∨ m = a1 ∨ m = a2) → a0 ≤ m → a1 ≤ m → a2 ≤ m → Q (.int m) H) ∨
  (∃ a0 a1 a2 a3 : Int, xs = [.int a0, .int a1, .int a2, .int a3] ∧ ∀ m, (m = a0 ∨ m = a1 ∨ m = a2 ∨ m = a3) → a0 ≤ m → a1 ≤ m → a2 ≤ m → a3 ≤ m → Q (.int m) H) ∨
  (∃ a0 a1 a2 a3 a4 : Int, xs = [.int a0, .int a1, .int a2, .int a3, .int a4] ∧ ∀ m, (m = a0 ∨ m = a1 ∨ m = a2 ∨ m = a3 ∨ m = a4) → a0 ≤ m → a1 ≤ m → a2 ≤ m → a3 ≤ m → a4 ≤ m → Q (.int m) H)
def rMinN : List V → Hp → VK → Prop := fun xs H Q => (∃ i j, xs = [.int i, .int j] ∧ Q (.int (if j < i then j else i)) H) ∨
  (∃ a0 a1 a2 : Int, xs = [.int a0, .int a1, .int a2] ∧ ∀ m, (m = a0 ∨ m = a1 ∨ m = a2) → m ≤ a0 → m ≤ a1 → m ≤ a2 → Q (.int m) H) ∨
  (∃ a0 a1 a2 a3 : Int, xs = [.int a0, .int a1, .int a2, .int a3] ∧ ∀ m, (m = a0 ∨ m = a1 ∨ m = a2 ∨ m = a3) → m ≤ a0 → m ≤ a1 → m ≤ a2 → m ≤ a3 → Q (.int m) H) ∨
  (∃ a0 a1 a2 a3 a4 : Int, xs = [.int a0, .int a1, .int a2, .int a3, .int a4] ∧ ∀ m, (m = a0 ∨ m = a1 ∨ m = a2 ∨ m = a3 ∨ m = a4) → m ≤ a0 → m ≤ a1 → m ≤ a2 → m ≤ a3 → m ≤ a4 → Q (.int m) H)
theorem callr_or {C : Cx} {f : Value} {r r' : List V → Hp → VK → Prop} (h : CallR C f r) (h' : CallR C f r') : CallR C f (fun xs H Q => r xs H Q ∨ r' xs H Q) := fun pins s σ H xs us Q I rx q => q.elim (h pins s σ H xs us Q I rx) (h' pins s σ H xs us Q I rx)
theorem call_maxN {C : Cx} (hc : C.calm = true) : CallR C (.builtin "max") rMaxN := callr_or (call_max2 hc) (callr_or (Ew.call_max3 hc) (callr_or (Ew.call_max4 hc) (Ew.call_max5 hc)))
theorem call_minN {C : Cx} (hc : C.calm = true) : CallR C (.builtin "min") rMinN := callr_or (call_min2 hc) (callr_or (Ew.call_min3 hc) (callr_or (Ew.call_min4 hc) (Ew.call_min5 hc)))
theorem cd_maxN {l : Bool} : CallD l .e rMaxN gMaxN := fun z X H0 H σ env vs ds Q k o h c hp => by
  unfold gMaxN at hp
  split at hp
  · cases IsA.ints (ns := [_, _]) h
    refine .inl ⟨_, _, rfl, c _ _ H (Evo.refl _ _) ?_ hp⟩
    have : ∀ a b : Int, (if b > a then b else a) = max a b := fun a b => by split <;> omega
    rw [this]
    exact Is.int _
  · cases IsA.ints (ns := [_, _, _]) h
    refine .inr (.inl ⟨_, _, _, rfl, fun m h1 h2 h3 h4 => c (.int m) _ H (Evo.refl _ _) (Is.int m) ?_⟩)
    rename_i a b d
    have : max a (max b d) = m := by omega
    rw [← this]; exact hp
  · cases IsA.ints (ns := [_, _, _, _]) h
    refine .inr (.inr (.inl ⟨_, _, _, _, rfl, fun m h1 h2 h3 h4 h5 => c (.int m) _ H (Evo.refl _ _) (Is.int m) ?_⟩))
    rename_i a b d e
    have : max a (max b (max d e)) = m := by omega
    rw [← this]; exact hp
  · cases IsA.ints (ns := [_, _, _, _, _]) h
    refine .inr (.inr (.inr ⟨_, _, _, _, _, rfl, fun m h1 h2 h3 h4 h5 h6 => c (.int m) _ H (Evo.refl _ _) (Is.int m) ?_⟩))
    rename_i a b d e f
    have : max a (max b (max d (max e f))) = m := by omega
    rw [← this]; exact hp
  · exact hp.elim
theorem cd_minN {l : Bool} : CallD l .e rMinN gMinN := fun z X H0 H σ env vs ds Q k o h c hp => by
  unfold gMinN at hp
  split at hp
  · cases IsA.ints (ns := [_, _]) h
    refine .inl ⟨_, _, rfl, c _ _ H (Evo.refl _ _) ?_ hp⟩
    have : ∀ a b : Int, (if b < a then b else a) = min a b := fun a b => by split <;> omega
    rw [this]
    exact Is.int _
  · cases IsA.ints (ns := [_, _, _]) h
    refine .inr (.inl ⟨_, _, _, rfl, fun m h1 h2 h3 h4 => c (.int m) _ H (Evo.refl _ _) (Is.int m) ?_⟩)
    rename_i a b d
    have : min a (min b d) = m := by omega
    rw [← this]; exact hp
  · cases IsA.ints (ns := [_, _, _, _]) h
    refine .inr (.inr (.inl ⟨_, _, _, _, rfl, fun m h1 h2 h3 h4 h5 => c (.int m) _ H (Evo.refl _ _) (Is.int m) ?_⟩))
    rename_i a b d e
    have : min a (min b (min d e)) = m := by omega
    rw [← this]; exact hp
  · cases IsA.ints (ns := [_, _, _, _, _]) h
    refine .inr (.inr (.inr ⟨_, _, _, _, _, rfl, fun m h1 h2 h3 h4 h5 h6 => c (.int m) _ H (Evo.refl _ _) (Is.int m) ?_⟩))
    rename_i a b d e f
    have : min a (min b (min d (min e f))) = m := by omega
    rw [← this]; exact hp
  · exact hp.elim
/-- of a list of numbers -/
def gMaxL : List D → (D → Prop) → Prop := fun ds k => ∃ xs ns, ds = [.lst xs] ∧ intsD xs = some ns ∧ ns ≠ [] ∧ k (.int (maxI ns))
def gMinL : List D → (D → Prop) → Prop := fun ds k => ∃ xs ns, ds = [.lst xs] ∧ intsD xs = some ns ∧ ns ≠ [] ∧ k (.int (minI ns))
def gSum : List D → (D → Prop) → Prop := fun ds k => ∃ xs ns, ds = [.lst xs] ∧ intsD xs = some ns ∧ k (.int ns.sum)
theorem one_ints {z : Zn} {M : AP} {H : Hp} {vs : List V} {xs : List D} {ns : List Int} (h : IsA z M H vs [.lst xs]) (hi : intsD xs = some ns) : ∃ a, vs = [.ref a] ∧ H a = some (.lst (ns.map V.int)) := by
  obtain ⟨v, rfl, hv⟩ := h.one
  cases intsD_eq hi
  cases hv with
  | lst e n r => exact ⟨_, rfl, by rw [← r.ints]; exact e⟩
theorem cd_maxL {l : Bool} {K : PySem.W.Frag} : CallD l .e (rMax K) gMaxL := fun z X H0 H σ env vs ds Q k o h c hp => by
  obtain ⟨xs, ns, rfl, hi, hne, hk⟩ := hp
  obtain ⟨a, rfl, ha⟩ := one_ints h hi
  refine ⟨a, ns, rfl, SqL.of ha, List.length_pos_iff.mpr hne, fun m h1 h2 => ?_⟩
  rw [maxI_eq h1 h2]
  exact c _ _ H (Evo.refl _ _) (Is.int _) hk
theorem cd_minL {l : Bool} {K : PySem.W.Frag} : CallD l .e (rMin K) gMinL := fun z X H0 H σ env vs ds Q k o h c hp => by
  obtain ⟨xs, ns, rfl, hi, hne, hk⟩ := hp
  obtain ⟨a, rfl, ha⟩ := one_ints h hi
  refine ⟨a, ns, rfl, SqL.of ha, List.length_pos_iff.mpr hne, fun m h1 h2 => ?_⟩
  rw [minI_eq h1 h2]
  exact c _ _ H (Evo.refl _ _) (Is.int _) hk
theorem cd_sum {l : Bool} {K : PySem.W.Frag} : CallD l .e (rSum K) gSum := fun z X H0 H σ env vs ds Q k o h c hp => by
  obtain ⟨xs, ns, rfl, hi, hk⟩ := hp
  obtain ⟨a, rfl, ha⟩ := one_ints h hi
  exact ⟨a, ns, rfl, SqL.of ha, c _ _ H (Evo.refl _ _) (Is.int _) hk⟩
/-- len -/
def gLen : List D → (D → Prop) → Prop := fun ds k => match ds with
  | [.tup xs] => k (.int xs.length)
  | [.lst xs] => k (.int xs.length)
  | [.str s] => s.length ≤ 100000 ∧ k (.int s.length)
  | _ => False
def rLenA (K : PySem.W.Frag) : List V → Hp → VK → Prop := fun xs H Q => (∃ p ys, xs = [.ref p] ∧ (SqL K H p ys ∨ SqT K H p ys) ∧ Q (.int ys.length) H) ∨ (∃ z, xs = [.str z] ∧ z.length ≤ sizeLine ∧ Q (.int z.length) H)
theorem call_lenA {C : Cx} : CallR C (.builtin "len") (rLenA C.K) := callr_or call_len_seq call_len_str
theorem cd_len {l : Bool} {K : PySem.W.Frag} : CallD l .e (rLenA K) gLen := fun z X H0 H σ env vs ds Q k o h c hp => by
  unfold gLen at hp
  split at hp
  · obtain ⟨v, rfl, hv⟩ := h.one
    cases hv with
    | tup e n r => exact .inl ⟨_, _, rfl, .inr (SqT.of e), by rw [r.length]; exact c _ _ H (Evo.refl _ _) (Is.int _) hp⟩
  · obtain ⟨v, rfl, hv⟩ := h.one
    cases hv with
    | lst e n r => exact .inl ⟨_, _, rfl, .inl (SqL.of e), by rw [r.length]; exact c _ _ H (Evo.refl _ _) (Is.int _) hp⟩
  · obtain ⟨v, rfl, hv⟩ := h.one
    cases hv
    exact .inr ⟨_, rfl, sz hp.1, c _ _ H (Evo.refl _ _) (Is.int _) hp.2⟩
  · exact hp.elim
/-- int of a truth or a number -/
def gInt : List D → (D → Prop) → Prop := fun ds k => match ds with
  | [.int i] => k (.int i)
  | [.bl b] => k (.int (if b then 1 else 0))
  | _ => False
theorem cd_int {l : Bool} : CallD l .e (fun xs H Q => (∃ i, xs = [.int i] ∧ Q (.int i) H) ∨ ∃ k, xs = [.bl k] ∧ Q (.int (if k then 1 else 0)) H) gInt := fun z X H0 H σ env vs ds Q k o h c hp => by
  unfold gInt at hp
  split at hp
  · obtain ⟨v, rfl, hv⟩ := h.one
    cases hv
    exact .inl ⟨_, rfl, c _ _ H (Evo.refl _ _) (Is.int _) hp⟩
  · obtain ⟨v, rfl, hv⟩ := h.one
    cases hv
    exact .inr ⟨_, rfl, c _ _ H (Evo.refl _ _) (Is.int _) hp⟩
  · exact hp.elim
/-- isinstance -/
def tyD : D → Option String
  | .non => some "NoneType"
  | .bl _ => some "bool"
  | .int _ => some "int"
  | .str _ => some "str"
  | .tup _ => some "tuple"
  | .lst _ => some "list"
  | .dic _ => some "dict"
  | _ => none
def isB : String → String → Option Bool
  | "int", "int" => some true
  | "bool", "int" => some true
  | "bool", "bool" => some true
  | "str", "str" => some true
  | "tuple", "tuple" => some true
  | "list", "list" => some true
  | "dict", "dict" => some true
  | "NoneType", "int" => some false
  | "NoneType", "bool" => some false
  | "NoneType", "str" => some false
  | "NoneType", "tuple" => some false
  | "NoneType", "list" => some false
  | "NoneType", "dict" => some false
  | "bool", "str" => some false
  | "bool", "tuple" => some false
  | "bool", "list" => some false
  | "bool", "dict" => some false
  | "int", "bool" => some false
  | "int", "str" => some false
  | "int", "tuple" => some false
  | "int", "list" => some false
  | "int", "dict" => some false
  | "str", "int" => some false
  | "str", "bool" => some false
  | "str", "tuple" => some false
  | "str", "list" => some false
  | "str", "dict" => some false
  | "tuple", "int" => some false
  | "tuple", "bool" => some false
  | "tuple", "str" => some false
  | "tuple", "list" => some false
  | "tuple", "dict" => some false
  | "list", "int" => some false
  | "list", "bool" => some false
  | "list", "str" => some false
  | "list", "tuple" => some false
  | "list", "dict" => some false
  | "dict", "int" => some false
  | "dict", "bool" => some false
  | "dict", "str" => some false
  | "dict", "tuple" => some false
  | "dict", "list" => some false
  | _, _ => none
theorem isB_kit {a b : String} {r : Bool} (h : isB a b = some r) : kitB a b = some r := by
  unfold isB at h
  split at h <;> first | (cases h; decide +kernel) | cases h
def gIsi : List D → (D → Prop) → Prop := fun ds k => match ds with
  | [x, .ty n] => ∃ t b, tyD x = some t ∧ isB t n = some b ∧ k (.bl b)
  | _ => False
theorem Is.ty' {z : Zn} {M : AP} {H : Hp} {v : V} {d : D} {K : PySem.W.Frag} {t : String} (h : Is z M H v d) (e : tyD d = some t) : TyOf K H v (.type t) := by
  cases h with
  | non => cases e; exact .non
  | bl b => cases e; exact .bl b
  | int b => cases e; exact .int b
  | str b => cases e; exact .str b
  | tup h _ _ => cases e; exact .tup h
  | lst h _ _ => cases e; exact .lst h
  | dic h _ _ => cases e; exact .dK h
  | _ => cases e
theorem cd_isi {l : Bool} {K : PySem.W.Frag} : CallD l .e (rIsi K) gIsi := fun z X H0 H σ env vs ds Q k o h c hp => by
  unfold gIsi at hp
  split at hp
  · obtain ⟨v, u, rfl, hv, hu⟩ := h.two
    cases hu
    obtain ⟨t, b, h1, h2, hk⟩ := hp
    exact ⟨v, .ty _, .type t, .type _, b, rfl, .ty _, .base (hv.ty' h1), kit_ty (isB_kit h2), c _ _ H (Evo.refl _ _) (Is.bl _) hk⟩
  · exact hp.elim
section
variable {C : Cx} {e : Expr} {p : PX} {m : Mode} {pos pp : Pos} {x : Str}
/-- tuple(x), list(x) -/
def dTuple : D → (D → Prop) → Prop := fun d k => match d with
  | .lst xs => k (.tup xs)
  | .tup xs => k (.tup xs)
  | _ => False
def dList : D → (D → Prop) → Prop := fun d k => match d with
  | .lst xs => k (.lst xs)
  | .tup xs => k (.lst xs)
  | _ => False
theorem e_tuple (h : E .c C e p) (hg : Gl C x) (hm : C.mg x = none) (hv : bootBuiltins x = some (.type "tuple")) (hn : x ≠ "__name__" := by decide) (hdb : (x == ("__debug__" : Str)) = false := by decide)
    (he : starEach [e] C.env = (false, eval e C.env) :: starEach [] C.env := by rfl) (hpl : (backTo pos (starEach [] C.env)).any (·.1) = false := by rfl) : E .e C (.Call (.Name x pp) [e] [] pos) (eUn dTuple p) := by
  obtain ⟨t, h1, h2⟩ := h
  refine ⟨_, pe_callTy call_tuple_of hg hm hv (pa_cons h1 pa_nil he) hn hdb he hpl, fun z X H0 H σ env Q k o c hp => h2 z X H0 H σ env _ _ o (fun d v H1 e1 r1 hx => ?_) hp⟩
  cases d with
  | tup xs =>
    obtain ⟨a, vs, rfl, q1, q2, n⟩ := r1.conT
    exact ⟨a, vs, rfl, .inr ⟨SqT.of q1, c _ _ H1 e1 (Is.tup q1 n q2) hx⟩⟩
  | lst xs =>
    obtain ⟨a, vs, rfl, q1, q2, n⟩ := r1.conL
    exact ⟨a, vs, rfl, .inl ⟨SqL.of q1, fun q hq => c _ _ _ (e1.new hq) ((Rel.newT (e1.fresh hq) hq q2).fe o) hx⟩⟩
  | _ => exact (show False from hx).elim
theorem e_list (h : E .c C e p) (hg : Gl C x) (hm : C.mg x = none) (hv : bootBuiltins x = some (.type "list")) (hn : x ≠ "__name__" := by decide) (hdb : (x == ("__debug__" : Str)) = false := by decide)
    (he : starEach [e] C.env = (false, eval e C.env) :: starEach [] C.env := by rfl) (hpl : (backTo pos (starEach [] C.env)).any (·.1) = false := by rfl) : E .f C (.Call (.Name x pp) [e] [] pos) (eUn dList p) := by
  obtain ⟨t, h1, h2⟩ := h
  refine ⟨_, pe_callTy call_list_of hg hm hv (pa_cons h1 pa_nil he) hn hdb he hpl, fun z X H0 H σ env Q k o c hp => h2 z X H0 H σ env _ _ o (fun d v H1 e1 r1 hx => ?_) hp⟩
  cases d with
  | tup xs =>
    obtain ⟨a, vs, rfl, q1, q2, n⟩ := r1.conT
    exact ⟨a, vs, rfl, .inr (SqT.of q1), fun q hq => c _ _ _ (e1.new hq) (Rel.newL (e1.fresh hq) hq q2) hx⟩
  | lst xs =>
    obtain ⟨a, vs, rfl, q1, q2, n⟩ := r1.conL
    exact ⟨a, vs, rfl, .inl (SqL.of q1), fun q hq => c _ _ _ (e1.new hq) (Rel.newL (e1.fresh hq) hq q2) hx⟩
  | _ => exact (show False from hx).elim
end
/-! ### calls of the program's own defs -/
/-- the promise of a def by its reading wp without places; fr: it gives a new list -/
def Sf (fr : Bool) (n : Nat) (wp : List D → (D → Prop) → Prop) : Sp := fun vs H Q _ => ∃ (z : Zn) (X : AP) (ds : List D) (k : D → Prop), vs.length = n ∧ ((∀ a, z.Z a → H a ≠ none) ∧ Tabs H) ∧ (∀ a, X a → H a ≠ none ∧ ¬ z.Z a) ∧ IsA z (Zx z X) H vs ds ∧ wp ds k ∧
  ∀ d v H', Evo z H H' → Is z (Zx z X) H' v d → (fr = true → ∃ a, v = .ref a ∧ H a = none ∧ Con z (Zx z (X.or a)) H' a d) → k d → Q v H'
section
variable {C : Cx} {e : Expr} {es : List Expr} {p : PX} {ga : PAs} {m mo : Mode} {fr : Bool} {k n : Nat} {pos pp : Pos} {x : Str} {f : Addr} {fd : FuncData} {ps : List Str} {wp : List D → (D → Prop) → Prop}
/-- what slots own, and X -/
def Ox (X : AP) (σ : Sl) (env : List SV) : AP := fun a => X a ∨ ∃ (i : Nat) (d : D), env[i]? = some (.own d) ∧ σ[i]? = some (some (V.ref a))
theorem Ok.ox {z : Zn} {X : AP} {H0 H : Hp} {σ : Sl} {env : List SV} (o : Ok z X H0 H σ env) {a : Addr} (h : Ox X σ env a) : H a ≠ none ∧ ¬ z.Z a := by
  rcases h with h | ⟨i, d, h1, h2⟩
  · exact o.xal a h
  · obtain ⟨b, q1, q2, q3, _⟩ := o.own i d h1
    rw [h2] at q1
    cases q1
    obtain ⟨u, hu⟩ := q2.some
    exact ⟨(by rw [hu]; intro w; cases w), q3⟩
theorem zx_ox {z : Zn} {X : AP} {σ : Sl} {env : List SV} {a : Addr} : Zx z (Ox X σ env) a ↔ Ms z X σ env a := by
  constructor
  · rintro (h | h | h)
    · exact .inl h
    · exact .inr (.inl h)
    · exact .inr (.inr h)
  · rintro (h | h | h)
    · exact .inl h
    · exact .inr (.inl h)
    · exact .inr (.inr h)
theorem re_call {t : TA} (h : RA true t ga) (E' : XK) (hm : mo = .e ∨ (mo = .f ∧ fr = true)) : RE mo (tCall (Sf fr n wp) [] E' t) (eCall (fun ds k => ds.length = n ∧ wp ds k) ga) := fun z X H0 H σ env Q k o c hp => by
  refine h z X H0 H σ env _ _ o (fun ds vs H1 e1 r1 hx => ?_) hp
  have o1 := o.go e1
  rw [if_pos rfl] at r1
  refine ⟨z, Ox X σ env, ds, k, by rw [List.append_nil, r1.length]; exact hx.1, ⟨o1.zal, o1.tab⟩, fun a => o1.ox, by rw [List.append_nil]; exact r1.weak fun a q => zx_ox.mp q, hx.2, fun d v H2 e2 r2 fq kd => ?_⟩
  refine c d v H2 (e1.trans e2) ?_ kd
  rcases hm with rfl | ⟨rfl, hf⟩
  · exact Is.weak (fun a q => zx_ox.mpr q) r2
  · obtain ⟨a, ev, ha, hc⟩ := fq hf
    refine ⟨a, ev, e1.fresh ha, hc.gen (fun _ q => q) (fun b u q n => ⟨q, fun y => n ?_⟩) fun _ h => h⟩
    rcases y with y | (y | y) | y
    · exact .inl y
    · exact .inr (.inl (.inl y))
    · exact .inr (.inr y)
    · exact .inr (.inl (.inr y))
theorem e_call (F : FnOk C.prog C.w C.K C.mg C.base CX0 k f fd ps (Sf fr n wp)) (hr : Room k C.A) (hg : Gl C x) (hm : C.mg x = some (.ref f)) (hk : PySem.W.keepIn C.K (.ref f) = true) (hb : Binds C.K fd ps [])
    (ha : A true C (e :: es) ga) (hmo : mo = .e ∨ (mo = .f ∧ fr = true)) (hdb : (x == ("__debug__" : Str)) = false := by decide) (he : starEach (e :: es) C.env = (false, eval e C.env) :: starEach es C.env := by rfl) (hpl : (backTo pos (starEach es C.env)).any (·.1) = false := by rfl) :
    E mo C (.Call (.Name x pp) (e :: es) [] pos) (eCall (fun ds k => ds.length = n ∧ wp ds k) ga) := by
  obtain ⟨t, h1, h2⟩ := ha
  exact ⟨_, pe_call F hr hg hm hk hb .nil pass0 h1 hdb he hpl, re_call h2 E0 hmo⟩
end
end Pu
namespace Pu
open PySem PySem.Spec PyProof.Rows L2
variable [Tbs]
/-! ### statements -/
structure PK' where
  nx : List SV → Prop
  rt : D → Prop
  bk : List SV → Prop := fun _ => False
  ct : List SV → Prop := fun _ => False
  /-- a return of a def that hands a borrowed thing back -/
  re : List SV → D → Prop := fun _ _ => False
abbrev PSt := List SV → PK' → Prop
structure Sim (fr : Bool) (z : Zn) (X : AP) (H0 : Hp) (M : AP) (H : Hp) (G : Ends) (k : PK') : Prop where
  nx : ∀ env' σ' H', Ok z X H0 H' σ' env' → Fr z X M H (Ms z X σ' env') H' → k.nx env' → G.nx σ' H'
  rt : ∀ d v H', Evo z H0 H' → Is z (Zx z X) H' v d → (fr = true → ∃ a, v = .ref a ∧ H0 a = none ∧ Con z (Zx z (X.or a)) H' a d) → k.rt d → G.rt v H'
  bk : ∀ env' σ' H', Ok z X H0 H' σ' env' → Fr z X M H (Ms z X σ' env') H' → k.bk env' → G.bk σ' H'
  ct : ∀ env' σ' H', Ok z X H0 H' σ' env' → Fr z X M H (Ms z X σ' env') H' → k.ct env' → G.ct σ' H'
  re : ∀ env' σ' H' d v, Ok z X H0 H' σ' env' → Is z (Ms z X σ' env') H' v d → k.re env' d → G.rt v H'
theorem Sim.go {fr : Bool} {z : Zn} {X : AP} {H0 : Hp} {M M1 : AP} {H H1 : Hp} {G : Ends} {k : PK'} (s : Sim fr z X H0 M H G k) (f : Fr z X M H M1 H1) : Sim fr z X H0 M1 H1 G k :=
  ⟨fun e σ H' o g h => s.nx e σ H' o (f.trans g) h, s.rt, fun e σ H' o g h => s.bk e σ H' o (f.trans g) h, fun e σ H' o g h => s.ct e σ H' o (f.trans g) h, s.re⟩
def RS (fr : Bool) (t : TS) (p : PSt) : Prop := ∀ (z : Zn) (X : AP) (H0 H : Hp) (σ : Sl) (env : List SV) (G : Ends) (k : PK'), Ok z X H0 H σ env → Sim fr z X H0 (Ms z X σ env) H G k → p env k → t G σ H
structure S (fr : Bool) (C : Cx) (st : Stmt) (p : PSt) : Prop where
  ex : ∃ t, PS C st t ∧ RS fr t p
structure B (fr : Bool) (C : Cx) (st : List Stmt) (p : PSt) : Prop where
  ex : ∃ t, PSs C st t ∧ RS fr t p
section
variable {C : Cx} {fr : Bool} {st : Stmt} {rest : List Stmt} {p q : PSt} {e : Expr} {pe : PX} {m : Mode} {pos : Pos}
def sNext : PSt := fun env k => k.nx env
def sSeq (p q : PSt) : PSt := fun env k => p env { k with nx := fun env' => q env' k }
theorem b_nil : B fr C [] sNext := ⟨_, pss_nil, fun z X H0 H σ env G k o s h => s.nx env σ H o Fr.refl h⟩
theorem b_cons (h : S fr C st p) (g : B fr C rest q) : B fr C (st :: rest) (sSeq p q) := by
  obtain ⟨t, h1, h2⟩ := h
  obtain ⟨u, g1, g2⟩ := g
  refine ⟨_, pss_cons h1 g1, fun z X H0 H σ env G k o s hp => h2 z X H0 H σ env _ { k with nx := fun env' => q env' k } o ⟨fun env' σ' H' o' f hx => ?_, s.rt, s.bk, s.ct, s.re⟩ hp⟩
  exact g2 z X H0 H' σ' env' G k o' (s.go f) hx
theorem b_one (h : S fr C st p) : B fr C [st] p := let ⟨t, h1, h2⟩ := h; ⟨t, pss_one h1, h2⟩
def sDrop (p : PX) : PSt := fun env k => p env fun _ => k.nx env
def sRet (p : PX) : PSt := fun env k => p env k.rt
theorem s_ret (h : E m C e pe) : S false C (.Return (some e) pos) (sRet pe) := by
  obtain ⟨t, h1, h2⟩ := h.toB
  exact ⟨_, ps_ret h1, fun z X H0 H σ env G k o s hp => h2 z X H0 H σ env _ _ o (fun d v H1 e1 r1 hx => s.rt d v H1 (o.evo.trans e1) r1 (fun q => Bool.noConfusion q) hx) hp⟩
/-- return of a list that a slot owns -/
def sRetO (i : Nat) : PSt := fun env k => match env[i]? with
  | some (.own d) => k.rt d
  | _ => False
theorem s_retO (i : Nat) {x : Str} {pp : Pos} (hN : C.N[i]? = some x := by rfl) (hv : Vis C.env.scope x := by first | exact Or.inl rfl | exact Or.inr (Or.inl rfl) | exact Or.inr (Or.inr rfl)) (hd : (x == ("__debug__" : Str)) = false := by decide)
    (hcd : (x == ("__classdict__" : Str)) = false := by decide) : S fr C (.Return (some (.Name x pp)) pos) (sRetO i) := by
  refine ⟨_, ps_ret (pe_var hN hv hd hcd), fun z X H0 H σ env G k o s hp => ?_⟩
  unfold sRetO at hp
  split at hp
  · rename_i d he
    obtain ⟨a, h1, h2, h3, h4, h5⟩ := o.own i d he
    refine ⟨_, h1, s.rt d _ H o.evo ((h2.gen (fun _ q => q) (fun b u q n => ⟨q, fun y => n y.ms⟩) fun _ h => h).is fun q => q.elim h3 h4) (fun _ => ⟨a, rfl, h5, h2.gen (fun _ q => q) (fun b u q n => ⟨q, fun y => n ?_⟩) fun _ h => h⟩) hp⟩
    rcases y with y | y | y
    · exact .inl y
    · exact .inr (.inl y)
    · exact .inr (.inr ⟨i, d, he, by rw [y]; exact h1⟩)
  · exact hp.elim
def sRetN : PSt := fun _ k => k.rt .non
def sIf (c : PTs') (p q : PSt) : PSt := fun env k => c env fun b => if b = true then p env k else q env k
theorem s_if {c : Expr} {a b : List Stmt} {tc : PTs'} (h : T C c tc) (ha : B fr C a p) (hb : B fr C b q) : S fr C (.If c a b pos) (sIf tc p q) := by
  obtain ⟨t, h1, h2⟩ := h
  obtain ⟨ta, a1, a2⟩ := ha
  obtain ⟨tb, b1, b2⟩ := hb
  refine ⟨_, ps_if h1 a1 b1, fun z X H0 H σ env G k o s hp => h2 z X H0 H σ env _ _ o (fun x H1 e1 hx => ?_) hp⟩
  cases x with
  | true => exact a2 z X H0 H1 σ env G k (o.go e1) (s.go (o.fr e1)) hx
  | false => exact b2 z X H0 H1 σ env G k (o.go e1) (s.go (o.fr e1)) hx
/-! ### stores -/
def sSet (i : Nat) (p : PX) : PSt := fun env k => p env fun d => k.nx (env.set i (.val d))
theorem s_set {i : Nat} {x : Str} {pp : Pos} (h : E .e C e pe) (hN : C.N.Nodup) (hi : C.N[i]? = some x) (hx : Loc C.env.scope x) (hs : swapsWith e (some (.Name x pp)) pos.line C.env = pure false := by rfl) (hf : C.fn x = true ∨ C.env.scope.names.lookup x = some .local := by first | exact .inl rfl | exact .inr rfl | assumption) :
    S fr C (.Assign [.Name x pp] e pos) (sSet i pe) := by
  obtain ⟨t, h1, h2⟩ := h
  refine ⟨_, ps_set hN hi hx h1 hs hf, fun z X H0 H σ env G k o s hp => h2 z X H0 H σ env _ _ o (fun d v H1 e1 r1 hx => ?_) hp⟩
  obtain ⟨o2, f2⟩ := (o.go e1).set (i := i) (show Is z _ H1 v d from r1)
  exact s.nx _ _ H1 o2 ((o.fr e1).trans f2) hx
def sOwn (i : Nat) (p : PX) : PSt := fun env k => p env fun d => i < env.length ∧ k.nx (env.set i (.own d))
theorem rs_own {i : Nat} {t : TE} (h : RE .f t pe) : RS fr (tAsg t (gName i)) (sOwn i pe) := fun z X H0 H σ env G k o s hp => h z X H0 H σ env _ _ o (fun d v H1 e1 r1 hx => by
  obtain ⟨a, rfl, ha, hc⟩ := r1
  obtain ⟨o2, f2⟩ := o.take hx.1 e1 ha hc
  exact s.nx _ _ H1 o2 f2 hx.2) hp
theorem s_own {i : Nat} {x : Str} {pp : Pos} (h : E .f C e pe) (hN : C.N.Nodup) (hi : C.N[i]? = some x) (hx : Loc C.env.scope x) (hs : swapsWith e (some (.Name x pp)) pos.line C.env = pure false := by rfl) (hf : C.fn x = true ∨ C.env.scope.names.lookup x = some .local := by first | exact .inl rfl | exact .inr rfl | assumption) :
    S fr C (.Assign [.Name x pp] e pos) (sOwn i pe) := by
  obtain ⟨t, h1, h2⟩ := h
  exact ⟨_, ps_set hN hi hx h1 hs hf, rs_own h2⟩
/-- targets -/
abbrev PGt := D → List SV → (List SV → Prop) → Prop
abbrev PGs' := List D → List SV → (List SV → Prop) → Prop
/-- nothing but the slots js is stored to -/
def Keep (js : List Nat) (σ : Sl) (env : List SV) (σ' : Sl) (env' : List SV) : Prop := σ'.length = σ.length ∧ ∀ i, i ∉ js → env'[i]? = env[i]? ∧ σ'[i]? = σ[i]?
theorem Keep.refl {σ : Sl} {env : List SV} : Keep [] σ env σ env := ⟨rfl, fun _ _ => ⟨rfl, rfl⟩⟩
theorem Keep.trans {a b : List Nat} {σ σ1 σ2 : Sl} {env env1 env2 : List SV} (h : Keep a σ env σ1 env1) (g : Keep b σ1 env1 σ2 env2) : Keep (a ++ b) σ env σ2 env2 :=
  ⟨g.1.trans h.1, fun i hi => by
    rw [List.mem_append, not_or] at hi
    exact ⟨(g.2 i hi.2).1.trans (h.2 i hi.1).1, (g.2 i hi.2).2.trans (h.2 i hi.1).2⟩⟩
def RG (js : List Nat) (g : TG) (p : PGt) : Prop := ∀ (z : Zn) (X : AP) (H0 H : Hp) (σ : Sl) (env : List SV) (v : V) (d : D) (Q : Sl → Hp → Prop) (k : List SV → Prop), Ok z X H0 H σ env → Is z (Ms z X σ env) H v d →
  (∀ env' σ', Ok z X H0 H σ' env' → Fr z X (Ms z X σ env) H (Ms z X σ' env') H → Keep js σ env σ' env' → k env' → Q σ' H) → p d env k → g v σ H Q
def RGs (js : List Nat) (g : TGs) (p : PGs') : Prop := ∀ (z : Zn) (X : AP) (H0 H : Hp) (σ : Sl) (env : List SV) (v : List V) (d : List D) (Q : Sl → Hp → Prop) (k : List SV → Prop), Ok z X H0 H σ env → IsA z (Ms z X σ env) H v d →
  (∀ env' σ', Ok z X H0 H σ' env' → Fr z X (Ms z X σ env) H (Ms z X σ' env') H → Keep js σ env σ' env' → k env' → Q σ' H) → p d env k → g v σ H Q
structure G (C : Cx) (tg : Expr) (js : List Nat) (g : TG) (p : PGt) : Prop where
  pg : PG C tg g
  rg : RG js g p
structure Gs (C : Cx) (tg : List Expr) (js : List Nat) (g : TGs) (p : PGs') : Prop where
  pg : PGs C tg g
  rg : RGs js g p
def gtName (i : Nat) : PGt := fun d env k => k (env.set i (.val d))
theorem g_name {i : Nat} {x : Str} (hN : C.N.Nodup) (hi : C.N[i]? = some x) (hx : Loc C.env.scope x) (hf : C.fn x = true ∨ C.env.scope.names.lookup x = some .local := by first | exact .inl rfl | exact .inr rfl | assumption) : G C (.Name x pos) [i] (gName i) (gtName i) :=
  ⟨pg_name hN hi hx hf, fun z X H0 H σ env v d Q k o hv c hp => let ⟨o2, f2⟩ := o.set (i := i) hv; c _ _ o2 f2 ⟨by simp, fun j hj => by
    have hj' : i ≠ j := fun e => hj (by simp [e])
    exact ⟨List.getElem?_set_ne hj', List.getElem?_set_ne hj'⟩⟩ hp⟩
def gtNil : PGs' := fun ds env k => match ds with
  | [] => k env
  | _ => False
def gtCons (p : PGt) (q : PGs') : PGs' := fun ds env k => match ds with
  | d :: r => p d env fun env' => q r env' k
  | _ => False
theorem gs_nil : Gs C [] [] gNil gtNil := ⟨pgs_nil, fun z X H0 H σ env v d Q k o hv c hp => by
  cases hv with
  | nil => exact ⟨rfl, c env σ o Fr.refl Keep.refl hp⟩
  | cons _ _ => exact (show False from hp).elim⟩
theorem gs_cons {es : List Expr} {js ks : List Nat} {g : TG} {gs : TGs} {p : PGt} {q : PGs'} (h1 : G C e js g p) (h2 : Gs C es ks gs q) (hs : (assignEach (e :: es) C.env).map (·.2) = assign e C.env :: (assignEach es C.env).map (·.2) := by rfl) : Gs C (e :: es) (js ++ ks) (gCons g gs) (gtCons p q) :=
  ⟨pgs_cons h1.pg h2.pg hs, fun z X H0 H σ env v d Q k o hv c hp => by
    cases hv with
    | nil => exact (show False from hp).elim
    | cons q t =>
      refine ⟨_, _, rfl, h1.rg z X H0 H σ env _ _ _ _ o q (fun env' σ' o' f' kp hx => ?_) hp⟩
      exact h2.rg z X H0 H σ' env' _ _ _ _ o' (f'.isA t) (fun env2 σ2 o2 f2 kp2 hy => c env2 σ2 o2 (f'.trans f2) (kp.trans kp2) hy) hx⟩
def gtTup (n : Nat) (q : PGs') : PGt := fun d env k => match d with
  | .tup ds => ds.length = n ∧ q ds env k
  | _ => False
theorem g_tup {es : List Expr} {js : List Nat} {kk : Nat} {gs : TGs} {q : PGs'} {n : Nat} (hc : C.calm = true) (h : Gs C es js gs q)
    (hn : (assignEach es C.env).length = n := by rfl) (hst : (assignEach es C.env).findIdx? (·.1) = none := by rfl) : G C (.Tuple es kk pos) js (gTup C.K n gs) (gtTup n q) :=
  ⟨pg_tup hc h.pg hn hst, fun z X H0 H σ env v d Q k o hv c hp => by
    cases hv with
    | tup e nn r => exact ⟨_, _, rfl, SqT.of e, by rw [r.length]; exact hp.1, h.rg z X H0 H σ env _ _ _ _ o r c hp.2⟩
    | _ => exact (show False from hp).elim⟩
def sAsg (p : PX) (g : PGt) : PSt := fun env k => p env fun d => g d env k.nx
theorem s_asg {tg : Expr} {js : List Nat} {g : TG} {pg : PGt} (h : E .e C e pe) (hg : G C tg js g pg) (hs : swapsWithSole [tg] e pos.line C.env = pure false := by rfl) (hw : swappedStores [tg] e C.env = pure none := by rfl)
    (h1 : (assignEach [tg] C.env).map (·.2) = [assign tg C.env] := by rfl) : S fr C (.Assign [tg] e pos) (sAsg pe pg) := by
  obtain ⟨t, a1, a2⟩ := h
  refine ⟨_, ps_asg a1 hg.pg hs hw h1, fun z X H0 H σ env G k o s hp => a2 z X H0 H σ env _ _ o (fun d v H1 e1 r1 hx => ?_) hp⟩
  exact hg.rg z X H0 H1 σ env v d _ _ (o.go e1) r1 (fun env' σ' o' f' _ hy => s.nx env' σ' H1 o' ((o.fr e1).trans f') hy) hx
/-- a, b = x, y -/
def prK (ds : List D) (k : D → D → Prop) : Prop := match ds with
  | [c, d] => k c d
  | _ => False
def sPar (i j : Nat) (g : PAs) : PSt := fun env k => g env fun ds => prK ds fun c d => k.nx ((env.set i (.val c)).set j (.val d))
/-! ### what a slot owns is changed -/
/-- x.append(e) -/
def sAppend (i : Nat) (p : PX) : PSt := fun env k => match env[i]? with
  | some (.own (.lst xs)) => p env fun d => xs.length ≤ 100000 ∧ k.nx (env.set i (.own (.lst (xs ++ [d]))))
  | some (.own (.bor xs)) => p env fun d => xs.length ≤ 100000 ∧ k.nx (env.set i (.own (.bor (xs ++ [d]))))
  | _ => False
theorem szl {n : Nat} (h : n ≤ 100000) : n < sizeLine := Nat.lt_of_le_of_lt h (by decide)
theorem s_append (i : Nat) {x : Str} {pp apos cpos : Pos} (h : E .e C e pe) (hN : C.N[i]? = some x := by rfl) (hv : Vis C.env.scope x := by first | exact Or.inl rfl | exact Or.inr (Or.inl rfl) | exact Or.inr (Or.inr rfl)) (hd : (x == ("__debug__" : Str)) = false := by decide)
    (hcd : (x == ("__classdict__" : Str)) = false := by decide)
    (hb : ∀ to te, PE C (.Name x pp) to → PE C e te → PE C (.Call (.Attribute (.Name x pp) "append" apos) [e] [] cpos) (tBM C.K "list" rAppend to (tCons te tNil)))
    (hs : swapsWith (.Call (.Attribute (.Name x pp) "append" apos) [e] [] cpos) none pos.line C.env = pure false := by rfl) :
    S fr C (.Expr (.Call (.Attribute (.Name x pp) "append" apos) [e] [] cpos) pos) (sAppend i pe) := by
  obtain ⟨t, h1, h2⟩ := h
  refine ⟨_, ps_expr (hb _ _ (pe_var hN hv hd hcd) h1) hs, fun z X H0 H σ env G k o s hp => ?_⟩
  unfold sAppend at hp
  split at hp
  · rename_i xs he
    obtain ⟨a, q1, q2, q3, q4⟩ := o.own i _ he
    obtain ⟨vs, q5, q6⟩ := q2
    refine ⟨_, q1, .inl ⟨rfl, vs, SqL.of q5⟩, h2 z X H0 H σ env _ _ o (fun d v H1 e1 r1 hx => ?_) hp⟩
    have o1 := o.go e1
    have q5' := e1.old a _ q5 q3
    refine ⟨a, vs, v, rfl, rfl, q5', by rw [q6.length]; exact szl hx.1, ?_⟩
    have ia : Ms z X σ env a := .inr (.inr ⟨i, _, he, q1⟩)
    have old : ∀ b u, H1 b = some u → ¬ Ms z X σ env b → upd H1 a (.lst (vs ++ [v])) b = some u ∧ ¬ Ms z X σ env b := fun b u hb n => ⟨by rw [upd_ne (fun e => n (by rw [e]; exact ia))]; exact hb, n⟩
    obtain ⟨o2, f2⟩ := o1.mut (o := .lst (vs ++ [v])) he q1 (d' := .lst (xs ++ [d])) ⟨vs ++ [v], upd_same, ((IsA.evo (fun _ q => .inl q) e1 q6).append (.cons r1 .nil)).gen old fun b hb => ok_mut q3 hb⟩
    exact s.nx _ _ _ o2 ((o.fr e1).trans f2) hx.2
  · rename_i xs he
    obtain ⟨a, q1, q2, q3, q4⟩ := o.own i _ he
    obtain ⟨qb, vs, q5, q6⟩ := q2
    refine ⟨_, q1, .inl ⟨rfl, vs, SqL.of q5⟩, h2 z X H0 H σ env _ _ o (fun d v H1 e1 r1 hx => ?_) hp⟩
    have o1 := o.go e1
    have q5' := e1.old a _ q5 q3
    refine ⟨a, vs, v, rfl, rfl, q5', by rw [q6.length]; exact szl hx.1, ?_⟩
    have ia : Ms z X σ env a := .inr (.inr ⟨i, _, he, q1⟩)
    have old : ∀ b u, H1 b = some u → ¬ Ms z X σ env b → upd H1 a (.lst (vs ++ [v])) b = some u ∧ ¬ Ms z X σ env b := fun b u hb n => ⟨by rw [upd_ne (fun e => n (by rw [e]; exact ia))]; exact hb, n⟩
    obtain ⟨o2, f2⟩ := o1.mut (o := .lst (vs ++ [v])) he q1 (d' := .bor (xs ++ [d])) ⟨qb, vs ++ [v], upd_same, ((IsA.evo (fun _ q => .inl q) e1 q6).append (.cons r1 .nil)).gen old fun b hb => ok_mut q3 hb⟩
    exact s.nx _ _ _ o2 ((o.fr e1).trans f2) hx.2
  · exact hp.elim
end
/-! ### loops -/
def forP (g : PGt) (body : PSt) : List D → PSt
  | [], env, k => k.nx env
  | d :: ds, env, k => g d env fun env1 => body env1 { nx := fun env2 => forP g body ds env2 k, rt := k.rt, bk := k.nx, ct := fun env2 => forP g body ds env2 k }
/-- how J yields the items ds, wherever what stood outside M stands -/
def Yields (z : Zn) (X : AP) (M : AP) (H : Hp) (J : It) (ds : List D) : Prop := ∀ M' H', Fr z X M H M' H' → J.stop ds.length H' ∧
  ∀ i d, ds[i]? = some d → J.go i H' ∧ ∀ x H2, J.yld i H' x H2 → Evo z H' H2 ∧ ((∀ a, z.Z a → M' a) → (∀ b, H' b = none → ¬ M' b) → Is z M' H2 x d)
abbrev PIt := List SV → (List D → Prop) → Prop
def RI (wi : TI) (p : PIt) : Prop := ∀ (z : Zn) (X : AP) (H0 H : Hp) (σ : Sl) (env : List SV) (R : It → Hp → Prop) (k : List D → Prop), Ok z X H0 H σ env →
  (∀ ds J H', Evo z H H' → Yields z X (Ms z X σ env) H' J ds → k ds → R J H') → p env k → wi σ H R
structure I (C : Cx) (tg it : Expr) (p : PIt) : Prop where
  ex : ∃ wi, PI C tg it wi ∧ RI wi p
def sFor (it : PIt) (g : PGt) (body : PSt) : PSt := fun env k => it env fun ds => forP g body ds env k
theorem rs_for {fr : Bool} {wi : TI} {pi : PIt} {js : List Nat} {g : TG} {pg : PGt} {tb : TS} {pb : PSt} (hi : RI wi pi) (hg : RG js g pg) (hb : RS fr tb pb) : RS fr (tFor wi g tb) (sFor pi pg pb) := fun z X H0 H σ env G k o s hp => by
  refine hi z X H0 H σ env _ _ o (fun ds J H1 e1 yl hx => ?_) hp
  have f1 := o.fr e1
  have o1 := o.go e1
  refine ⟨fun i mm σ' H' => mm = ds.length - i ∧ i ≤ ds.length ∧ ∃ env', Ok z X H0 H' σ' env' ∧ Fr z X (Ms z X σ env) H1 (Ms z X σ' env') H' ∧ forP pg pb (ds.drop i) env' k, ⟨ds.length, by simp, Nat.zero_le _, env, o1, Fr.refl, by simpa using hx⟩, ?_⟩
  rintro i mm σ' H' ⟨rfl, hil, env', o', f', hf⟩
  obtain ⟨y1, y2⟩ := yl _ _ f'
  by_cases hlt : i < ds.length
  · obtain ⟨go, y3⟩ := y2 i ds[i] (List.getElem?_eq_getElem hlt)
    rw [List.drop_eq_getElem_cons hlt] at hf
    refine .inr ⟨go, fun σ2 H2 => ∃ env2, Ok z X H0 H2 σ2 env2 ∧ Fr z X (Ms z X σ env) H1 (Ms z X σ2 env2) H2 ∧ forP pg pb (ds.drop (i + 1)) env2 k, fun σ2 H2 h2 => ⟨ds.length - (i + 1), by omega, rfl, hlt, h2⟩, fun x H2 hy => ?_⟩
    obtain ⟨e2, is⟩ := y3 x H2 hy
    have o2 := o'.go e2
    have f2 := f'.trans (o'.fr e2)
    refine hg z X H0 H2 σ' env' x _ _ _ o2 (is (fun a q => .inl q) (fun b q => o'.notMs q)) (fun env3 σ3 o3 f3 _ hx3 => ?_) hf
    refine hb z X H0 H2 σ3 env3 _ { nx := fun env2 => forP pg pb (ds.drop (i + 1)) env2 k, rt := k.rt, bk := k.nx, ct := fun env2 => forP pg pb (ds.drop (i + 1)) env2 k } o3 ⟨fun env4 σ4 H4 o4 f4 hx4 => ⟨env4, o4, f2.trans (f3.trans f4), hx4⟩, s.rt, fun env4 σ4 H4 o4 f4 hx4 => ?_, fun env4 σ4 H4 o4 f4 hx4 => ⟨env4, o4, f2.trans (f3.trans f4), hx4⟩, fun _ _ _ _ _ _ _ h => h.elim⟩ hx3
    exact s.nx env4 σ4 H4 o4 (f1.trans (f2.trans (f3.trans f4))) hx4
  · have ei : i = ds.length := by omega
    subst ei
    rw [List.drop_length] at hf
    exact .inl ⟨y1, s.nx env' σ' H' o' (f1.trans f') hf⟩
section
variable {C : Cx} {fr : Bool} {tg e : Expr} {body : List Stmt} {pe : PX} {m : Mode} {pos pp : Pos}
theorem s_for {iter : Expr} {pi : PIt} {js : List Nat} {g : TG} {pg : PGt} {pb : PSt} (hi : I C tg iter pi) (hg : G C tg js g pg) (hb : B fr C body pb) (hp : PassesOwn (model C.prog C.w) C.A C.env C.xe) (hc : C.calm = true) (hs : ∀ x, foldedSetIterable iter C.env x = pure x := by intro _; rfl) :
    S fr C (.For tg iter body [] pos) (sFor pi pg pb) := by
  obtain ⟨wi, i1, i2⟩ := hi
  obtain ⟨tb, b1, b2⟩ := hb
  exact ⟨_, ps_for hp hc i1 hg.pg b1 hs, rs_for i2 hg.rg b2⟩
/-- over a tuple or a list -/
def sqK (d : D) (k : List D → Prop) : Prop := match d with
  | .tup xs => k xs
  | .lst xs => k xs
  | _ => False
def iSeq (p : PX) : PIt := fun env k => p env fun d => sqK d k
theorem yl_tup {z : Zn} {X : AP} {M : AP} {H : Hp} {K : PySem.W.Frag} {a : Addr} {vs : List V} {ds : List D} (h : H a = some (.tup vs)) (n : ¬ M a) (r : IsA z M H vs ds) : Yields z X M H (Itt K a) ds := fun M' H' f => by
  have h' := (f.old a _ h n).1
  have r' := f.isA r
  refine ⟨⟨vs, SqT.of h', by rw [r'.length]; exact Nat.le_refl _⟩, fun i d hd => ?_⟩
  obtain ⟨v, h1, h2⟩ := r'.get hd
  refine ⟨⟨vs, v, SqT.of h', h1⟩, fun x H2 y => ?_⟩
  obtain ⟨rfl, y⟩ := y
  refine ⟨Evo.refl _ _, fun _ _ => ?_⟩
  have e := y vs (SqT.of h')
  rw [h1] at e
  cases e
  exact h2
theorem yl_lst {z : Zn} {X : AP} {M : AP} {H : Hp} {K : PySem.W.Frag} {a : Addr} {vs : List V} {ds : List D} (h : H a = some (.lst vs)) (n : ¬ M a) (r : IsA z M H vs ds) : Yields z X M H (Itl K a) ds := fun M' H' f => by
  have h' := (f.old a _ h n).1
  have r' := f.isA r
  refine ⟨⟨vs, SqL.of h', by rw [r'.length]; exact Nat.le_refl _⟩, fun i d hd => ?_⟩
  obtain ⟨v, h1, h2⟩ := r'.get hd
  refine ⟨⟨vs, v, SqL.of h', h1⟩, fun x H2 y => ?_⟩
  obtain ⟨rfl, y⟩ := y
  refine ⟨Evo.refl _ _, fun _ _ => ?_⟩
  have e := y vs (SqL.of h')
  rw [h1] at e
  cases e
  exact h2
/-- over a range -/
def rangeD (lo : Int) (n : Nat) : List D := (List.range n).map fun i => .int (lo + (i : Nat))
theorem yl_rng {z : Zn} {X : AP} {M : AP} {H : Hp} {lo : Int} {n : Nat} : Yields z X M H (Itr lo n) (rangeD lo n) := fun M' H' f => by
  refine ⟨(by show n ≤ (rangeD lo n).length; simp [rangeD]), fun i d hd => ?_⟩
  have hi : i < n := by
    have := (List.getElem?_eq_some_iff.mp hd).1
    simpa [rangeD] using this
  refine ⟨hi, fun x H2 y => ?_⟩
  obtain ⟨rfl, rfl⟩ := y
  refine ⟨Evo.refl _ _, fun _ _ => ?_⟩
  have e : d = .int (lo + (i : Nat)) := by simpa [rangeD, hi, List.getElem?_map, List.getElem?_range] using hd.symm
  rw [e]
  exact Is.int _
def rgK1 (ds : List D) (k : List D → Prop) : Prop := match ds with
  | [.int j] => -100000 < j ∧ j < 100000 ∧ k (rangeD 0 j.toNat)
  | _ => False
def rgK2 (ds : List D) (k : List D → Prop) : Prop := match ds with
  | [.int i, .int j] => (-100000 < i ∧ i < 100000 ∧ -100000 < j ∧ j < 100000) ∧ k (rangeD i (j - i).toNat)
  | _ => False
def iRange1 (p : PAs) : PIt := fun env k => p env fun ds => rgK1 ds k
def iRange2 (p : PAs) : PIt := fun env k => p env fun ds => rgK2 ds k
theorem i_range1 {a : Expr} {p : PAs} {l : Bool} (ha : A l C [a] p) (hg : Gl C "range") (hm : C.mg "range" = none) (hs : starEach [a] C.env = [(false, eval a C.env)] := by rfl) : I C tg (.Call (.Name "range" pp) [a] [] pos) (iRange1 p) := by
  obtain ⟨t, h1, h2⟩ := ha
  refine ⟨_, pi_range1 hg hm h1 hs, fun z X H0 H σ env R k o c hp => h2 z X H0 H σ env _ _ o (fun ds vs H1 e1 r1 hx => ?_) hp⟩
  unfold rgK1 at hx
  split at hx
  · rename_i j
    cases IsA.ints (ns := [_]) r1
    exact ⟨j, rfl, by omega, by omega, c _ _ H1 e1 yl_rng hx.2.2⟩
  · exact hx.elim
end
end Pu
namespace Pu
open PySem PySem.Spec PyProof.Rows L2
variable [Tbs]
/-! ### one reading for all places -/
def tP (m : Mode) (p : PX) : TE := fun σ H Q => ∃ z X H0 env k, Ok z X H0 H σ env ∧ (∀ d v H', Evo z H H' → Rel m z X H H' σ env v d → k d → Q v H') ∧ p env k
def tPT (p : PTs') : TT := fun σ H Q => ∃ z X H0 env k, Ok z X H0 H σ env ∧ (∀ b H', Evo z H H' → k b → Q b H') ∧ p env k
def tPI (p : PIt) : TI := fun σ H R => ∃ z X H0 env k, Ok z X H0 H σ env ∧ (∀ ds J H', Evo z H H' → Yields z X (Ms z X σ env) H' J ds → k ds → R J H') ∧ p env k
section
variable {C : Cx} {m : Mode} {e tg : Expr} {p : PX} {q : PTs'} {r : PIt}
theorem E.pe (h : E m C e p) : PE C e (tP m p) := by
  obtain ⟨t, h1, h2⟩ := h
  exact ⟨fun pins s σ H Q I ⟨z, X, H0, env, k, o, c, hp⟩ => h1.run pins s σ H Q I (h2 z X H0 H σ env Q k o c hp)⟩
theorem T.pt (h : T C e q) : PT C e (tPT q) := by
  obtain ⟨t, h1, h2⟩ := h
  exact ⟨fun pins s σ H Q I ⟨z, X, H0, env, k, o, c, hp⟩ => h1.run pins s σ H Q I (h2 z X H0 H σ env Q k o c hp)⟩
theorem I.pi (h : I C tg e r) : PI C tg e (tPI r) := by
  obtain ⟨t, h1, h2⟩ := h
  exact ⟨fun pins s σ H Q I ⟨z, X, H0, env, k, o, c, hp⟩ => h1.run pins s σ H Q I (h2 z X H0 H σ env Q k o c hp)⟩
theorem re_tP : RE m (tP m p) p := fun z X H0 H σ env Q k o c hp => ⟨z, X, H0, env, k, o, c, hp⟩
theorem rt_tP : RT (tPT q) q := fun z X H0 H σ env Q k o c hp => ⟨z, X, H0, env, k, o, c, hp⟩
theorem ri_tP : RI (tPI r) r := fun z X H0 H σ env Q k o c hp => ⟨z, X, H0, env, k, o, c, hp⟩
end
/-- the tests of a clause -/
structure Ts (C : Cx) (es : List Expr) (p : PTs') : Prop where
  ex : PTs C es (tPT p)
theorem ts_nil {C : Cx} : Ts C [] (fun _ k => k true) := by
  refine ⟨⟨fun pins s σ H Q I ⟨z, X, H0, env, k, o, c, hp⟩ => ?_⟩⟩
  exact pts_nil.run pins s σ H Q I (c true H (Evo.refl _ _) hp)
theorem ts_one {C : Cx} {e : Expr} {p : PTs'} (h : T C e p) : Ts C [e] p := ⟨pts_one h.pt⟩
/-! ### comprehensions -/
def wipeE (env : List SV) : List Nat → List SV
  | [] => env
  | v :: vs => (wipeE env vs).set v .no
def noOwn (env : List SV) : List Nat → Prop
  | [] => True
  | v :: vs => (match env[v]? with | some (.own _) => False | _ => True) ∧ noOwn env vs
theorem noOwn_ne {env : List SV} : ∀ {vs : List Nat}, noOwn env vs → ∀ {i : Nat} {d : D}, env[i]? = some (.own d) → i ∉ vs
  | [], _, _, _, _ => by simp
  | v :: vs, h, i, d, e => by
    intro hi
    rcases List.mem_cons.mp hi with q | q
    · subst q
      have h1 := h.1
      rw [e] at h1
      exact h1
    · exact noOwn_ne h.2 e q
section
variable {z : Zn} {X : AP} {H0 H H1 H' : Hp} {σ σ' : Sl} {env env' : List SV}
theorem wipeE_len : ∀ vs : List Nat, (wipeE env vs).length = env.length
  | [] => rfl
  | v :: vs => by unfold wipeE; rw [List.length_set, wipeE_len vs]
theorem wipeE_out : ∀ {vs : List Nat} {i : Nat}, i ∉ vs → (wipeE env vs)[i]? = env[i]?
  | [], _, _ => rfl
  | v :: vs, i, h => by
    rw [List.mem_cons, not_or] at h
    unfold wipeE
    rw [List.getElem?_set_ne (Ne.symm h.1), wipeE_out h.2]
theorem wipeE_in : ∀ {vs : List Nat} {i : Nat}, i ∈ vs → (wipeE env vs)[i]? = none ∨ (wipeE env vs)[i]? = some .no
  | v :: vs, i, h => by
    unfold wipeE
    by_cases hv : v = i
    · subst hv
      rw [List.getElem?_set]
      simp only [if_true]
      split
      · exact .inr rfl
      · exact .inl rfl
    · rw [List.getElem?_set_ne hv]
      exact wipeE_in ((List.mem_cons.mp h).resolve_left (fun e => hv e.symm))
theorem wipe_out' : ∀ {vs : List Nat} {i : Nat}, i ∉ vs → (wipe σ vs)[i]? = σ[i]?
  | [], _, _ => rfl
  | v :: vs, i, h => by
    rw [List.mem_cons, not_or] at h
    unfold wipe
    rw [List.getElem?_set_ne (Ne.symm h.1), wipe_out' h.2]
theorem wipe_in' : ∀ {vs : List Nat} {i : Nat}, i ∈ vs → (wipe σ vs)[i]? = if i < σ.length then some none else none
  | v :: vs, i, h => by
    unfold wipe
    by_cases hv : v = i
    · subst hv
      rw [List.getElem?_set]
      simp only [if_true, wipe_length]
    · rw [List.getElem?_set_ne hv]
      exact wipe_in' ((List.mem_cons.mp h).resolve_left (fun e => hv e.symm))
theorem wipe_eq {vs js : List Nat} (h : Keep js (wipe σ vs) env σ' env') (hj : ∀ i ∈ js, i ∈ vs) : wipe σ' vs = wipe σ vs := by
  apply List.ext_getElem?
  intro i
  have hl : σ'.length = σ.length := by rw [h.1, wipe_length]
  by_cases hi : i ∈ vs
  · rw [wipe_in' hi, wipe_in' hi, hl]
  · rw [wipe_out' hi, (h.2 i (fun q => hi (hj i q))).2]
/-- one more place that is locked -/
theorem Ok.lock (o : Ok z X H0 H σ env) {a : Addr} (ha : H a = none) (e : Evo z H H') (h' : H' a ≠ none) : Ok z (X.or a) H0 H' σ env := by
  have na : ∀ {b u}, H b = some u → b ≠ a := fun {b u} q => ne_of_none q ha
  have ms : ∀ b, Ms z (X.or a) σ env b → Ms z X σ env b ∨ b = a := by
    rintro b (h | (h | h) | h)
    · exact .inl (.inl h)
    · exact .inl (.inr (.inl h))
    · exact .inr h
    · exact .inl (.inr (.inr h))
  have old : ∀ b u, H b = some u → ¬ Ms z X σ env b → H' b = some u ∧ ¬ Ms z (X.or a) σ env b := fun b u q n => ⟨e.old b u q fun y => n (.inl y), fun y => (ms b y).elim n (na q)⟩
  refine ⟨o.len, o.evo.trans e, fun b h => e.al b (o.zal b h), fun b h => ?_, fun i d h => ?_, fun i d h => ?_, o.inj, e.tab o.tab, fun i g hL h => (o.gs i g (by simpa using hL) h).gen old e.dk⟩
  · rcases h with h | h
    · exact ⟨e.al b (o.xal b h).1, (o.xal b h).2⟩
    · rw [h]; exact ⟨h', fun q => o.zal a q ha⟩
  · obtain ⟨v, h1, h2⟩ := o.val i d h
    exact ⟨v, h1, h2.gen old e.dk⟩
  · obtain ⟨b, h1, h2, h3, h4, h5⟩ := o.own i d h
    obtain ⟨u, hu⟩ := h2.some
    exact ⟨b, h1, h2.gen (fun u q => e.old b u q h3) old e.dk, h3, fun q => q.elim h4 (na hu), h5⟩
theorem Ok.wipe (o : Ok z X H0 H σ env) {vs : List Nat} : Ok z X H0 H (L2.wipe σ vs) (wipeE env vs) ∧ ∀ a, Ms z X (L2.wipe σ vs) (wipeE env vs) a → Ms z X σ env a := by
  have ow : ∀ {i : Nat} {d : SV}, (wipeE env vs)[i]? = some d → d ≠ .no → i ∉ vs ∧ env[i]? = some d := fun {i d} h n => by
    by_cases hi : i ∈ vs
    · rcases wipeE_in (env := env) hi with q | q
      · rw [q] at h; cases h
      · rw [q] at h; cases h; exact absurd rfl n
    · rw [wipeE_out hi] at h; exact ⟨hi, h⟩
  have sub : ∀ a, Ms z X (L2.wipe σ vs) (wipeE env vs) a → Ms z X σ env a := by
    rintro a (h | h | ⟨i, d, h1, h2⟩)
    · exact .inl h
    · exact .inr (.inl h)
    · obtain ⟨hi, h1⟩ := ow h1 (by intro q; cases q)
      rw [wipe_out' hi] at h2
      exact .inr (.inr ⟨i, d, h1, h2⟩)
  refine ⟨⟨by rw [wipe_length, wipeE_len]; exact o.len, o.evo, o.zal, o.xal, fun i d h => ?_, fun i d h => ?_, fun i j a d f h1 h2 h3 h4 => ?_, o.tab, fun i g hL h => (o.gs i g (by rw [wipeE_len] at hL; exact hL) (ow h (by intro w; cases w)).2).gen (fun b u q n => ⟨q, fun y => n (sub b y)⟩) fun _ h => h⟩, sub⟩
  · obtain ⟨hi, h⟩ := ow h (by intro q; cases q)
    obtain ⟨v, h1, h2⟩ := o.val i d h
    exact ⟨v, by rw [wipe_out' hi]; exact h1, h2.weak sub⟩
  · obtain ⟨hi, h⟩ := ow h (by intro q; cases q)
    obtain ⟨a, h1, h2, h3⟩ := o.own i d h
    exact ⟨a, by rw [wipe_out' hi]; exact h1, h2.gen (fun _ q => q) (fun b u q n => ⟨q, fun y => n (sub b y)⟩) fun _ h => h, h3⟩
  · obtain ⟨hi, h1⟩ := ow h1 (by intro q; cases q)
    obtain ⟨hj, h2⟩ := ow h2 (by intro q; cases q)
    rw [wipe_out' hi] at h3
    rw [wipe_out' hj] at h4
    exact o.inj i j a d f h1 h2 h3 h4
/-- what slots own is owned in the comprehension too -/
theorem ms_in {vs js : List Nat} {σ2 : Sl} {env2 : List SV} (hn : noOwn env vs) (hj : ∀ i ∈ js, i ∈ vs) (h : Keep js (L2.wipe σ vs) (wipeE env vs) σ2 env2) : ∀ a, Ms z X σ env a → Ms z X σ2 env2 a := by
  rintro a (q | q | ⟨i, d, h1, h2⟩)
  · exact .inl q
  · exact .inr (.inl q)
  · have hi := noOwn_ne hn h1
    obtain ⟨g1, g2⟩ := h.2 i fun q => hi (hj i q)
    refine .inr (.inr ⟨i, d, ?_, ?_⟩)
    · rw [g1, wipeE_out hi]; exact h1
    · rw [g2, wipe_out' hi]; exact h2
end
def lcP (pg : PGt) (pt : PTs') (pe : PX) (env : List SV) : List D → List D → (List D → Prop) → Prop
  | [], acc, k => k acc
  | d :: ds, acc, k => pg d env fun env1 => pt env1 fun b => if b = true then pe env1 fun r => acc.length ≤ 100000 ∧ lcP pg pt pe env ds (acc ++ [r]) k else lcP pg pt pe env ds acc k
def eLc (vs : List Nat) (pi : PIt) (pg : PGt) (pt : PTs') (pe : PX) : PX := fun env k => pi env fun ds => noOwn env vs ∧ lcP pg pt pe (wipeE env vs) ds [] fun r => k (.lst r)
theorem re_lc {wi : TI} {pi : PIt} {js vs : List Nat} {g : TG} {pg : PGt} {tt : TT} {pt : PTs'} {te : TE} {pe : PX} (hi : RI wi pi) (hg : RG js g pg) (hj : ∀ i ∈ js, i ∈ vs) (ht : RT tt pt) (he : RE .e te pe) : RE .f (tLc wi g tt te vs) (eLc vs pi pg pt pe) := fun z X H0 H σ env Q k o c hp => by
  refine hi z X H0 H σ env _ _ o (fun ds J H1 e1 yl hx => ?_) hp
  obtain ⟨hn, hx⟩ := hx
  have o1 := o.go e1
  intro Da hD
  have hzD : ¬ z.Z Da := fun q => o1.zal Da q hD
  refine ⟨fun i mm H' => mm = ds.length - i ∧ i ≤ ds.length ∧ ∃ accV accD, Evo z H1 H' ∧ H' Da = some (.lst accV) ∧ IsA z (Ms z (X.or Da) σ env) H' accV accD ∧ lcP pg pt pe (wipeE env vs) (ds.drop i) accD fun r => k (.lst r),
    ⟨ds.length, by simp, Nat.zero_le _, [], [], (Evo.refl _ _).new hD, upd_same, .nil, by simpa using hx⟩, ?_⟩
  rintro i mm H' ⟨rfl, hil, accV, accD, e', hacc, hA, hk⟩
  have oL : Ok z (X.or Da) H0 H' σ env := o1.lock hD e' (by rw [hacc]; intro q; cases q)
  have ms2 : ∀ b, Ms z (X.or Da) σ env b → Ms z X σ env b ∨ b = Da := by
    rintro b (h | (h | h) | h)
    · exact .inl (.inl h)
    · exact .inl (.inr (.inl h))
    · exact .inr h
    · exact .inl (.inr (.inr h))
  have fr : Fr z X (Ms z X σ env) H1 (Ms z (X.or Da) σ env) H' := ⟨fun b u q n => ⟨e'.old b u q fun y => n (.inl y), fun y => (ms2 b y).elim n (ne_of_none q hD)⟩, e'.dk, e'.al⟩
  obtain ⟨y1, y2⟩ := yl _ _ fr
  by_cases hlt : i < ds.length
  · obtain ⟨go, y3⟩ := y2 i ds[i] (List.getElem?_eq_getElem hlt)
    rw [List.drop_eq_getElem_cons hlt] at hk
    refine .inr ⟨go, fun H2 => ∃ accV accD, Evo z H1 H2 ∧ H2 Da = some (.lst accV) ∧ IsA z (Ms z (X.or Da) σ env) H2 accV accD ∧ lcP pg pt pe (wipeE env vs) (ds.drop (i + 1)) accD fun r => k (.lst r), fun H2 h2 => ⟨ds.length - (i + 1), by omega, rfl, hlt, h2⟩, fun x H2 hy => ?_⟩
    obtain ⟨e2, is⟩ := y3 x H2 hy
    have oL2 := oL.go e2
    obtain ⟨oW, sub⟩ := oL2.wipe (vs := vs)
    refine hg z (X.or Da) H0 H2 _ _ x _ _ _ oW ((is (fun a q => .inl q) (fun b q => oL.notMs q)).weak sub) (fun env3 σ3 o3 f3 kp hx3 => ⟨wipe_eq kp hj, ?_⟩) hk
    refine ht z (X.or Da) H0 H2 σ3 env3 _ _ o3 (fun b H3 e3 hx4 => ?_) hx3
    have e13 := e'.trans (e2.trans e3)
    have acc3 : H3 Da = some (.lst accV) := e3.old _ _ (e2.old _ _ hacc hzD) hzD
    have A3 : IsA z (Ms z (X.or Da) σ env) H3 accV accD := hA.evo (fun _ q => .inl q) (e2.trans e3)
    cases b with
    | false =>
      rw [if_neg Bool.false_ne_true]
      exact ⟨accV, accD, e13, acc3, A3, hx4⟩
    | true =>
      rw [if_pos rfl]
      refine he z (X.or Da) H0 H3 σ3 env3 _ _ (o3.go e3) (fun r y H4 e4 r4 hx5 => ?_) hx4
      refine ⟨accV, e4.old _ _ acc3 hzD, by rw [hA.length]; exact szl hx5.1, accV ++ [y], accD ++ [r], (e13.trans e4).mut hD hzD (.lst (e4.old _ _ acc3 hzD)), upd_same, ?_, hx5.2⟩
      have ir : Is z (Ms z (X.or Da) σ env) H4 y r := Is.weak (ms_in hn hj kp) r4
      refine ((A3.evo (fun _ q => .inl q) e4).append (.cons ir .nil)).gen (fun b u q n => ⟨?_, n⟩) fun b hb => ok_mut hzD hb
      rw [upd_ne (fun w => n (by rw [w]; exact .inr (.inl (.inr rfl))))]
      exact q
  · have ei : i = ds.length := by omega
    subst ei
    rw [List.drop_length] at hk
    exact .inl ⟨y1, c (.lst accD) (.ref Da) H' (e1.trans e') ⟨Da, rfl, e1.fresh hD, accV, hacc, hA⟩ hk⟩
/-- two clauses -/
def lcP2 (vs1 : List Nat) (pg : PGt) (pt : PTs') (pi1 : PIt) (pg1 : PGt) (pt1 : PTs') (pe : PX) (env : List SV) : List D → List D → (List D → Prop) → Prop
  | [], acc, k => k acc
  | d :: ds, acc, k => pg d env fun env1 => pt env1 fun b => if b = true then pi1 env1 fun ds1 => noOwn env1 vs1 ∧ lcP pg1 pt1 pe (wipeE env1 vs1) ds1 acc fun acc1 => lcP2 vs1 pg pt pi1 pg1 pt1 pe env ds acc1 k else lcP2 vs1 pg pt pi1 pg1 pt1 pe env ds acc k
def eLc2 (vs vs1 : List Nat) (pi : PIt) (pg : PGt) (pt : PTs') (pi1 : PIt) (pg1 : PGt) (pt1 : PTs') (pe : PX) : PX := fun env k => pi env fun ds => noOwn env vs ∧ lcP2 vs1 pg pt pi1 pg1 pt1 pe (wipeE env vs) ds [] fun r => k (.lst r)
theorem ms_or {z : Zn} {X : AP} {σ : Sl} {env : List SV} {a b : Addr} (h : Ms z (X.or a) σ env b) : Ms z X σ env b ∨ b = a := by
  rcases h with h | (h | h) | h
  · exact .inl (.inl h)
  · exact .inl (.inr (.inl h))
  · exact .inr h
  · exact .inl (.inr (.inr h))
theorem re_lc2 {wi wi1 : TI} {pi pi1 : PIt} {js js1 vs vs1 : List Nat} {g g1 : TG} {pg pg1 : PGt} {tt tt1 : TT} {pt pt1 : PTs'} {te : TE} {pe : PX} (hi : RI wi pi) (hg : RG js g pg) (hj : ∀ i ∈ js, i ∈ vs) (ht : RT tt pt) (hi1 : RI wi1 pi1) (hg1 : RG js1 g1 pg1) (hj1 : ∀ i ∈ js1, i ∈ vs1) (ht1 : RT tt1 pt1) (he : RE .e te pe) :
    RE .f (tLc2 wi g tt wi1 g1 tt1 te vs vs1) (eLc2 vs vs1 pi pg pt pi1 pg1 pt1 pe) := fun z X H0 H σ env Q k o c hp => by
  refine hi z X H0 H σ env _ _ o (fun ds J H1 e1 yl hx => ?_) hp
  obtain ⟨hn, hx⟩ := hx
  have o1 := o.go e1
  intro Da hD
  have hzD : ¬ z.Z Da := fun q => o1.zal Da q hD
  have nt : ∀ {u : HO}, some u ≠ none := fun q => by cases q
  refine ⟨fun i mm H' => mm = ds.length - i ∧ i ≤ ds.length ∧ ∃ accV accD, Evo z H1 H' ∧ H' Da = some (.lst accV) ∧ IsA z (Ms z (X.or Da) σ env) H' accV accD ∧ lcP2 vs1 pg pt pi1 pg1 pt1 pe (wipeE env vs) (ds.drop i) accD fun r => k (.lst r),
    ⟨ds.length, by simp, Nat.zero_le _, [], [], (Evo.refl _ _).new hD, upd_same, .nil, by simpa using hx⟩, ?_⟩
  rintro i mm H' ⟨rfl, hil, accV, accD, e', hacc, hA, hk⟩
  have oL : Ok z (X.or Da) H0 H' σ env := o1.lock hD e' (by rw [hacc]; exact nt)
  have fr : Fr z X (Ms z X σ env) H1 (Ms z (X.or Da) σ env) H' := ⟨fun b u q n => ⟨e'.old b u q fun y => n (.inl y), fun y => (ms_or y).elim n (ne_of_none q hD)⟩, e'.dk, e'.al⟩
  obtain ⟨y1, y2⟩ := yl _ _ fr
  by_cases hlt : i < ds.length
  · obtain ⟨go, y3⟩ := y2 i ds[i] (List.getElem?_eq_getElem hlt)
    rw [List.drop_eq_getElem_cons hlt] at hk
    refine .inr ⟨go, fun H2 => ∃ accV accD, Evo z H1 H2 ∧ H2 Da = some (.lst accV) ∧ IsA z (Ms z (X.or Da) σ env) H2 accV accD ∧ lcP2 vs1 pg pt pi1 pg1 pt1 pe (wipeE env vs) (ds.drop (i + 1)) accD fun r => k (.lst r), fun H2 h2 => ⟨ds.length - (i + 1), by omega, rfl, hlt, h2⟩, fun x H2 hy => ?_⟩
    obtain ⟨e2, is⟩ := y3 x H2 hy
    have oL2 := oL.go e2
    obtain ⟨oW, sub⟩ := oL2.wipe (vs := vs)
    refine hg z (X.or Da) H0 H2 _ _ x _ _ _ oW ((is (fun a q => .inl q) (fun b q => oL.notMs q)).weak sub) (fun env3 σ3 o3 f3 kp hx3 => ⟨wipe_eq kp hj, ?_⟩) hk
    refine ht z (X.or Da) H0 H2 σ3 env3 _ _ o3 (fun b H3 e3 hx4 => ?_) hx3
    have e13 := e'.trans (e2.trans e3)
    have acc3 : H3 Da = some (.lst accV) := e3.old _ _ (e2.old _ _ hacc hzD) hzD
    have A3 : IsA z (Ms z (X.or Da) σ env) H3 accV accD := hA.evo (fun _ q => .inl q) (e2.trans e3)
    have o3' := o3.go e3
    have up : ∀ a, Ms z (X.or Da) σ env a → Ms z (X.or Da) σ3 env3 a := ms_in hn hj kp
    cases b with
    | false =>
      rw [if_neg Bool.false_ne_true]
      exact ⟨accV, accD, e13, acc3, A3, hx4⟩
    | true =>
      rw [if_pos rfl]
      refine hi1 z (X.or Da) H0 H3 σ3 env3 _ _ o3' (fun ds1 J1 H4 e4 yl1 hx5 => ?_) hx4
      obtain ⟨hn1, hx5⟩ := hx5
      have o4 := o3'.go e4
      refine ⟨fun j mm H' => mm = ds1.length - j ∧ j ≤ ds1.length ∧ ∃ accV accD, Evo z H1 H' ∧ Fr z (X.or Da) (Ms z (X.or Da) σ3 env3) H4 (Ms z (X.or Da) σ3 env3) H' ∧ Ok z (X.or Da) H0 H' σ3 env3 ∧ H' Da = some (.lst accV) ∧ IsA z (Ms z (X.or Da) σ env) H' accV accD ∧
          lcP pg1 pt1 pe (wipeE env3 vs1) (ds1.drop j) accD fun acc1 => lcP2 vs1 pg pt pi1 pg1 pt1 pe (wipeE env vs) (ds.drop (i + 1)) acc1 fun r => k (.lst r),
        ⟨ds1.length, by simp, Nat.zero_le _, accV, accD, e13.trans e4, Fr.refl, o4, e4.old _ _ acc3 hzD, A3.evo (fun _ q => .inl q) e4, by simpa using hx5⟩, ?_⟩
      rintro j mm H5 ⟨rfl, hjl, accV, accD, e5, f5, o5, hacc, hA, hk⟩
      obtain ⟨y1, y2⟩ := yl1 _ _ f5
      by_cases hlt1 : j < ds1.length
      · obtain ⟨go, y3⟩ := y2 j ds1[j] (List.getElem?_eq_getElem hlt1)
        rw [List.drop_eq_getElem_cons hlt1] at hk
        refine .inr ⟨go, fun H' => ∃ accV accD, Evo z H1 H' ∧ Fr z (X.or Da) (Ms z (X.or Da) σ3 env3) H4 (Ms z (X.or Da) σ3 env3) H' ∧ Ok z (X.or Da) H0 H' σ3 env3 ∧ H' Da = some (.lst accV) ∧ IsA z (Ms z (X.or Da) σ env) H' accV accD ∧
          lcP pg1 pt1 pe (wipeE env3 vs1) (ds1.drop (j + 1)) accD fun acc1 => lcP2 vs1 pg pt pi1 pg1 pt1 pe (wipeE env vs) (ds.drop (i + 1)) acc1 fun r => k (.lst r), fun H2 h2 => ⟨ds1.length - (j + 1), by omega, rfl, hlt1, h2⟩, fun x H6 hy => ?_⟩
        obtain ⟨e6, is⟩ := y3 x H6 hy
        have o6 := o5.go e6
        obtain ⟨oW, sub⟩ := o6.wipe (vs := vs1)
        refine hg1 z (X.or Da) H0 H6 _ _ x _ _ _ oW ((is (fun a q => .inl q) (fun b q => o5.notMs q)).weak sub) (fun env7 σ7 o7 f7 kp7 hx7 => ⟨wipe_eq kp7 hj1, ?_⟩) hk
        refine ht1 z (X.or Da) H0 H6 σ7 env7 _ _ o7 (fun b H7 e7 hx8 => ?_) hx7
        have e67 := e6.trans e7
        have acc7 : H7 Da = some (.lst accV) := e67.old _ _ hacc hzD
        have A7 : IsA z (Ms z (X.or Da) σ env) H7 accV accD := hA.evo (fun _ q => .inl q) e67
        cases b with
        | false =>
          rw [if_neg Bool.false_ne_true]
          exact ⟨accV, accD, e5.trans e67, f5.trans (o5.fr e67), o5.go e67, acc7, A7, hx8⟩
        | true =>
          rw [if_pos rfl]
          refine he z (X.or Da) H0 H7 σ7 env7 _ _ (o7.go e7) (fun r y H8 e8 r8 hx9 => ?_) hx8
          have e58 := e67.trans e8
          have o8 := o5.go e58
          have inD : ∀ {σ : Sl} {env : List SV}, Ms z (X.or Da) σ env Da := .inr (.inl (.inr rfl))
          have old : ∀ (M : AP), M Da → ∀ b u, H8 b = some u → ¬ M b → upd H8 Da (.lst (accV ++ [y])) b = some u ∧ ¬ M b := fun M hM b u q n => ⟨by rw [upd_ne (fun w => n (by rw [w]; exact hM))]; exact q, n⟩
          have dk : ∀ b, z.ok H8 b → z.ok (upd H8 Da (.lst (accV ++ [y]))) b := fun b hb => ok_mut hzD hb
          have al : ∀ b, H8 b ≠ none → upd H8 Da (.lst (accV ++ [y])) b ≠ none := fun b hb => by
            by_cases w : b = Da
            · rw [w, upd_same]; exact nt
            · rw [upd_ne w]; exact hb
          have h0D : H0 Da = none := o1.evo.fresh hD
          refine ⟨accV, e8.old _ _ acc7 hzD, by rw [hA.length]; exact szl hx9.1, accV ++ [y], accD ++ [r], (e5.trans e58).mut hD hzD (.lst (e8.old _ _ acc7 hzD)), (f5.trans (o5.fr e58)).trans ⟨old _ inD, dk, al⟩, ?_, upd_same, ?_, hx9.2⟩
          · refine ⟨o8.len, o8.evo.mut h0D hzD (.lst (e8.old _ _ acc7 hzD)), fun b q => al b (o8.zal b q), fun b q => ⟨al b (o8.xal b q).1, (o8.xal b q).2⟩, fun i d q => ?_, fun i d q => ?_, o8.inj, o8.tab.mut hzD (.lst (e8.old _ _ acc7 hzD)), fun i g hL q => (o8.gs i g hL q).gen (old _ inD) dk⟩
            · obtain ⟨v, h1, h2⟩ := o8.val i d q
              exact ⟨v, h1, h2.gen (old _ inD) dk⟩
            · obtain ⟨a, h1, h2, h3, h4, h5⟩ := o8.own i d q
              exact ⟨a, h1, h2.gen (fun u w => by rw [upd_ne (fun x => h4 (.inr x))]; exact w) (old _ inD) dk, h3, h4, h5⟩
          · have ir : Is z (Ms z (X.or Da) σ env) H8 y r := Is.weak (fun a q => ms_in hn1 hj1 kp7 a (up a q)) r8
            exact ((A7.evo (fun _ q => .inl q) e8).append (.cons ir .nil)).gen (old _ inD) dk
      · have ei : j = ds1.length := by omega
        subst ei
        rw [List.drop_length] at hk
        exact .inl ⟨y1, accV, accD, e5, hacc, hA, hk⟩
  · have ei : i = ds.length := by omega
    subst ei
    rw [List.drop_length] at hk
    exact .inl ⟨y1, c (.lst accD) (.ref Da) H' (e1.trans e') ⟨Da, rfl, e1.fresh hD, accV, hacc, hA⟩ hk⟩
section
variable {C : Cx} {fr : Bool} {elt tg iter tg1 iter1 : Expr} {ifs ifs1 : List Expr} {scope : Scope} {own : List (Str × Nat)} {pos : Pos} {pi pi1 : PIt} {js js1 vs1 : List Nat} {g g1 : TG} {pg pg1 : PGt} {pt pt1 : PTs'} {pe : PX}
theorem e_lc (hi : I C tg iter pi) (hg : ∀ (s : Shared) (H : Hp) (Ca : Addr) (cl : List (Str × Addr)) (fp : List Addr), G (C.blk s H scope (compEnvC scope cl Ca C.env) fp) tg js g pg) (ht : ∀ (s : Shared) (H : Hp) (Ca : Addr) (cl : List (Str × Addr)) (fp : List Addr), Ts (C.blk s H scope (compEnvC scope cl Ca C.env) fp) ifs pt)
    (he : ∀ (s : Shared) (H : Hp) (Ca : Addr) (cl : List (Str × Addr)) (fp : List Addr), E .e (C.blk s H scope (compEnvC scope cl Ca C.env) fp) elt pe) (hc : C.calm = true) (hN : C.N.Nodup) (ok : BlkOk C.N C.env.scope scope own) (hj : ∀ i ∈ js, i ∈ own.map (·.2)) (rg : RG js g pg) (hs : ∀ x, foldedSetIterable iter C.env x = pure x := by intro _; rfl) :
    E .f C (.ListComp elt [⟨tg, iter, ifs, 0⟩] scope pos) (eLc (own.map (·.2)) pi pg pt pe) :=
  ⟨_, pe_lc hc hN hi.pi ok (fun s H Ca cl fp => (hg s H Ca cl fp).pg) (fun s H Ca cl fp => (ht s H Ca cl fp).ex) (fun s H Ca cl fp => (he s H Ca cl fp).pe) hs, re_lc ri_tP rg hj rt_tP re_tP⟩
theorem s_ownLc {i : Nat} {y : Str} {py spos : Pos} (hi : I C tg iter pi) (hg : ∀ (s : Shared) (H : Hp) (Ca : Addr) (cl : List (Str × Addr)) (fp : List Addr), G (C.blk s H scope (compEnvC scope cl Ca C.env) fp) tg js g pg) (ht : ∀ (s : Shared) (H : Hp) (Ca : Addr) (cl : List (Str × Addr)) (fp : List Addr), Ts (C.blk s H scope (compEnvC scope cl Ca C.env) fp) ifs pt)
    (he : ∀ (s : Shared) (H : Hp) (Ca : Addr) (cl : List (Str × Addr)) (fp : List Addr), E .e (C.blk s H scope (compEnvC scope cl Ca C.env) fp) elt pe) (hc : C.calm = true) (hN : C.N.Nodup) (hy : C.N[i]? = some y) (hyl : C.env.scope.names.lookup y = some .local)
    (hsw : swapsWith (.ListComp elt [⟨tg, iter, ifs, 0⟩] scope pos) (some (.Name y py)) spos.line C.env = pure true) (ok : BlkOk C.N C.env.scope scope own) (hj : ∀ i ∈ js, i ∈ own.map (·.2)) (rg : RG js g pg) (hs : ∀ x, foldedSetIterable iter C.env x = pure x := by intro _; rfl) :
    S fr C (.Assign [.Name y py] (.ListComp elt [⟨tg, iter, ifs, 0⟩] scope pos) spos) (sOwn i (eLc (own.map (·.2)) pi pg pt pe)) :=
  ⟨_, ps_setLc hc hN hy hyl hsw hi.pi ok (fun s H Ca cl fp => (hg s H Ca cl fp).pg) (fun s H Ca cl fp => (ht s H Ca cl fp).ex) (fun s H Ca cl fp => (he s H Ca cl fp).pe) hs, rs_own (re_lc ri_tP rg hj rt_tP re_tP)⟩
theorem RE.fe' {t : TE} {p : PX} (h : RE .f t p) : RE .e t p := fun z X H0 H σ env Q k o c hp => h z X H0 H σ env Q k o (fun d v H' ev r kd => c d v H' ev (r.fe o) kd) hp
theorem rs_set {i : Nat} {t : TE} {p : PX} (h : RE .e t p) : RS fr (tAsg t (gName i)) (sSet i p) := fun z X H0 H σ env G k o s hp => h z X H0 H σ env _ _ o (fun d v H1 e1 r1 hx => by
  obtain ⟨o2, f2⟩ := (o.go e1).set (i := i) (show Is z _ H1 v d from r1)
  exact s.nx _ _ H1 o2 ((o.fr e1).trans f2) hx) hp
theorem s_setLc {i : Nat} {y : Str} {py spos : Pos} (hi : I C tg iter pi) (hg : ∀ (s : Shared) (H : Hp) (Ca : Addr) (cl : List (Str × Addr)) (fp : List Addr), G (C.blk s H scope (compEnvC scope cl Ca C.env) fp) tg js g pg) (ht : ∀ (s : Shared) (H : Hp) (Ca : Addr) (cl : List (Str × Addr)) (fp : List Addr), Ts (C.blk s H scope (compEnvC scope cl Ca C.env) fp) ifs pt)
    (he : ∀ (s : Shared) (H : Hp) (Ca : Addr) (cl : List (Str × Addr)) (fp : List Addr), E .e (C.blk s H scope (compEnvC scope cl Ca C.env) fp) elt pe) (hc : C.calm = true) (hN : C.N.Nodup) (hy : C.N[i]? = some y) (hyl : C.env.scope.names.lookup y = some .local)
    (hsw : swapsWith (.ListComp elt [⟨tg, iter, ifs, 0⟩] scope pos) (some (.Name y py)) spos.line C.env = pure true) (ok : BlkOk C.N C.env.scope scope own) (hj : ∀ i ∈ js, i ∈ own.map (·.2)) (rg : RG js g pg) (hs : ∀ x, foldedSetIterable iter C.env x = pure x := by intro _; rfl) :
    S fr C (.Assign [.Name y py] (.ListComp elt [⟨tg, iter, ifs, 0⟩] scope pos) spos) (sSet i (eLc (own.map (·.2)) pi pg pt pe)) :=
  ⟨_, ps_setLc hc hN hy hyl hsw hi.pi ok (fun s H Ca cl fp => (hg s H Ca cl fp).pg) (fun s H Ca cl fp => (ht s H Ca cl fp).ex) (fun s H Ca cl fp => (he s H Ca cl fp).pe) hs, rs_set (RE.fe' (re_lc ri_tP rg hj rt_tP re_tP))⟩
theorem e_lc2 (hi : I C tg iter pi) (hg : ∀ (s : Shared) (H : Hp) (Ca : Addr) (cl : List (Str × Addr)) (fp : List Addr), G (C.blk s H scope (compEnvC scope cl Ca C.env) fp) tg js g pg) (ht : ∀ (s : Shared) (H : Hp) (Ca : Addr) (cl : List (Str × Addr)) (fp : List Addr), Ts (C.blk s H scope (compEnvC scope cl Ca C.env) fp) ifs pt)
    (hi1 : ∀ (s : Shared) (H : Hp) (Ca : Addr) (cl : List (Str × Addr)) (fp : List Addr), I (C.blk s H scope (compEnvC scope cl Ca C.env) fp) tg1 iter1 pi1)
    (hg1 : ∀ (s : Shared) (H : Hp) (Ca : Addr) (cl : List (Str × Addr)) (fp : List Addr), G (C.blk s H scope (compEnvC scope cl Ca C.env) fp) tg1 js1 g1 pg1) (ht1 : ∀ (s : Shared) (H : Hp) (Ca : Addr) (cl : List (Str × Addr)) (fp : List Addr), Ts (C.blk s H scope (compEnvC scope cl Ca C.env) fp) ifs1 pt1)
    (he : ∀ (s : Shared) (H : Hp) (Ca : Addr) (cl : List (Str × Addr)) (fp : List Addr), E .e (C.blk s H scope (compEnvC scope cl Ca C.env) fp) elt pe) (hc : C.calm = true) (hN : C.N.Nodup) (ok : BlkOk C.N C.env.scope scope own) (hj : ∀ i ∈ js, i ∈ own.map (·.2)) (hj1 : ∀ i ∈ js1, i ∈ vs1) (hv : ∀ i ∈ vs1, i ∈ own.map (·.2)) (rg : RG js g pg) (rg1 : RG js1 g1 pg1)
    (hs : ∀ x, foldedSetIterable iter C.env x = pure x := by intro _; rfl) (hs1 : ∀ env x, foldedSetIterable iter1 env x = pure x := by intro _ _; rfl) :
    E .f C (.ListComp elt [⟨tg, iter, ifs, 0⟩, ⟨tg1, iter1, ifs1, 0⟩] scope pos) (eLc2 (own.map (·.2)) vs1 pi pg pt pi1 pg1 pt1 pe) :=
  ⟨_, pe_lc2 hc hN hi.pi ok hv (fun s H Ca cl fp => (hg s H Ca cl fp).pg) (fun s H Ca cl fp => (ht s H Ca cl fp).ex) (fun s H Ca cl fp => (hi1 s H Ca cl fp).pi) (fun s H Ca cl fp => (hg1 s H Ca cl fp).pg) (fun s H Ca cl fp => (ht1 s H Ca cl fp).ex) (fun s H Ca cl fp => (he s H Ca cl fp).pe) hs hs1,
    re_lc2 ri_tP rg hj rt_tP ri_tP rg1 hj1 rt_tP re_tP⟩
end
end Pu
namespace Pu
open PySem PySem.Spec PyProof.Rows L2
variable [Tbs]
/-! ### targets, once more without a place -/
theorem rg_name {i : Nat} : RG [i] (gName i) (gtName i) := fun z X H0 H σ env v d Q k o hv c hp => let ⟨o2, f2⟩ := o.set (i := i) hv; c _ _ o2 f2 ⟨by simp, fun j hj => by
    have hj' : i ≠ j := fun e => hj (by simp [e])
    exact ⟨List.getElem?_set_ne hj', List.getElem?_set_ne hj'⟩⟩ hp
theorem rgs_nil : RGs [] gNil gtNil := fun z X H0 H σ env v d Q k o hv c hp => by
  cases hv with
  | nil => exact ⟨rfl, c env σ o Fr.refl Keep.refl hp⟩
  | cons _ _ => exact (show False from hp).elim
theorem rgs_cons {js ks : List Nat} {g : TG} {gs : TGs} {p : PGt} {q : PGs'} (h1 : RG js g p) (h2 : RGs ks gs q) : RGs (js ++ ks) (gCons g gs) (gtCons p q) := fun z X H0 H σ env v d Q k o hv c hp => by
  cases hv with
  | nil => exact (show False from hp).elim
  | cons q t =>
    refine ⟨_, _, rfl, h1 z X H0 H σ env _ _ _ _ o q (fun env' σ' o' f' kp hx => ?_) hp⟩
    exact h2 z X H0 H σ' env' _ _ _ _ o' (f'.isA t) (fun env2 σ2 o2 f2 kp2 hy => c env2 σ2 o2 (f'.trans f2) (kp.trans kp2) hy) hx
theorem rg_tup {K : PySem.W.Frag} {js : List Nat} {gs : TGs} {q : PGs'} {n : Nat} (h : RGs js gs q) : RG js (gTup K n gs) (gtTup n q) := fun z X H0 H σ env v d Q k o hv c hp => by
  cases hv with
  | tup e nn r => exact ⟨_, _, rfl, SqT.of e, by rw [r.length]; exact hp.1, h z X H0 H σ env _ _ _ _ o r c hp.2⟩
  | _ => exact (show False from hp).elim
/-! ### a def by its body -/
def wpOf (fr : Bool) (n : Nat) (p : PSt) : List D → (D → Prop) → Prop := fun ds k => p (ds.map SV.val ++ List.replicate (n - ds.length) SV.no) { nx := fun _ => fr = false ∧ k .non, rt := k }
theorem start_ok {z : Zn} {X : AP} {H : Hp} {N : List Str} {vs : List V} {ds : List D} (hz : (∀ a, z.Z a → H a ≠ none) ∧ Tabs H) (hx : ∀ a, X a → H a ≠ none ∧ ¬ z.Z a) (hA : IsA z (Zx z X) H vs ds) :
    Ok z X H H (L2.start N vs) (ds.map SV.val ++ List.replicate (N.length - ds.length) SV.no) := by
  have hl := hA.length
  have no : ∀ (i : Nat) (d : D), (ds.map SV.val ++ List.replicate (N.length - ds.length) SV.no)[i]? = some (.own d) → False := fun i d h => by
    by_cases hi : i < ds.length
    · rw [List.getElem?_append_left (by simpa using hi), List.getElem?_map] at h
      cases q : ds[i]? with
      | none => rw [q] at h; cases h
      | some x => rw [q] at h; cases h
    · rw [List.getElem?_append_right (by simpa using hi), List.getElem?_replicate] at h
      split at h <;> cases h
  have ms : ∀ a, Ms z X (L2.start N vs) (ds.map SV.val ++ List.replicate (N.length - ds.length) SV.no) a → Zx z X a := by
    rintro a (h | h | ⟨i, d, h1, _⟩)
    · exact .inl h
    · exact .inr h
    · exact (no i d h1).elim
  have ng : ∀ (i : Nat) (g : List Cell), (ds.map SV.val ++ List.replicate (N.length - ds.length) SV.no)[i]? = some (.gs g) → False := fun i g h => by
    by_cases hi : i < ds.length
    · rw [List.getElem?_append_left (by simpa using hi), List.getElem?_map] at h
      cases q : ds[i]? with
      | none => rw [q] at h; cases h
      | some x => rw [q] at h; cases h
    · rw [List.getElem?_append_right (by simpa using hi), List.getElem?_replicate] at h
      split at h <;> cases h
  refine ⟨by unfold L2.start; simp [hl], Evo.refl _ _, hz.1, hx, fun i d h => ?_, fun i d h => (no i d h).elim, fun i j a d e h _ _ _ => (no i d h).elim, hz.2, fun i g _ h => (ng i g h).elim⟩
  by_cases hi : i < ds.length
  · rw [List.getElem?_append_left (by simpa using hi), List.getElem?_map] at h
    cases q : ds[i]? with
    | none => rw [q] at h; cases h
    | some x =>
      rw [q] at h
      cases h
      obtain ⟨v, h1, h2⟩ := hA.get q
      refine ⟨v, ?_, h2.weak ms⟩
      unfold L2.start
      rw [List.getElem?_append_left (by simpa [hl] using hi), List.getElem?_map, h1]
      rfl
  · rw [List.getElem?_append_right (by simpa using hi), List.getElem?_replicate] at h
    split at h <;> cases h
section
variable {P : Program} {w : World} {K : PySem.W.Frag} {mg : Str → Option Value} {base : Heap}
theorem fn_ok {x qual : Str} {st : Stmt} {f : Addr} {fd : FuncData} {N ps : List Str} {k : Nat} {fr : Bool} {p : PSt} (F : Fun K x qual st f fd) (S : FnScope N ps (defScope st))
    (hb : ∀ (cdv : Value) (A : Around) (outer : List Env) (s : Shared) (H : Hp) (E : XK), Room k (A.deeper (envOfC qual (defScope st) s.heap.objs.size f cdv)) → B fr (cxOf CX0 P w K mg base N qual (defScope st) f cdv A outer s H E).nox (defBody st) p) :
    FnOk P w K mg base CX0 (k + 1) f fd ps (Sf fr ps.length (wpOf fr N.length p)) := by
  refine F.ok S (fun vs H Q E h => ?_) (fun cdv A outer s H vs Q E hr h => ?_)
  · obtain ⟨z, X, ds, kk, hl, _⟩ := h
    exact hl
  · obtain ⟨z, X, ds, kk, hl, hz, hx, hA, hw, c⟩ := h
    obtain ⟨t, b1, b2⟩ := hb cdv A outer s H E hr
    refine ⟨t, b1, b2 z X H H (L2.start N vs) _ _ { nx := fun _ => fr = false ∧ kk .non, rt := kk } (start_ok hz hx hA) ⟨fun env' σ' H' o' f' hk => ?_, fun d v H' e r fq hk => ?_, fun _ _ _ _ _ hk => hk.elim, fun _ _ _ _ _ hk => hk.elim, fun _ _ _ _ _ _ _ h => h.elim⟩ hw⟩
    · exact c .non .non H' o'.evo .non (fun q => by rw [hk.1] at q; cases q) hk.2
    · exact c d v H' e r fq hk
end
section
variable {C : Cx} {e a b : Expr} {es : List Expr} {p q : PX} {m : Mode} {fr : Bool} {pos pp : Pos} {x : Str}
/-! ### tuple(range(..)), list(range(..)) -/
def dRg (f : List D → D) : D → D → (D → Prop) → Prop := fun x y k => match x, y with
  | .int i, .int j => (0 ≤ i ∧ i < 100000 ∧ 0 ≤ j ∧ j < 100000) ∧ k (f (rangeD i (j - i).toNat))
  | _, _ => False
def eRg1 (f : List D → D) (p : PX) : PX := fun env k => p env fun x => dRg f (.int 0) x k
def dRevL : D → (D → Prop) → Prop := fun d k => match d with
  | .lst xs => k (.lst xs.reverse)
  | _ => False
/-! ### more changes of what a slot owns -/
/-- y = x.pop(e) -/
def sPopAt (j i : Nat) (p : PX) : PSt := fun env k => match env[i]? with
  | some (.own (.lst xs)) => p env fun d => inK d fun n => (-100000 < n ∧ n < 100000) ∧ ∃ jj y, seqIndex? n xs.length = some jj ∧ xs[jj]? = some y ∧ k.nx ((env.set i (.own (.lst (xs.eraseIdx jj)))).set j (.val y))
  | _ => False
theorem mutL {z : Zn} {X : AP} {H0 H : Hp} {σ : Sl} {env : List SV} {i : Nat} {a : Addr} {d : D} {vs' : List V} {ds' : List D} (o : Ok z X H0 H σ env) (hi : env[i]? = some (.own d)) (hs : σ[i]? = some (some (V.ref a))) (hz : ¬ z.Z a) (h : IsA z (Ms z X σ env) H vs' ds') :
    Ok z X H0 (upd H a (.lst vs')) σ (env.set i (.own (.lst ds'))) ∧ Fr z X (Ms z X σ env) H (Ms z X σ (env.set i (.own (.lst ds')))) (upd H a (.lst vs')) := by
  have ia : Ms z X σ env a := .inr (.inr ⟨i, _, hi, hs⟩)
  exact o.mut hi hs ⟨vs', upd_same, h.gen (fun b u hb n => ⟨by rw [upd_ne (fun e => n (by rw [e]; exact ia))]; exact hb, n⟩) fun b hb => ok_mut hz hb⟩
/-- x[i] = e -/
def sPut (i : Nat) (pi pe : PX) : PSt := fun env k => pe env fun y => match env[i]? with
  | some (.own (.lst xs)) => pi env fun d => match d with
    | .int n => ∃ jj, ixN xs.length n = some jj ∧ k.nx (env.set i (.own (.lst (xs.set jj y))))
    | _ => False
  | _ => False
theorem s_put (i : Nat) {x : Str} {ix : Expr} {spos : Pos} (he : E .e C e p) (hi : E m C ix q) (hN : C.N[i]? = some x := by rfl) (hv : Vis C.env.scope x := by first | exact Or.inl rfl | exact Or.inr (Or.inl rfl) | exact Or.inr (Or.inr rfl)) (hd : (x == ("__debug__" : Str)) = false := by decide)
    (hcd : (x == ("__classdict__" : Str)) = false := by decide)
    (ha : ∀ v, assign (.Subscript (.Name x pp) ix spos) C.env v = (do
      let ov ← holding [v] (eval (.Name x pp) C.env)
      let iv ← holding [v, ov] (eval ix C.env)
      standAt spos
      holding [v, ov, iv] (setItem ov iv v)
      release [v, ov, iv] []) := by intro _; rfl)
    (hs : swapsWithSole [.Subscript (.Name x pp) ix spos] e pos.line C.env = pure false := by rfl) (hw : swappedStores [.Subscript (.Name x pp) ix spos] e C.env = pure none := by rfl)
    (h1 : (assignEach [.Subscript (.Name x pp) ix spos] C.env).map (·.2) = [assign (.Subscript (.Name x pp) ix spos) C.env] := by rfl) : S fr C (.Assign [.Subscript (.Name x pp) ix spos] e pos) (sPut i q p) := by
  obtain ⟨t, a1, a2⟩ := he
  obtain ⟨t2, b1, b2⟩ := hi.toB
  refine ⟨_, ps_asg a1 (pg_sub (pe_var hN hv hd hcd) b1 set_list ha) hs hw h1, fun z X H0 H σ env G k o s hp => a2 z X H0 H σ env _ _ o (fun y v H1 e1 r1 hx => ?_) hp⟩
  split at hx
  · rename_i xs he
    have o1 := o.go e1
    obtain ⟨a, q1, ⟨vs, q5, q6⟩, q3, q4⟩ := o1.own i _ he
    refine ⟨_, q1, b2 z X H0 H1 σ env _ _ o1 (fun d u H2 e2 r2 hx => ?_) hx⟩
    cases d with
    | int n =>
      cases Is.intI r2
      obtain ⟨jj, g1, hk⟩ := hx
      have o2 := o1.go e2
      have q5' := e2.old a _ q5 q3
      have q6' := IsA.evo (fun _ q => .inl q) e2 q6
      refine ⟨a, vs, n, jj, rfl, rfl, q5', by rw [q6.length]; exact g1, ?_⟩
      obtain ⟨o3, f3⟩ := mutL o2 he q1 q3 (IsA.set (Is.evo (fun _ q => .inl q) e2 r1) jj q6')
      exact s.nx _ _ _ o3 ((o.fr (e1.trans e2)).trans f3) hk
    | _ => exact (show False from hx).elim
  · exact hx.elim
/-! ### while -/
end
end Pu
namespace Pu
open PySem PySem.Spec PyProof.Rows L2
variable [Tbs]
section
variable {C : Cx} {tg e : Expr} {pe : PX} {m : Mode} {fr : Bool} {pos pp : Pos}
/-- a list or a tuple walked -/
def iSeqT (K : PySem.W.Frag) (tl : TE) : TI := fun σ H R => tl σ H fun x H1 => (∃ a, x = .ref a ∧ (∃ xs, SqL K H1 a xs) ∧ R (Itl K a) H1) ∨ (∃ a, x = .ref a ∧ (∃ xs, SqT K H1 a xs) ∧ R (Itt K a) H1)
theorem pi_seq {l : Expr} {tl : TE} (hl : PE C l tl) : PI C tg l (iSeqT C.K tl) := by
  refine ⟨fun pins s σ H R I h => ?_⟩
  refine thn (hl.run pins s σ H _ I h) fun v s1 ⟨x, H1, I1, r1, q1⟩ => ?_
  have hb : ∀ b ∈ [s1.heap.objs.size], FpOk C pins H1 b := fun b hb => by
    have e : b = s1.heap.objs.size := by simpa using hb
    subst e
    exact I1.fpOk (Nat.le_refl _) (I1.hok.fresh (Nat.le_refl _))
  rcases q1 with ⟨a, e, ⟨xs, hq⟩, q⟩ | ⟨a, e, ⟨xs, hq⟩, q⟩
  · subst e
    cases r1
    obtain ⟨its, rv, p, hz⟩ := I1.list hq
    refine wpAny_pyIter_list p.isList ?_
    exact ⟨s1.heap.objs.size, [s1.heap.objs.size], _, _, H1, rfl, I1.kept (t' := s1.toks) fun b o e => Heap.get?_push_of_some _ e, turn_list a _, ⟨_, Heap.get?_push_size _ rfl, rfl, rfl⟩, hb, q⟩
  · subst e
    cases r1
    obtain ⟨its, rv, p, hz⟩ := I1.tuple hq
    refine wpAny_pyIter_tuple (show s1.heap.IsTuple a its.toArray from p) ?_
    exact ⟨s1.heap.objs.size, [s1.heap.objs.size], _, _, H1, rfl, I1.kept (t' := s1.toks) fun b o e => Heap.get?_push_of_some _ e, turn_tuple a _, ⟨_, Heap.get?_push_size _ rfl, rfl, rfl⟩, hb, q⟩
theorem i_seq (h : E .e C e pe) : I C tg e (iSeq pe) := by
  obtain ⟨t, h1, h2⟩ := h
  refine ⟨_, pi_seq h1, fun z X H0 H σ env R k o c hp => h2 z X H0 H σ env _ _ o (fun d v H1 e1 r1 hx => ?_) hp⟩
  cases (show Is z _ H1 v d from r1) with
  | lst e n r => exact .inl ⟨_, rfl, ⟨_, SqL.of e⟩, c _ _ H1 e1 (yl_lst e n r) hx⟩
  | tup e n r => exact .inr ⟨_, rfl, ⟨_, SqT.of e⟩, c _ _ H1 e1 (yl_tup e n r) hx⟩
  | _ => exact (show False from hx).elim
/-- what a slot owns is changed no more -/
def frz (i : Nat) (env : List SV) : List SV := match env[i]? with
  | some (.own d) => env.set i (.val d)
  | _ => env
theorem Ok.frz {z : Zn} {X : AP} {H0 H : Hp} {σ : Sl} {env : List SV} (o : Ok z X H0 H σ env) (i : Nat) : Ok z X H0 H σ (frz i env) ∧ Fr z X (Ms z X σ env) H (Ms z X σ (Pu.frz i env)) H := by
  unfold Pu.frz
  split
  · rename_i d hd
    have hl : i < env.length := (List.getElem?_eq_some_iff.mp hd).1
    obtain ⟨a, ha, hc, hz, hx, h0⟩ := o.own i d hd
    have sub : ∀ b, Ms z X σ (env.set i (.val d)) b → Ms z X σ env b ∧ b ≠ a := by
      rintro b (h | h | ⟨j, e, h1, h2⟩)
      · exact ⟨.inl h, fun q => hz (by rw [← q]; exact h)⟩
      · exact ⟨.inr (.inl h), fun q => hx (by rw [← q]; exact h)⟩
      · obtain ⟨hj, h1⟩ := set_own h1
        refine ⟨.inr (.inr ⟨j, e, h1, h2⟩), fun q => hj ?_⟩
        rw [q] at h2
        exact o.inj j i a e d h1 hd h2 ha
    have old : ∀ b u, H b = some u → ¬ Ms z X σ env b → H b = some u ∧ ¬ Ms z X σ (env.set i (.val d)) b := fun b u q n => ⟨q, fun y => n (sub b y).1⟩
    refine ⟨⟨by simp [o.len], o.evo, o.zal, o.xal, fun j e h => ?_, fun j e h => ?_, fun j l b e f h1 h2 h3 h4 => ?_, o.tab, fun j g hL h => (o.gs j g (by simpa using hL) (by first | exact (set_gsV h).2 | exact (set_gsO h).2)).gen old fun _ h => h⟩, ⟨old, fun _ h => h, fun _ h => h⟩⟩
    · by_cases hj : i = j
      · subst hj
        rw [List.getElem?_set_self hl] at h
        cases h
        exact ⟨_, ha, (hc.gen (fun _ q => q) old fun _ h => h).is fun q => (sub a q).2 rfl⟩
      · rw [List.getElem?_set_ne hj] at h
        obtain ⟨v, h1, h2⟩ := o.val j e h
        exact ⟨v, h1, h2.gen old fun _ h => h⟩
    · obtain ⟨hj, h⟩ := set_own h
      obtain ⟨b, h1, h2, h3⟩ := o.own j e h
      exact ⟨b, h1, h2.gen (fun _ q => q) old fun _ h => h, h3⟩
    · exact o.inj j l b e f (set_own h1).2 (set_own h2).2 h3 h4
  · exact ⟨o, Fr.refl⟩
def sFrz (i : Nat) (p : PSt) : PSt := fun env k => p (frz i env) k
theorem b_frz (i : Nat) {sts : List Stmt} {p : PSt} (h : B fr C sts p) : B fr C sts (sFrz i p) := by
  obtain ⟨t, h1, h2⟩ := h
  refine ⟨t, h1, fun z X H0 H σ env G k o s hp => ?_⟩
  obtain ⟨o2, f2⟩ := o.frz i
  exact h2 z X H0 H σ _ G k o2 (s.go f2) hp
end
/-! ### a law by its deck and the rest of its body -/
section
variable {P : Program} {w : World} {K : PySem.W.Frag} {mg : Str → Option Value} {base : Heap}
abbrev tbAll : List Addr := Tbs.tb ++ Tbs.tl.map (·.1)
theorem Tabs.of0 {H : Hp} (h : ∀ P ∈ tbAll, H P = some (.tbl #[])) : Tabs H :=
  ⟨fun P hP => ⟨#[], h P (List.mem_append_left _ hP), by first | trivial | exact .nil | (simp [TriplesOk])⟩, fun p hp => ⟨#[], h p.1 (List.mem_append_right _ (List.mem_map.mpr ⟨p, hp, rfl⟩)), by first | trivial | exact .nil | (simp [TriplesOk]), fun pos cv q => by
    have q : codeAmong pos [] = some cv := q
    simp [codeAmong] at q⟩⟩
omit [Tbs] in
def sp_lawT (K : PySem.W.Frag) (tb : List Addr) : Sp := fun vs H Q _ => ∃ (a : Addr) (ns : List Int), vs = [.ref a] ∧ SqL K H a (ns.map V.int) ∧ ns.length ≤ 63 ∧ (∀ P ∈ tb, H P = some (.tbl #[])) ∧ ∀ H', Q (.bl true) H'
end
end Pu
namespace Pu
open PySem PySem.Spec PyProof.Rows L2
variable [Tbs]
theorem E.conv {C : Cx} {m : Mode} {e : Expr} {p p' : PX} (h : E m C e p) (f : ∀ env k, p' env k → p env k) : E m C e p' := by
  obtain ⟨t, h1, h2⟩ := h
  exact ⟨t, h1, fun z X H0 H σ env Q k o c hp => h2 z X H0 H σ env Q k o c (f env k hp)⟩
/-- a written power -/
theorem e_powC {C : Cx} {i1 i2 : Nat} {p1 p2 pos : Pos} (b e r : Int) (hc : CPow b e := by exact ⟨by decide, by decide, by decide⟩) (hr : b ^ e.toNat = r := by rfl) : E .e C (.BinOp (.Constant (.int b) i1 p1) .Pow (.Constant (.int e) i2 p2) pos) (eC (.int r)) :=
  (e_op op_pow opd_pow e_int.toB e_int.toB).conv fun env k h => ⟨hc, by show k (.int (b ^ e.toNat)); rw [hr]; exact h⟩
end Pu
namespace Pu
open PySem PySem.Spec PyProof.Rows L2
variable [Tbs]
section
variable {C : Cx} {e tg : Expr} {p q : PX} {m : Mode} {fr : Bool} {pos pp : Pos}
/-- a statement that is never come to -/
def sNever : PSt := fun _ _ => False
theorem s_never {st : Stmt} : S fr C st sNever := ⟨_, ps_never, fun _ _ _ _ _ _ _ _ _ _ h => h.elim⟩
/-! enumerate -/
def enumD (j : Int) (xs : List D) : List D := (List.range xs.length).map fun i => .tup [.int (j + (i : Nat)), (xs[i]?).getD .non]
def enK (d s : D) (k : List D → Prop) : Prop := match d, s with
  | .tup xs, .int j => (-100000 < j ∧ j < 100000) ∧ k (enumD j xs)
  | _, _ => False
def iEnumS (p q : PX) : PIt := fun env k => p env fun d => q env fun s => enK d s k
/-- reversed(range(n)) -/
def revD (n : Nat) : List D := (List.range n).map fun i => .int ((n : Int) - 1 - (i : Nat))
def rvK (d : D) (k : List D → Prop) : Prop := match d with
  | .int j => (-100000 < j ∧ j < 100000) ∧ k (revD j.toNat)
  | _ => False
def iRev1 (p : PX) : PIt := fun env k => p env fun d => rvK d k
/-- x += e, whole numbers -/
def sAug (i : Nat) (p : PX) : PSt := fun env k => match env[i]? with
  | some (.val (.int a)) => p env fun d => inK d fun b => k.nx (env.set i (.val (.int (a + b))))
  | _ => False
end
end Pu
namespace Pu
open PySem PySem.Spec PyProof.Rows L2
variable [Tbs]
section
variable {C : Cx} {e tg : Expr} {p q : PX} {m : Mode} {fr : Bool} {pos pp : Pos}
def en0K (d : D) (k : List D → Prop) : Prop := match d with
  | .tup xs => k (enumD 0 xs)
  | .lst xs => k (enumD 0 xs)
  | _ => False
def iEnum0 (p : PX) : PIt := fun env k => p env fun d => en0K d k
/-- x.insert(i, e) -/
def sInsert (i : Nat) (pi pe : PX) : PSt := fun env k => match env[i]? with
  | some (.own (.lst xs)) => pi env fun d => pe env fun y => inK d fun n => (0 ≤ n ∧ n < 100000 ∧ xs.length ≤ 100000) ∧ k.nx (env.set i (.own (.lst (xs.take n.toNat ++ [y] ++ xs.drop n.toNat))))
  | _ => False
end
end Pu
namespace Pu
open PySem PySem.Spec PyProof.Rows L2
variable [Tbs]
/-! min of a list of tuples of whole numbers -/
/-! ### expressions that change what a slot owns -/
abbrev PMX := List SV → (List SV → D → Prop) → Prop
abbrev PMA := List SV → (List SV → List D → Prop) → Prop
section
variable {C : Cx} {fr : Bool} {m : Mode} {e : Expr} {es : List Expr} {p : PX} {pos pp : Pos}
def mE (p : PX) : PMX := fun env k => p env fun d => k env d
def mNil : PMA := fun env k => k env []
def mCons (p : PMX) (q : PMA) : PMA := fun env k => p env fun env1 d => q env1 fun env2 ds => k env2 (d :: ds)
def mLst (q : PMA) : PMX := fun env k => q env fun env1 ds => ds.length ≤ 100000 ∧ k env1 (.lst ds)
def mTup (q : PMA) : PMX := fun env k => q env fun env1 ds => ds.length ≤ 100000 ∧ k env1 (.tup ds)
def sSetM (i : Nat) (p : PMX) : PSt := fun env k => p env fun env1 d => k.nx (env1.set i (.val d))
/-- x.pop(e), x.pop() -/
def mPop (i : Nat) (p : PX) : PMX := fun env k => match env[i]? with
  | some (.own (.lst xs)) => p env fun d => inK d fun n => (-100000 < n ∧ n < 100000) ∧ ∃ jj y, seqIndex? n xs.length = some jj ∧ xs[jj]? = some y ∧ k (env.set i (.own (.lst (xs.eraseIdx jj)))) y
  | _ => False
def mPop0 (i : Nat) : PMX := fun env k => match env[i]? with
  | some (.own (.lst xs)) => ∃ y, xs[xs.length - 1]? = some y ∧ k (env.set i (.own (.lst xs.dropLast))) y
  | _ => False
theorem sSeq_setM {i : Nat} {p : PMX} {Q : PSt} {env : List SV} {K : PK'} (h : sSetM i p env { K with nx := fun env' => Q env' K }) : sSeq (sSetM i p) Q env K := h
theorem sSetM_i {i : Nat} {p : PMX} {env : List SV} {K : PK'} (h : p env fun env1 d => K.nx (env1.set i (.val d))) : sSetM i p env K := h
theorem mE_i {p : PX} {env : List SV} {k : List SV → D → Prop} (h : p env fun d => k env d) : mE p env k := h
theorem mNil_i {env : List SV} {k : List SV → List D → Prop} (h : k env []) : mNil env k := h
theorem mCons_i {p : PMX} {q : PMA} {env : List SV} {k : List SV → List D → Prop} (h : p env fun env1 d => q env1 fun env2 ds => k env2 (d :: ds)) : mCons p q env k := h
theorem mLst_i {q : PMA} {env : List SV} {k : List SV → D → Prop} (h : q env fun env1 ds => ds.length ≤ 100000 ∧ k env1 (.lst ds)) : mLst q env k := h
theorem mTup_i {q : PMA} {env : List SV} {k : List SV → D → Prop} (h : q env fun env1 ds => ds.length ≤ 100000 ∧ k env1 (.tup ds)) : mTup q env k := h
theorem mPop_i {i : Nat} {p : PX} {env : List SV} {xs : List D} {k : List SV → D → Prop} (e : env[i]? = some (.own (.lst xs))) (h : p env fun d => inK d fun n => (-100000 < n ∧ n < 100000) ∧ ∃ jj y, seqIndex? n xs.length = some jj ∧ xs[jj]? = some y ∧ k (env.set i (.own (.lst (xs.eraseIdx jj)))) y) : mPop i p env k := by unfold mPop; rw [e]; exact h
theorem mPop0_i {i : Nat} {env : List SV} {xs : List D} {k : List SV → D → Prop} (e : env[i]? = some (.own (.lst xs))) (h : ∃ y, xs[xs.length - 1]? = some y ∧ k (env.set i (.own (.lst xs.dropLast))) y) : mPop0 i env k := by unfold mPop0; rw [e]; exact h
end
/-! ### zip of two lists, of two tuples -/
/-! ### sum, max, min of a list or a tuple of whole numbers -/
/-! ### (x,) * n -/
end Pu
namespace Pu
open PySem PySem.Spec PyProof.Rows L2
variable [Tbs]
/-! ### dicts by whole numbers, owned -/
def valD (kvs : List (Key × D)) (k : Key) : Option D := (kvs.find? fun kv => decide (kv.1 = k)).map (·.2)
def putD (kvs : List (Key × D)) (k : Key) (d : D) : List (Key × D) :=
  if (kvs.any fun kv => decide (kv.1 = k)) = true then kvs.map (fun kv => if kv.1 = k then (kv.1, d) else kv) else kvs ++ [(k, d)]
section
variable {z : Zn} {M : AP} {H : Hp}
theorem IsK.len : ∀ {vs : List (Key × V)} {ds : List (Key × D)}, IsK z M H vs ds → vs.length = ds.length
  | _, _, .nil => rfl
  | _, _, .cons _ t => congrArg Nat.succ (IsK.len t)
theorem IsK.val (k : Key) : ∀ {vs : List (Key × V)} {ds : List (Key × D)}, IsK z M H vs ds → (valD ds k = none → valV vs k = none) ∧ (∀ d, valD ds k = some d → ∃ v, valV vs k = some v ∧ Is z M H v d)
  | _, _, .nil => ⟨fun _ => rfl, fun d h => by cases h⟩
  | _, _, .cons (k := k') (v := v) (d := d) (vs := vs) (ds := ds) h t => by
    have ih := IsK.val k t
    by_cases e : k' = k
    · rw [valV_pos (p := (k', v)) (r := vs) e, show valD ((k', d) :: ds) k = some d by simp [valD, List.find?_cons, e]]
      refine ⟨fun q => (by cases q), fun d' q => ?_⟩
      cases q
      exact ⟨v, rfl, h⟩
    · rw [valV_neg (p := (k', v)) (r := vs) e, show valD ((k', d) :: ds) k = valD ds k by simp [valD, List.find?_cons, e]]
      exact ih
theorem IsK.any (k : Key) : ∀ {vs : List (Key × V)} {ds : List (Key × D)}, IsK z M H vs ds → (vs.any fun kv => decide (kv.1 = k)) = ds.any fun kv => decide (kv.1 = k)
  | _, _, .nil => rfl
  | _, _, .cons h t => by rw [List.any_cons, List.any_cons, IsK.any k t]
theorem IsK.mapP {k : Key} {v : V} {d : D} (hv : Is z M H v d) : ∀ {vs : List (Key × V)} {ds : List (Key × D)}, IsK z M H vs ds → IsK z M H (vs.map fun kv => if kv.1 = k then (kv.1, v) else kv) (ds.map fun kv => if kv.1 = k then (kv.1, d) else kv)
  | _, _, .nil => .nil
  | _, _, .cons (k := k') h t => by
    rw [List.map_cons, List.map_cons]
    by_cases e : k' = k
    · rw [if_pos e, if_pos e]
      exact .cons hv (IsK.mapP hv t)
    · rw [if_neg e, if_neg e]
      exact .cons h (IsK.mapP hv t)
theorem IsK.snoc {k : Key} {v : V} {d : D} (hv : Is z M H v d) : ∀ {vs : List (Key × V)} {ds : List (Key × D)}, IsK z M H vs ds → IsK z M H (vs ++ [(k, v)]) (ds ++ [(k, d)])
  | _, _, .nil => .cons hv .nil
  | _, _, .cons h t => .cons h (IsK.snoc hv t)
theorem IsK.put {k : Key} {v : V} {d : D} {vs : List (Key × V)} {ds : List (Key × D)} (h : IsK z M H vs ds) (hv : Is z M H v d) : IsK z M H (putK vs k v) (putD ds k d) := by
  unfold putK putD
  rw [h.any k]
  split
  · exact h.mapP hv
  · exact h.snoc hv
end
section
variable {C : Cx} {fr : Bool} {m : Mode} {e a b : Expr} {p q : PX} {pos pp : Pos}
/-- x[i] = e, x a dict -/
def sDput (i : Nat) (pi pe : PX) : PSt := fun env k => pe env fun y => match env[i]? with
  | some (.own (.dic kvs)) => pi env fun d => inK d fun n => kvs.length ≤ 100000 ∧ k.nx (env.set i (.own (.dic (putD kvs (.inl n) y))))
  | _ => False
def dDin : D → D → (D → Prop) → Prop := fun x y k => match x, y with
  | .int n, .dic kvs => k (.bl (valD kvs (.inl n)).isSome)
  | _, _ => False
theorem dDin_i {kvs : List (Key × D)} {n : Int} {k : D → Prop} (h : k (.bl (valD kvs (.inl n)).isSome)) : dDin (.int n) (.dic kvs) k := h
theorem eO_d {i : Nat} {env : List SV} {kvs : List (Key × D)} {k : D → Prop} (e : env[i]? = some (.own (.dic kvs))) (h : k (.dic kvs)) : eO i env k := by unfold eO; rw [e]; exact h
theorem sDput_i {i : Nat} {pi pe : PX} {env : List SV} {kvs : List (Key × D)} {K : PK'} (e : env[i]? = some (.own (.dic kvs))) (h : pe env fun y => pi env fun d => inK d fun n => kvs.length ≤ 100000 ∧ K.nx (env.set i (.own (.dic (putD kvs (.inl n) y))))) : sDput i pi pe env K := by
  unfold sDput
  rw [e]
  exact h
end
/-! ### a statement by its reading, between statements by hand -/
/-! ### sorted(set(t)), t a tuple of whole numbers -/
end Pu
namespace Pu
open PySem PySem.Spec PyProof.Rows L2
variable [Tbs]
/-! ### going through a reading, step by step -/
section
variable {env : List SV} {k : D → Prop} {K : PK'} {p q r : PX} {s t : PTs'} {P Q : PSt} {d : D} {ds xs ys : List D} {i n : Nat} {a b c : Int} {g : PAs}
theorem sSeq_mid (Mid : List SV → Prop) (h : ∀ N : List SV → Prop, (∀ e, Mid e → N e) → P env { K with nx := N }) (h2 : ∀ e, Mid e → Q e K) : sSeq P Q env K := h _ h2
theorem sSeq_set (h : sSet i p env { K with nx := fun env' => Q env' K }) : sSeq (sSet i p) Q env K := h
theorem sSeq_own (h : sOwn i p env { K with nx := fun env' => Q env' K }) : sSeq (sOwn i p) Q env K := h
theorem sSeq_asg {gt : PGt} (h : sAsg p gt env { K with nx := fun env' => Q env' K }) : sSeq (sAsg p gt) Q env K := h
theorem sSeq_par {j : Nat} (h : sPar i j g env { K with nx := fun env' => Q env' K }) : sSeq (sPar i j g) Q env K := h
theorem sSeq_app (h : sAppend i p env { K with nx := fun env' => Q env' K }) : sSeq (sAppend i p) Q env K := h
theorem sSeq_put (h : sPut i p q env { K with nx := fun env' => Q env' K }) : sSeq (sPut i p q) Q env K := h
theorem sSeq_pop {j : Nat} (h : sPopAt j i p env { K with nx := fun env' => Q env' K }) : sSeq (sPopAt j i p) Q env K := h
theorem sSeq_drop (h : sDrop p env { K with nx := fun env' => Q env' K }) : sSeq (sDrop p) Q env K := h
theorem sSeq_for {it : PIt} {gt : PGt} (h : sFor it gt P env { K with nx := fun env' => Q env' K }) : sSeq (sFor it gt P) Q env K := h
theorem sSeq_ifr (h : sIf s (sRet p) sNext env { K with nx := fun env' => Q env' K }) : sSeq (sIf s (sRet p) sNext) Q env K := h
theorem sSeq_ifn (h : sIf s sRetN sNext env { K with nx := fun env' => Q env' K }) : sSeq (sIf s sRetN sNext) Q env K := h
theorem sNext_i (h : K.nx env) : sNext env K := h
theorem sSet_i (h : p env fun d => K.nx (env.set i (.val d))) : sSet i p env K := h
theorem sOwn_i (h : p env fun d => i < env.length ∧ K.nx (env.set i (.own d))) : sOwn i p env K := h
theorem sRet_i (h : p env K.rt) : sRet p env K := h
theorem sRetO_i (e : env[i]? = some (.own d)) (h : K.rt d) : sRetO i env K := by unfold sRetO; rw [e]; exact h
theorem sRetN_i (h : K.rt .non) : sRetN env K := h
theorem sDrop_i (h : p env fun _ => K.nx env) : sDrop p env K := h
theorem sIf_i (h : s env fun b => if b = true then P env K else Q env K) : sIf s P Q env K := h
theorem sAsg_i {gt : PGt} (h : p env fun d => gt d env K.nx) : sAsg p gt env K := h
theorem sPar_i {j : Nat} (h : g env fun ds => prK ds fun c d => K.nx ((env.set i (.val c)).set j (.val d))) : sPar i j g env K := h
theorem prK_i {e : D} {k : D → D → Prop} (h : k d e) : prK [d, e] k := h
theorem nx_i {f f' f'' : List SV → Prop} {g : D → Prop} (h : f env) : PK'.nx { nx := f, rt := g, bk := f', ct := f'' } env := h
theorem bk_i {f f' f'' : List SV → Prop} {g : D → Prop} (h : f' env) : PK'.bk { nx := f, rt := g, bk := f', ct := f'' } env := h
theorem ct_i {f f' f'' : List SV → Prop} {g : D → Prop} (h : f'' env) : PK'.ct { nx := f, rt := g, bk := f', ct := f'' } env := h
theorem rt_i {f f' f'' : List SV → Prop} {g : D → Prop} (h : g d) : PK'.rt { nx := f, rt := g, bk := f', ct := f'' } d := h
theorem blK_i {b : Bool} {k : Bool → Prop} (h : k b) : blK (.bl b) k := h
theorem inK_i {k : Int → Prop} (h : k a) : inK (.int a) k := h
theorem sqK_t {k : List D → Prop} (h : k xs) : sqK (.tup xs) k := h
theorem sqK_l {k : List D → Prop} (h : k xs) : sqK (.lst xs) k := h
theorem sFrz_i (e : env[i]? = some (.own d)) (h : P (env.set i (.val d)) K) : sFrz i P env K := by unfold sFrz frz; rw [e]; exact h
theorem sFor_i {it : PIt} {gt : PGt} (h : it env fun ds => forP gt P ds env K) : sFor it gt P env K := h
theorem sAppend_i (e : env[i]? = some (.own (.lst xs))) (h : p env fun d => xs.length ≤ 100000 ∧ K.nx (env.set i (.own (.lst (xs ++ [d]))))) : sAppend i p env K := by unfold sAppend; rw [e]; exact h
theorem eC_i (h : k d) : eC d env k := h
theorem eV_i (e : env[i]? = some (.val d)) (h : k d) : eV i env k := by unfold eV; rw [e]; exact h
theorem eO_i (e : env[i]? = some (.own (.lst xs))) (h : k (.lst xs)) : eO i env k := by unfold eO; rw [e]; exact h
theorem eOp_i {o : D → D → (D → Prop) → Prop} (h : p env fun x => q env fun y => o x y k) : eOp o p q env k := h
theorem eUn_i {o : D → (D → Prop) → Prop} (h : p env fun x => o x k) : eUn o p env k := h
theorem eChain_i {o o' : D → D → (D → Prop) → Prop} (h : p env fun x => q env fun y => o x y fun w => bCase w (r env fun u => o' y u k) (k (.bl false))) : eChain o o' p q r env k := h
theorem bCase_i {c : Bool} {A B : Prop} (h1 : c = true → A) (h2 : c = false → B) : bCase (.bl c) A B := by
  cases c with
  | true => exact h1 rfl
  | false => exact h2 rfl
theorem bCase_d {c : Prop} [Decidable c] {A B : Prop} (h1 : c → A) (h2 : ¬ c → B) : bCase (.bl (decide c)) A B := bCase_i (fun e => h1 (of_decide_eq_true e)) fun e => h2 (of_decide_eq_false e)
theorem bCase_t {A B : Prop} (h : A) : bCase (.bl true) A B := h
theorem bCase_f {A B : Prop} (h : B) : bCase (.bl false) A B := h
theorem eAnd_i (h : p env fun x => bCase x (q env k) (k (.bl false))) : eAnd p q env k := h
theorem eOr_i (h : p env fun x => bCase x (k (.bl true)) (q env k)) : eOr p q env k := h
theorem eIf_i (h : s env fun x => if x = true then p env k else q env k) : eIf s p q env k := h
theorem eTup_i (h : g env fun xs => xs.length ≤ 100000 ∧ k (.tup xs)) : eTup g env k := h
theorem eLst_i (h : g env fun xs => xs.length ≤ 100000 ∧ k (.lst xs)) : eLst g env k := h
theorem eCall_i {o : List D → (D → Prop) → Prop} (h : g env fun ds => o ds k) : eCall o g env k := h
theorem aNil_i {k : List D → Prop} (h : k []) : aNil env k := h
theorem aCons_i {k : List D → Prop} (h : p env fun x => g env fun xs => k (x :: xs)) : aCons p g env k := h
theorem tOf_i {k : Bool → Prop} (h : p env fun d => blK d k) : tOf p env k := h
theorem tAndP_i {k : Bool → Prop} (h : s env fun x => if x = true then t env k else k false) : tAndP s t env k := h
theorem tOrP_i {k : Bool → Prop} (h : s env fun x => if x = true then k true else t env k) : tOrP s t env k := h
theorem tNotP_i {k : Bool → Prop} (h : s env fun x => k (!x)) : tNotP s env k := h
theorem dI0_i {f : Int → Int → D} (h : k (f a b)) : dI0 f (.int a) (.int b) k := h
theorem dII_i {C : Int → Int → Prop} {f : Int → Int → D} (c : C a b) (h : k (f a b)) : dII C f (.int a) (.int b) k := ⟨c, h⟩
theorem dAdd_i (h : k (.int (a + b))) : dAdd (.int a) (.int b) k := h
theorem dAdd_t (hl : xs.length + ys.length ≤ 100000) (h : k (.tup (xs ++ ys))) : dAdd (.tup xs) (.tup ys) k := ⟨hl, h⟩
theorem dAdd_l (hl : xs.length + ys.length ≤ 100000) (h : k (.lst (xs ++ ys))) : dAdd (.lst xs) (.lst ys) k := ⟨hl, h⟩
theorem dIx_t (e : atI xs a = some d) (h : k d) : dIx (.tup xs) (.int a) k := ⟨d, e, h⟩
theorem dIx_l (e : atI xs a = some d) (h : k d) : dIx (.lst xs) (.int a) k := ⟨d, e, h⟩
theorem dIx_in (h0 : 0 ≤ a) (h1 : a < xs.length) (h : ∀ d ∈ xs, k d) : dIx (.lst xs) (.int a) k := by
  have hl : a.toNat < xs.length := by omega
  refine ⟨xs[a.toNat], ?_, h _ (List.getElem_mem hl)⟩
  unfold atI ixN
  rw [if_pos h0, if_pos h1]
  exact List.getElem?_eq_getElem hl
theorem dNeg_i (h : k (.int (-a))) : dNeg (.int a) k := h
theorem dNot_i {c : Bool} (h : k (.bl (!c))) : dNot (.bl c) k := h
theorem dTuple_l (h : k (.tup xs)) : dTuple (.lst xs) k := h
theorem dTuple_t (h : k (.tup xs)) : dTuple (.tup xs) k := h
theorem dList_l (h : k (.lst xs)) : dList (.lst xs) k := h
theorem dList_t (h : k (.lst xs)) : dList (.tup xs) k := h
theorem dRevL_i (h : k (.lst xs.reverse)) : dRevL (.lst xs) k := h
theorem gMax_2 (h : k (.int (max a b))) : gMaxN [.int a, .int b] k := h
theorem gMax_3 (h : k (.int (max a (max b c)))) : gMaxN [.int a, .int b, .int c] k := h
theorem gMax_4 {d : Int} (h : k (.int (max a (max b (max c d))))) : gMaxN [.int a, .int b, .int c, .int d] k := h
theorem gMax_5 {d e : Int} (h : k (.int (max a (max b (max c (max d e)))))) : gMaxN [.int a, .int b, .int c, .int d, .int e] k := h
theorem gMin_2 (h : k (.int (min a b))) : gMinN [.int a, .int b] k := h
theorem gMin_3 (h : k (.int (min a (min b c)))) : gMinN [.int a, .int b, .int c] k := h
theorem gMin_4 {d : Int} (h : k (.int (min a (min b (min c d))))) : gMinN [.int a, .int b, .int c, .int d] k := h
theorem gAbs_i (h : k (.int (max a (-a)))) : gAbs [.int a] k := by
  show k (.int (if a < 0 then -a else a))
  rw [show (if a < 0 then -a else a) = max a (-a) by split <;> omega]
  exact h
theorem gLen_t (h : k (.int xs.length)) : gLen [.tup xs] k := h
theorem gLen_l (h : k (.int xs.length)) : gLen [.lst xs] k := h
theorem gInt_i (h : k (.int a)) : gInt [.int a] k := h
theorem gInt_b {c : Bool} (h : k (.int (if c then 1 else 0))) : gInt [.bl c] k := h
theorem gIsi_i {n t : String} {c : Bool} (e1 : tyD d = some t) (e2 : isB t n = some c) (h : k (.bl c)) : gIsi [d, .ty n] k := ⟨t, c, e1, e2, h⟩
theorem gMaxL_i {ns : List Int} (e : intsD xs = some ns) (hn : ns ≠ []) (h : k (.int (maxI ns))) : gMaxL [.lst xs] k := ⟨xs, ns, rfl, e, hn, h⟩
theorem gMinL_i {ns : List Int} (e : intsD xs = some ns) (hn : ns ≠ []) (h : k (.int (minI ns))) : gMinL [.lst xs] k := ⟨xs, ns, rfl, e, hn, h⟩
theorem gSum_i {ns : List Int} (e : intsD xs = some ns) (h : k (.int ns.sum)) : gSum [.lst xs] k := ⟨xs, ns, rfl, e, h⟩
theorem gtName_i {k : List SV → Prop} (h : k (env.set i (.val d))) : gtName i d env k := h
theorem gtTup_i {k : List SV → Prop} {gs : PGs'} (hn : ds.length = n) (h : gs ds env k) : gtTup n gs (.tup ds) env k := ⟨hn, h⟩
theorem gtCons_i {k : List SV → Prop} {gt : PGt} {gs : PGs'} (h : gt d env fun env' => gs ds env' k) : gtCons gt gs (d :: ds) env k := h
theorem gtNil_i {k : List SV → Prop} (h : k env) : gtNil [] env k := h
theorem iRange1_i {k : List D → Prop} (h : g env fun ds => rgK1 ds k) : iRange1 g env k := h
theorem iRange2_i {k : List D → Prop} (h : g env fun ds => rgK2 ds k) : iRange2 g env k := h
theorem rgK1_i {k : List D → Prop} (h1 : -100000 < a) (h2 : a < 100000) (h : k (rangeD 0 a.toNat)) : rgK1 [.int a] k := ⟨h1, h2, h⟩
theorem iSeq_i {k : List D → Prop} (h : p env fun d => sqK d k) : iSeq p env k := h
theorem iEnumS_i {k : List D → Prop} (h : p env fun d => q env fun s => enK d s k) : iEnumS p q env k := h
theorem iEnum0_i {k : List D → Prop} (h : p env fun d => en0K d k) : iEnum0 p env k := h
theorem en0K_t {k : List D → Prop} (h : k (enumD 0 xs)) : en0K (.tup xs) k := h
theorem en0K_l {k : List D → Prop} (h : k (enumD 0 xs)) : en0K (.lst xs) k := h
theorem iRev1_i {k : List D → Prop} (h : p env fun d => rvK d k) : iRev1 p env k := h
theorem sAug_i (e : env[i]? = some (.val (.int a))) (h : p env fun d => inK d fun b => K.nx (env.set i (.val (.int (a + b))))) : sAug i p env K := by unfold sAug; rw [e]; exact h
theorem sInsert_i (e : env[i]? = some (.own (.lst xs))) (h : p env fun d => q env fun y => inK d fun n => (0 ≤ n ∧ n < 100000 ∧ xs.length ≤ 100000) ∧ K.nx (env.set i (.own (.lst (xs.take n.toNat ++ [y] ++ xs.drop n.toNat))))) : sInsert i p q env K := by unfold sInsert; rw [e]; exact h
theorem sPopAt_i {j : Nat} (e : env[i]? = some (.own (.lst xs))) (h : p env fun d => inK d fun n => (-100000 < n ∧ n < 100000) ∧ ∃ jj y, seqIndex? n xs.length = some jj ∧ xs[jj]? = some y ∧ K.nx ((env.set i (.own (.lst (xs.eraseIdx jj)))).set j (.val y))) : sPopAt j i p env K := by unfold sPopAt; rw [e]; exact h
theorem sSeq_ins (h : sInsert i p q env { K with nx := fun env' => Q env' K }) : sSeq (sInsert i p q) Q env K := h
theorem sSeq_aug (h : sAug i p env { K with nx := fun env' => Q env' K }) : sSeq (sAug i p) Q env K := h
theorem eSl_i {lo hi : PO'} (h : p env fun x => lo env fun i => hi env fun j => dSl x i j k) : eSl p lo hi env k := h
theorem oNo_i {k : Option Int → Prop} (h : k none) : oNo env k := h
theorem oPart_i {k : Option Int → Prop} (h : p env fun d => inK d fun i => k (some i)) : oPart p env k := h
theorem dSl_t {lo hi : Option Int} (h : k (.tup (cutD xs lo hi))) : dSl (.tup xs) lo hi k := h
theorem dSl_l {lo hi : Option Int} (h : k (.lst (cutD xs lo hi))) : dSl (.lst xs) lo hi k := h
theorem eRg1_i {f : List D → D} (h : p env fun x => dRg f (.int 0) x k) : eRg1 f p env k := h
theorem dEq_i (hx : pln 60 d = true) {e : D} (he : pln 60 e = true) (h : ∀ c : Bool, (c = true ↔ d = e) → k (.bl c)) : dEq d e k := ⟨_, ⟨pln_shp _ _ hx, pln_shp _ _ he, rfl⟩, h _ (eqvD_iff hx he)⟩
theorem dNe_i (hx : pln 60 d = true) {e : D} (he : pln 60 e = true) (h : ∀ c : Bool, (c = true ↔ d = e) → k (.bl (!c))) : dNe d e k := ⟨_, ⟨pln_shp _ _ hx, pln_shp _ _ he, rfl⟩, h _ (eqvD_iff hx he)⟩
theorem dEq_int (h : k (.bl (decide (a = b)))) : dEq (.int a) (.int b) k := by
  refine ⟨_, ⟨rfl, rfl, rfl⟩, ?_⟩
  have e : eqvD (.int a) (.int b) = decide (a = b) := by
    unfold eqvD
    simp only [pd, PyData.eqv]
    by_cases h : a = b <;> simp [h]
  rw [e]; exact h
theorem dNe_int (h : k (.bl (!decide (a = b)))) : dNe (.int a) (.int b) k := by
  refine ⟨_, ⟨rfl, rfl, rfl⟩, ?_⟩
  have e : eqvD (.int a) (.int b) = decide (a = b) := by
    unfold eqvD
    simp only [pd, PyData.eqv]
    by_cases h : a = b <;> simp [h]
  rw [e]; exact h
theorem ite_d {c : Prop} [Decidable c] {A B : Prop} (h1 : c → A) (h2 : ¬ c → B) : if decide c = true then A else B := by
  by_cases h : c
  · rw [if_pos (decide_eq_true h)]; exact h1 h
  · rw [if_neg (by rw [decide_eq_false h]; exact Bool.false_ne_true)]; exact h2 h
theorem ite_n {c : Prop} [Decidable c] {A B : Prop} (h1 : ¬ c → A) (h2 : c → B) : if (!decide c) = true then A else B := by
  by_cases h : c
  · rw [if_neg (by rw [decide_eq_true h]; exact Bool.false_ne_true)]; exact h2 h
  · rw [if_pos (by rw [decide_eq_false h]; rfl)]; exact h1 h
theorem ite_t {A B : Prop} (h : A) : if true = true then A else B := h
theorem ite_f {A B : Prop} (h : B) : if false = true then A else B := h
theorem ite_nt {A B : Prop} (h : B) : if (!true) = true then A else B := h
theorem ite_nf {A B : Prop} (h : A) : if (!false) = true then A else B := h
theorem and_le {n m : Nat} {A : Prop} (e : Nat.ble n m = true) (h : A) : n ≤ m ∧ A := ⟨Nat.le_of_ble_eq_true e, h⟩
theorem and_lt {n m : Nat} {A : Prop} (e : Nat.ble (n + 1) m = true) (h : A) : n < m ∧ A := ⟨Nat.le_of_ble_eq_true e, h⟩
theorem and_rfl {n m : Nat} {A : Prop} (e : n = m) (h : A) : n = m ∧ A := ⟨e, h⟩
end
/-! loops -/
theorem forP_i {gt : PGt} {body : PSt} {K : PK'} (Inv : Nat → List SV → Prop) : ∀ (ds : List D) (n : Nat) {env : List SV}, Inv n env →
    (∀ i d env, ds[i]? = some d → Inv (n + i) env → ∀ N : List SV → Prop, (∀ e, Inv (n + i + 1) e → N e) → gt d env fun env1 => body env1 { nx := N, rt := K.rt, bk := K.nx, ct := N }) →
    (∀ env, Inv (n + ds.length) env → K.nx env) → forP gt body ds env K
  | [], n, env, h0, _, hd => hd env (by simpa using h0)
  | d :: ds, n, env, h0, hs, hd => by
    unfold forP
    refine hs 0 d env rfl (by simpa using h0) _ fun e he => ?_
    exact forP_i Inv ds (n + 1) (by simpa using he) (fun i d' env' hi hI N hN => by
        refine hs (i + 1) d' env' hi (by rw [show n + (i + 1) = n + 1 + i by omega]; exact hI) N fun e h => hN e ?_
        rw [show n + 1 + i + 1 = n + (i + 1) + 1 by omega]; exact h) (fun env' h => hd env' (by rw [List.length_cons, show n + (ds.length + 1) = n + 1 + ds.length by omega]; exact h))
theorem lcP_i {pg : PGt} {pt : PTs'} {pe : PX} {env : List SV} {k : List D → Prop} (Inv : Nat → List D → Prop) : ∀ (ds : List D) (n : Nat) {acc : List D}, Inv n acc →
    (∀ i d acc, ds[i]? = some d → Inv (n + i) acc → acc.length ≤ 100000 ∧ ∀ (A : D → Prop) (B : Prop), (∀ r, Inv (n + i + 1) (acc ++ [r]) → A r) → (Inv (n + i + 1) acc → B) → pg d env fun env1 => pt env1 fun b => if b = true then pe env1 A else B) →
    (∀ acc, Inv (n + ds.length) acc → k acc) → lcP pg pt pe env ds acc k
  | [], n, acc, h0, _, hd => hd acc (by simpa using h0)
  | d :: ds, n, acc, h0, hs, hd => by
    unfold lcP
    have go : ∀ acc', Inv (n + 1) acc' → lcP pg pt pe env ds acc' k := fun acc' h => lcP_i Inv ds (n + 1) h (fun i d' acc'' hi hI => by
        have q := hs (i + 1) d' acc'' hi (by rw [show n + (i + 1) = n + 1 + i by omega]; exact hI)
        refine ⟨q.1, fun A B hA hB => q.2 A B (fun r h => hA r ?_) (fun h => hB ?_)⟩
        · rw [show n + 1 + i + 1 = n + (i + 1) + 1 by omega]; exact h
        · rw [show n + 1 + i + 1 = n + (i + 1) + 1 by omega]; exact h) (fun acc'' h => hd acc'' (by rw [List.length_cons, show n + (ds.length + 1) = n + 1 + ds.length by omega]; exact h))
    have q := hs 0 d acc rfl (by simpa using h0)
    exact q.2 _ _ (fun r h => ⟨q.1, go _ (by simpa using h)⟩) (fun h => go _ (by simpa using h))
/-- each item by a function -/
theorem lcP_m {α : Type} {pg : PGt} {pt : PTs'} {pe : PX} {env : List SV} {k : List D → Prop} (e : α → D) (f : α → D) (xs : List α) (hl : xs.length ≤ 100000)
    (hs : ∀ x ∈ xs, ∀ (A : D → Prop) (B : Prop), A (f x) → pg (e x) env fun env1 => pt env1 fun b => if b = true then pe env1 A else B) (hk : k (xs.map f)) : lcP pg pt pe env (xs.map e) [] k := by
  have go : ∀ (xs : List α) (acc : List D), acc.length + xs.length ≤ 100000 → (∀ x ∈ xs, ∀ (A : D → Prop) (B : Prop), A (f x) → pg (e x) env fun env1 => pt env1 fun b => if b = true then pe env1 A else B) → k (acc ++ xs.map f) → lcP pg pt pe env (xs.map e) acc k := by
    intro xs
    induction xs with
    | nil => intro acc _ _ hk; simp only [List.map_nil, lcP]; simpa using hk
    | cons x xs ih =>
      intro acc hl hs hk
      rw [List.map_cons]
      unfold lcP
      have hl' : acc.length + (xs.length + 1) ≤ 100000 := by simpa using hl
      refine hs x List.mem_cons_self _ _ ⟨by omega, ih _ (by rw [List.length_append, List.length_singleton]; omega) (fun y h => hs y (List.mem_cons_of_mem _ h)) (by simpa using hk)⟩
  exact go xs [] (by simpa using hl) hs (by simpa using hk)
theorem lcP_ma {α : Type} {pg : PGt} {pt : PTs'} {pe : PX} {env : List SV} {k : List D → Prop} (e : α → D) (f : α → D) : ∀ (xs : List α) (acc : List D), acc.length + xs.length ≤ 100000 →
    (∀ x ∈ xs, ∀ (A : D → Prop) (B : Prop), A (f x) → pg (e x) env fun env1 => pt env1 fun b => if b = true then pe env1 A else B) → k (acc ++ xs.map f) → lcP pg pt pe env (xs.map e) acc k
  | [], acc, _, _, hk => by simp only [List.map_nil, lcP]; simpa using hk
  | x :: xs, acc, hl, hs, hk => by
    rw [List.map_cons]
    unfold lcP
    have hl' : acc.length + (xs.length + 1) ≤ 100000 := by simpa using hl
    exact hs x List.mem_cons_self _ _ ⟨by omega, lcP_ma e f xs _ (by rw [List.length_append, List.length_singleton]; omega) (fun y h => hs y (List.mem_cons_of_mem _ h)) (by simpa using hk)⟩
theorem lcP2_m {α β : Type} {vs1 : List Nat} {pg : PGt} {pt : PTs'} {pi1 : PIt} {pg1 : PGt} {pt1 : PTs'} {pe : PX} {env : List SV} {k : List D → Prop} (e : α → D) (ys : List β) (f : α → β → D) (xs : List α) (hl : xs.length * ys.length ≤ 100000)
    (hs : ∀ x ∈ xs, ∀ (acc : List D) (A : List D → Prop) (B : Prop), acc.length + ys.length ≤ 100000 → A (acc ++ ys.map (f x)) → pg (e x) env fun env1 => pt env1 fun b => if b = true then pi1 env1 fun ds1 => noOwn env1 vs1 ∧ lcP pg1 pt1 pe (wipeE env1 vs1) ds1 acc A else B)
    (hk : k (xs.flatMap fun x => ys.map (f x))) : lcP2 vs1 pg pt pi1 pg1 pt1 pe env (xs.map e) [] k := by
  have go : ∀ (xs : List α) (acc : List D), acc.length + xs.length * ys.length ≤ 100000 → (∀ x ∈ xs, ∀ (acc : List D) (A : List D → Prop) (B : Prop), acc.length + ys.length ≤ 100000 → A (acc ++ ys.map (f x)) → pg (e x) env fun env1 => pt env1 fun b => if b = true then pi1 env1 fun ds1 => noOwn env1 vs1 ∧ lcP pg1 pt1 pe (wipeE env1 vs1) ds1 acc A else B) →
      k (acc ++ xs.flatMap fun x => ys.map (f x)) → lcP2 vs1 pg pt pi1 pg1 pt1 pe env (xs.map e) acc k := by
    intro xs
    induction xs with
    | nil => intro acc _ _ hk; simp only [List.map_nil, lcP2]; simpa using hk
    | cons x xs ih =>
      intro acc hl hs hk
      rw [List.map_cons]
      unfold lcP2
      have hl' : acc.length + (xs.length * ys.length + ys.length) ≤ 100000 := by rw [List.length_cons, Nat.succ_mul] at hl; exact hl
      refine hs x List.mem_cons_self acc _ _ (by omega) (ih _ (by rw [List.length_append, List.length_map]; omega) (fun y h => hs y (List.mem_cons_of_mem _ h)) ?_)
      rw [List.flatMap_cons] at hk
      rw [List.append_assoc]
      exact hk
  exact go xs [] (by simpa using hl) hs (by simpa using hk)
theorem eLc_i {vs : List Nat} {pi : PIt} {pg : PGt} {pt : PTs'} {pe : PX} {env : List SV} {k : D → Prop} (h : pi env fun ds => noOwn env vs ∧ lcP pg pt pe (wipeE env vs) ds [] fun r => k (.lst r)) : eLc vs pi pg pt pe env k := h
theorem eLc2_i {vs vs1 : List Nat} {pi : PIt} {pg : PGt} {pt : PTs'} {pi1 : PIt} {pg1 : PGt} {pt1 : PTs'} {pe : PX} {env : List SV} {k : D → Prop} (h : pi env fun ds => noOwn env vs ∧ lcP2 vs1 pg pt pi1 pg1 pt1 pe (wipeE env vs) ds [] fun r => k (.lst r)) : eLc2 vs vs1 pi pg pt pi1 pg1 pt1 pe env k := h
theorem maxI_snoc {xs : List Int} {x : Int} (h : xs ≠ []) : maxI (xs ++ [x]) = max (maxI xs) x := by
  symm
  apply maxI_eq
  · rcases Int.le_total (maxI xs) x with q | q
    · rw [Int.max_eq_right q]; simp
    · rw [Int.max_eq_left q]; exact List.mem_append_left _ (maxI_mem h)
  · intro y hy
    rcases List.mem_append.mp hy with q | q
    · exact Int.le_trans (maxI_le q) (Int.le_max_left ..)
    · rw [List.mem_singleton.mp q]; exact Int.le_max_right ..
theorem minI_snoc {xs : List Int} {x : Int} (h : xs ≠ []) : minI (xs ++ [x]) = min (minI xs) x := by
  symm
  apply minI_eq
  · rcases Int.le_total (minI xs) x with q | q
    · rw [Int.min_eq_left q]; exact List.mem_append_left _ (minI_mem h)
    · rw [Int.min_eq_right q]; simp
  · intro y hy
    rcases List.mem_append.mp hy with q | q
    · exact Int.le_trans (Int.min_le_left ..) (minI_le q)
    · rw [List.mem_singleton.mp q]; exact Int.min_le_right ..
end Pu
namespace Pu
open PySem PySem.Spec PyProof.Rows L2
/-! ### defs whose last parameters have the default None -/
end Pu
namespace Pu
open PySem PySem.Spec PyProof.Rows L2
variable [Tbs]
/-! dicts by pairs of whole numbers -/
def putT (ds : List (List Int × Int)) (k : List Int) (v : Int) : List (List Int × Int) :=
  if (ds.any fun q => decide (q.1 = k)) = true then ds.map (fun q => if q.1 = k then (q.1, v) else q) else ds ++ [(k, v)]
/-! a look only, and a tuple of whole numbers comes of it: it is plain -/
end Pu
namespace Pu
open PySem PySem.Spec PyProof.Rows L2
variable [Tbs]
/-! loops over a list of the def's own: the slot q stays -/
structure SimQ (q : Nat) (w : Option (Option V)) (fr : Bool) (z : Zn) (X : AP) (H0 : Hp) (M : AP) (H : Hp) (G : Ends) (k : PK') : Prop where
  nx : ∀ env' σ' H', Ok z X H0 H' σ' env' → Fr z X M H (Ms z X σ' env') H' → σ'[q]? = w → k.nx env' → G.nx σ' H'
  rt : ∀ d v H', Evo z H0 H' → Is z (Zx z X) H' v d → (fr = true → ∃ a, v = .ref a ∧ H0 a = none ∧ Con z (Zx z (X.or a)) H' a d) → k.rt d → G.rt v H'
  bk : ∀ env' σ' H', Ok z X H0 H' σ' env' → Fr z X M H (Ms z X σ' env') H' → σ'[q]? = w → k.bk env' → G.bk σ' H'
  ct : ∀ env' σ' H', Ok z X H0 H' σ' env' → Fr z X M H (Ms z X σ' env') H' → σ'[q]? = w → k.ct env' → G.ct σ' H'
theorem SimQ.go {q : Nat} {w : Option (Option V)} {fr : Bool} {z : Zn} {X : AP} {H0 : Hp} {M M1 : AP} {H H1 : Hp} {G : Ends} {k : PK'} (s : SimQ q w fr z X H0 M H G k) (f : Fr z X M H M1 H1) : SimQ q w fr z X H0 M1 H1 G k :=
  ⟨fun e σ H' o g c h => s.nx e σ H' o (f.trans g) c h, s.rt, fun e σ H' o g c h => s.bk e σ H' o (f.trans g) c h, fun e σ H' o g c h => s.ct e σ H' o (f.trans g) c h⟩
theorem Sim.q {q : Nat} {w : Option (Option V)} {fr : Bool} {z : Zn} {X : AP} {H0 : Hp} {M : AP} {H : Hp} {G : Ends} {k : PK'} (s : Sim fr z X H0 M H G k) : SimQ q w fr z X H0 M H G k :=
  ⟨fun e σ H' o g _ h => s.nx e σ H' o g h, s.rt, fun e σ H' o g _ h => s.bk e σ H' o g h, fun e σ H' o g _ h => s.ct e σ H' o g h⟩
def RSq (q : Nat) (fr : Bool) (t : TS) (p : PSt) : Prop := ∀ (z : Zn) (X : AP) (H0 H : Hp) (σ : Sl) (env : List SV) (G : Ends) (k : PK'), Ok z X H0 H σ env → SimQ q σ[q]? fr z X H0 (Ms z X σ env) H G k → p env k → t G σ H
structure SQ (q : Nat) (fr : Bool) (C : Cx) (st : Stmt) (p : PSt) : Prop where
  ex : ∃ t, PS C st t ∧ RSq q fr t p
section
variable {C : Cx} {fr : Bool} {q : Nat} {st : Stmt} {rest : List Stmt} {p r : PSt} {e : Expr} {pe pi : PX} {m : Mode} {pos pp : Pos}
theorem SQ.s (h : SQ q fr C st p) : S fr C st p := by
  obtain ⟨t, h1, h2⟩ := h
  exact ⟨t, h1, fun z X H0 H σ env G k o s hp => h2 z X H0 H σ env G k o s.q hp⟩
end
/-! a comprehension over a list of the def's own -/
end Pu
set_option maxHeartbeats 1000000
/-! all(.. for .. in ..), any(..): the generator's frame, its turns, who asks it -/
namespace GnX
open PySem PySem.Spec PyProof.Rows L2 GenW GxR
/-! ### the turns -/
/-! ### who asks -/
/-! ### the expression -/
end GnX
set_option maxHeartbeats 1000000
namespace Pu
open PySem PySem.Spec PyProof.Rows L2
open GnX GxR
/-! ### all, any of a generator expression -/
/-! // by a great divisor -/
/-! ### a def that holds a generator expression -/
/-! ### readings -/
/-! ### the law's end, with tables -/
end Pu
/-! == and != with an empty list or tuple, whatever the other one holds -/
namespace Pu
open PySem PySem.Spec PyProof.Rows L2
variable [Tbs]
section
variable {X : Cx}
def rEmp (neg : Bool) (K : PySem.W.Frag) : R2 := fun x y H Q => ∃ (a b : Addr) (xs : List V), x = .ref a ∧ y = .ref b ∧ ((SqL K H a xs ∧ SqL K H b []) ∨ (SqT K H a xs ∧ SqT K H b [])) ∧ Q (.bl (neg ^^ xs.isEmpty)) H
omit [Tbs] in
theorem op_eqE (hu : X.A.units + 64 < cLine) : OpR X (compareOp .Eq) (rEmp false X.K) := by
  intro pins s σ H x y v u Q I rx ry h
  obtain ⟨a, b, xs, rfl, rfl, h, q⟩ := h
  cases rx
  cases ry
  rcases h with ⟨ha, hb⟩ | ⟨ha, hb⟩
  · obtain ⟨its, rv, ⟨o, n, ho, hc, _, hd⟩, _⟩ := I.list ha
    obtain ⟨its2, rv2, ⟨o2, n2, ho2, hc2, _, hd2⟩, _⟩ := I.list hb
    cases rv2
    have hl : s.heap.IsList a its.toArray := ⟨o, ho, hc, n, hd⟩
    have hl2 : s.heap.IsList b #[] := ⟨o2, ho2, hc2, n2, hd2⟩
    cases rv with
    | nil => exact (SeqAt.RcAt.lists (e := fun _ => true) hl hl2 rfl (by omega) (fun j h1 => absurd h1 (Nat.not_lt_zero j))) X.prog X.w _ _ ⟨.bl _, H, I, rfl, q⟩
    | cons r1 r2 => exact (SeqAt.RcAt.lists_lengths hl hl2 (by simp) (by omega)) X.prog X.w _ _ ⟨.bl _, H, I, rfl, q⟩
  · obtain ⟨its, rv, ⟨o, ho, hc, n, hd⟩, _⟩ := I.tuple ha
    obtain ⟨its2, rv2, ⟨o2, ho2, hc2, n2, hd2⟩, _⟩ := I.tuple hb
    cases rv2
    have hl : s.heap.IsTuple a its.toArray := ⟨o, ho, hc, n, hd⟩
    have hl2 : s.heap.IsTuple b #[] := ⟨o2, ho2, hc2, n2, hd2⟩
    refine (SeqAt.RcAt.tuples (e := fun _ => true) hl hl2 (by omega) (fun j h1 h2 => absurd h2 (Nat.not_lt_zero j))) X.prog X.w _ _ ⟨.bl _, H, I, ?_, q⟩
    cases rv <;> rfl
omit [Tbs] in
theorem op_neE (hu : X.A.units + 64 < cLine) : OpR X (compareOp .NotEq) (rEmp true X.K) := by
  intro pins s σ H x y v u Q I rx ry h
  obtain ⟨a, b, xs, rfl, rfl, h, q⟩ := h
  cases rx
  cases ry
  rcases h with ⟨ha, hb⟩ | ⟨ha, hb⟩
  · obtain ⟨its, rv, ⟨o, n, ho, hc, _, hd⟩, _⟩ := I.list ha
    obtain ⟨its2, rv2, ⟨o2, n2, ho2, hc2, _, hd2⟩, _⟩ := I.list hb
    cases rv2
    have hl : s.heap.IsList a its.toArray := ⟨o, ho, hc, n, hd⟩
    have hl2 : s.heap.IsList b #[] := ⟨o2, ho2, hc2, n2, hd2⟩
    cases rv with
    | nil => exact (SeqAt.RcNeAt.lists (e := fun _ => true) hl hl2 rfl (by omega) (fun j h1 => absurd h1 (Nat.not_lt_zero j))) X.prog X.w _ _ ⟨.bl _, H, I, rfl, q⟩
    | cons r1 r2 => exact (SeqAt.RcNeAt.lists_lengths hl hl2 (by simp) (by omega)) X.prog X.w _ _ ⟨.bl _, H, I, rfl, q⟩
  · obtain ⟨its, rv, ⟨o, ho, hc, n, hd⟩, _⟩ := I.tuple ha
    obtain ⟨its2, rv2, ⟨o2, ho2, hc2, n2, hd2⟩, _⟩ := I.tuple hb
    cases rv2
    have hl : s.heap.IsTuple a its.toArray := ⟨o, ho, hc, n, hd⟩
    have hl2 : s.heap.IsTuple b #[] := ⟨o2, ho2, hc2, n2, hd2⟩
    refine (SeqAt.RcNeAt.tuples (e := fun _ => true) hl hl2 (by omega) (fun j h1 h2 => absurd h2 (Nat.not_lt_zero j))) X.prog X.w _ _ ⟨.bl _, H, I, ?_, q⟩
    cases rv <;> rfl
end
def dEmp (neg : Bool) : D → D → (D → Prop) → Prop := fun x y k => match x, y with
  | .lst xs, .lst [] => k (.bl (neg ^^ xs.isEmpty))
  | .tup xs, .tup [] => k (.bl (neg ^^ xs.isEmpty))
  | _, _ => False
theorem IsA.empty {z : Zn} {M : AP} {H : Hp} {vs : List V} {ds : List D} (h : IsA z M H vs ds) : vs.isEmpty = ds.isEmpty := by
  cases h <;> rfl
theorem opd_emp {neg : Bool} {K : PySem.W.Frag} : OpD .b .e (rEmp neg K) (dEmp neg) := fun z X H0 H σ env v u x y Q k o r1 r2 c hp => by
  unfold dEmp at hp
  split at hp
  · cases (show Is z (Zx z X) H v _ from r1) with
    | lst e n h =>
      cases (show Is z (Zx z X) H u _ from r2) with
      | lst e2 n2 h2 =>
        cases h2
        exact ⟨_, _, _, rfl, rfl, .inl ⟨SqL.of e, SqL.of e2⟩, c _ _ H (Evo.refl _ _) (Is.bl _) (by rw [h.empty]; exact hp)⟩
  · cases (show Is z (Zx z X) H v _ from r1) with
    | tup e n h =>
      cases (show Is z (Zx z X) H u _ from r2) with
      | tup e2 n2 h2 =>
        cases h2
        exact ⟨_, _, _, rfl, rfl, .inr ⟨SqT.of e, SqT.of e2⟩, c _ _ H (Evo.refl _ _) (Is.bl _) (by rw [h.empty]; exact hp)⟩
  · exact hp.elim
theorem dEmp_l {neg : Bool} {xs : List D} {k : D → Prop} (h : k (.bl (neg ^^ xs.isEmpty))) : dEmp neg (.lst xs) (.lst []) k := h
theorem dEmp_t {neg : Bool} {xs : List D} {k : D → Prop} (h : k (.bl (neg ^^ xs.isEmpty))) : dEmp neg (.tup xs) (.tup []) k := h
end Pu
/-! sets of whole numbers of a def's own: set(), in, add -/
namespace Pu
open PySem PySem.Spec PyProof.Rows L2
end Pu
/-! x.extend(a tuple), range(i, j, -1) -/
namespace Pu
open PySem PySem.Spec PyProof.Rows L2
/-! range(i, j, -1) -/
end Pu
namespace Pu
open PySem PySem.Spec PyProof.Rows L2
variable [Tbs]
/-! ### a list that a def borrows and changes in place -/
def mask (H : Hp) (a : Addr) : Hp := fun b => if b = a then none else H b
def zb (z : Zn) (o : Option Addr) : Zn := { z with bo := o }
section
variable {z : Zn} {X : AP} {M : AP} {H0 H H' : Hp} {σ : Sl} {env : List SV} {a : Addr} {w : Option Addr}
theorem mask_ne {b : Addr} (h : b ≠ a) : mask H a b = H b := by unfold mask; rw [if_neg h]
theorem ok_mask (ha : ¬ z.Z a) {b : Addr} (h : z.ok H b) : z.ok (mask H a) b :=
  z.keep _ _ _ h fun c o zc q => by rw [mask_ne (fun (e : c = a) => ha (by rw [← e]; exact zc))]; exact q
theorem tab_mask (ha : ¬ z.Z a) (hf : NoF H a) (h : Tabs H) : Tabs (mask H a) := h.keep (fun P ps e m => by rw [mask_ne (fun (q : P = a) => ha (.inr (by rw [← q]; exact m)))]; exact e) fun c o u e => by rw [mask_ne (hf.ne e)]; exact e
/-- what a slot owns was lent and comes back -/
theorem Ok.lend (k : Ok z X H0 H σ env) {i : Nat} {d d' : D} (hi : env[i]? = some (.own d)) (hs : σ[i]? = some (some (V.ref a))) (ev : Evo z (mask H a) H') (hc : Con z (Ms z X σ env) H' a d') :
    Ok z X H0 H' σ (env.set i (.own d')) ∧ Fr z X (Ms z X σ env) H (Ms z X σ (env.set i (.own d'))) H' := by
  have hl : i < env.length := (List.getElem?_eq_some_iff.mp hi).1
  obtain ⟨a', hs', hc0, hz, hx, h0⟩ := k.own i d hi
  have ea : a' = a := by rw [hs] at hs'; cases hs'; rfl
  subst ea
  have ms : ∀ b, Ms z X σ (env.set i (.own d')) b → Ms z X σ env b := by
    rintro b (h | h | ⟨j, f, h1, h2⟩)
    · exact .inl h
    · exact .inr (.inl h)
    · by_cases hj : i = j
      · subst hj
        exact .inr (.inr ⟨i, d, hi, h2⟩)
      · rw [List.getElem?_set_ne hj] at h1
        exact .inr (.inr ⟨j, f, h1, h2⟩)
  have ain : Ms z X σ env a' := .inr (.inr ⟨i, d, hi, hs⟩)
  have same : ∀ b u, H b = some u → b ≠ a' → ¬ z.Z b → H' b = some u := fun b u q n m => ev.old b u (by rw [mask_ne n]; exact q) m
  have old : ∀ b u, H b = some u → ¬ Ms z X σ env b → H' b = some u ∧ ¬ Ms z X σ (env.set i (.own d')) b := fun b u q n =>
    ⟨same b u q (fun e => n (by rw [e]; exact ain)) fun y => n (.inl y), fun x => n (ms b x)⟩
  have dk : ∀ b, z.ok H b → z.ok H' b := fun b h => ev.dk b (ok_mask hz h)
  have al : ∀ b, H b ≠ none → H' b ≠ none := fun b h => by
    by_cases e : b = a'
    · obtain ⟨o, ho⟩ := hc.some
      rw [e, ho]; intro q; cases q
    · exact ev.al b (by rw [mask_ne e]; exact h)
  have ne0 : ∀ b u, H0 b = some u → b ≠ a' := fun b u q e => by rw [e, h0] at q; cases q
  refine ⟨⟨by simp [k.len], ⟨fun b u q n => same b u (k.evo.old b u q n) (ne0 b u q) n, fun b h => al b (k.evo.al b h), fun b h => dk b (k.evo.dk b h), fun h => ev.tab (tab_mask hz hc0.nof (k.evo.tab h))⟩, fun b h => al b (k.zal b h), fun b h => ⟨al b (k.xal b h).1, (k.xal b h).2⟩, fun j f h => ?_, fun j f h => ?_, fun j l b f g h1 h2 h3 h4 => ?_, ev.tab (tab_mask hz hc0.nof k.tab), fun j g hL h => (k.gs j g (by simpa using hL) (by first | exact (set_gsV h).2 | exact (set_gsO h).2)).gen old dk⟩, ⟨old, dk, al⟩⟩
  · by_cases hj : i = j
    · subst hj
      rw [List.getElem?_set_self hl] at h
      cases h
    · rw [List.getElem?_set_ne hj] at h
      obtain ⟨u, h1, h2⟩ := k.val j f h
      exact ⟨u, h1, h2.gen old dk⟩
  · by_cases hj : i = j
    · subst hj
      rw [List.getElem?_set_self hl] at h
      cases h
      exact ⟨a', hs, hc.gen (fun _ q => q) (fun b o q n => ⟨q, fun x => n (ms b x)⟩) fun _ h => h, hz, hx, h0⟩
    · rw [List.getElem?_set_ne hj] at h
      obtain ⟨b, h1, h2, h3, h4⟩ := k.own j f h
      have nb : b ≠ a' := fun e => hj (k.inj i j a' d f hi h hs (e ▸ h1))
      exact ⟨b, h1, h2.gen (fun o q => same b o q nb h3) old dk, h3, h4⟩
  · have un : ∀ (j : Nat) (f : D), (env.set i (.own d'))[j]? = some (.own f) → ∃ f', env[j]? = some (.own f') := fun j f h => by
      by_cases hj : i = j
      · subst hj; exact ⟨d, hi⟩
      · rw [List.getElem?_set_ne hj] at h; exact ⟨f, h⟩
    obtain ⟨f', q1⟩ := un j f h1
    obtain ⟨g', q2⟩ := un l g h2
    exact k.inj j l b f' g' q1 q2 h3 h4
end
/-- the promise of a def that borrows its last argument, a list -/
def SfB (n : Nat) (wp : List D → List D → (D → List D → Prop) → Prop) : Sp := fun vs H Q _ => ∃ (z : Zn) (X : AP) (a : Addr) (us : List V) (ds cs : List D) (k : D → List D → Prop), vs = us ++ [.ref a] ∧ us.length = n ∧ ((∀ b, z.Z b → H b ≠ none) ∧ Tabs H) ∧ (∀ b, X b → H b ≠ none ∧ ¬ z.Z b) ∧ ¬ z.Z a ∧ ¬ X a ∧
  IsA z (Zx z (X.or a)) H us ds ∧ Con z (Zx z (X.or a)) H a (.lst cs) ∧ wp ds cs k ∧
  ∀ d v H' cs', Evo z (mask H a) H' → Is z (Zx z (X.or a)) H' v d → Con z (Zx z (X.or a)) H' a (.lst cs') → k d cs' → Q v H'
/-! ### calls that lend a list -/
def RAB (r : Nat) (t : TA) (p : PAs) : Prop := ∀ (z : Zn) (X : AP) (H0 H : Hp) (σ : Sl) (env : List SV) (Q : List V → Hp → Prop) (k : List D → Prop) (a : Addr), Ok z X H0 H σ env → σ[r]? = some (some (.ref a)) →
  (∀ ds vs H', Evo z H H' → IsA z (Ms z X σ env) H' vs ds → k ds → Q (vs ++ [.ref a]) H') → p env k → t σ H Q
section
variable {C : Cx} {fr : Bool} {e : Expr} {es : List Expr} {pe p : PX} {ga : PAs} {pos pp : Pos} {r : Nat} {x : Str}
/-- the list of slot r is lent to a def: its answer, and what became of the list -/
def lendP (r : Nat) (wp : List D → List D → (D → List D → Prop) → Prop) (g : PAs) : List SV → (D → List SV → Prop) → Prop := fun env k => match env[r]? with
  | some (.own (.lst cs)) => g env fun ds => wp ds cs fun d cs' => k d (env.set r (.own (.lst cs')))
  | some (.own (.bor cs)) => g env fun ds => wp ds cs fun d cs' => k d (env.set r (.own (.bor cs')))
  | _ => False
theorem lend_i {t : TA} {n : Nat} {wp : List D → List D → (D → List D → Prop) → Prop} (h : RAB r t ga) (hn : ∀ ds cs k, wp ds cs k → ds.length = n) {z : Zn} {X : AP} {H0 H : Hp} {σ : Sl} {env : List SV} {Q : VK} {k : D → List SV → Prop}
    (o : Ok z X H0 H σ env) (c : ∀ d v H' env', Ok z X H0 H' σ env' → Fr z X (Ms z X σ env) H (Ms z X σ env') H' → Is z (Ms z X σ env') H' v d → k d env' → Q v H') (hp : lendP r wp ga env k) : tCall (SfB n wp) [] E0 t σ H Q := by
  have main : ∀ (c0 : D) (cs : List D) (mk : List D → D), env[r]? = some (.own c0) → (∀ (M : AP) (H : Hp) (a : Addr), Con z M H a c0 → Con z M H a (.lst cs) ∧ ∀ M' H' cs', Con z M' H' a (.lst cs') → Con z M' H' a (mk cs')) →
      (ga env fun ds => wp ds cs fun d cs' => k d (env.set r (.own (mk cs')))) → tCall (SfB n wp) [] E0 t σ H Q := fun c0 cs mk he hk hg => by
    obtain ⟨a, q1, q2, q3, q4, q5⟩ := o.own r _ he
    refine h z X H0 H σ env _ _ a o q1 (fun ds vs H1 e1 r1 hx => ?_) hg
    have o1 := o.go e1
    obtain ⟨a', q1', q2', _⟩ := o1.own r _ he
    have ea : a' = a := by rw [q1] at q1'; cases q1'; rfl
    subst ea
    obtain ⟨m1, m2⟩ := hk _ _ _ q2'
    let Y : AP := fun b => X b ∨ ∃ (i : Nat) (d : D), i ≠ r ∧ env[i]? = some (.own d) ∧ σ[i]? = some (some (V.ref b))
    have zy : ∀ b, Zx z (Y.or a') b ↔ Ms z X σ env b := fun b => by
      constructor
      · rintro (y | (y | ⟨i, d, _, y1, y2⟩) | y)
        · exact .inl y
        · exact .inr (.inl y)
        · exact .inr (.inr ⟨i, d, y1, y2⟩)
        · exact .inr (.inr ⟨r, _, he, by rw [y]; exact q1⟩)
      · rintro (y | y | ⟨i, d, y1, y2⟩)
        · exact .inl y
        · exact .inr (.inl (.inl y))
        · by_cases hi : i = r
          · rw [hi, q1] at y2; cases y2; exact .inr (.inr rfl)
          · exact .inr (.inl (.inr ⟨i, d, hi, y1, y2⟩))
    rw [List.append_nil]
    refine ⟨z, Y, a', vs, ds, cs, _, rfl, by rw [r1.length]; exact hn _ _ _ hx, ⟨o1.zal, o1.tab⟩, fun b y => o1.ox (y.elim .inl fun ⟨i, d, _, y1, y2⟩ => .inr ⟨i, d, y1, y2⟩), q3, fun y => y.elim q4 fun ⟨i, d, hi, y1, y2⟩ => hi (o.inj i r a' d _ y1 he y2 q1),
      r1.weak fun b y => (zy b).mp y, ?_, hx, fun d v H2 cs' e2 r2 hc kd => ?_⟩
    · exact m1.gen (fun _ q => q) (fun b u q n => ⟨q, fun y => n ((zy b).mp y)⟩) fun _ h => h
    · have hc' : Con z (Ms z X σ env) H2 a' (.lst cs') := hc.gen (fun _ q => q) (fun b u q n => ⟨q, fun y => n ((zy b).mpr y)⟩) fun _ h => h
      obtain ⟨o2, f2⟩ := o1.lend he q1 e2 (m2 _ _ _ hc')
      refine c d v H2 _ o2 ((o.fr e1).trans f2) (r2.weak fun b y => ?_) kd
      rcases y with y | y | ⟨j, f, y1, y2⟩
      · exact .inl y
      · exact .inr (.inl (.inl y))
      · by_cases hj : r = j
        · rw [← hj, q1] at y2; cases y2; exact .inr (.inr rfl)
        · rw [List.getElem?_set_ne hj] at y1
          exact (zy b).mpr (.inr (.inr ⟨j, f, y1, y2⟩))
  unfold lendP at hp
  split at hp
  · rename_i cs he
    exact main _ cs D.lst he (fun M H a hc => ⟨hc, fun _ _ _ h => h⟩) hp
  · rename_i cs he
    exact main _ cs D.bor he (fun M H a hc => ⟨hc.2, fun _ _ _ h => ⟨hc.1, h⟩⟩) hp
  · exact hp.elim
variable {k n i : Nat} {f : Addr} {fd : FuncData} {ps : List Str} {wp : List D → List D → (D → List D → Prop) → Prop} {y : Str}
/-! ### recursion, by fuel -/
variable {P : Program} {w : World} {K : PySem.W.Frag} {mg : Str → Option Value} {base : Heap}
theorem fn_bot {sp : Sp} (h : ∀ vs H Q E, ¬ sp vs H Q E) : FnOk P w K mg base CX0 k f fd ps sp := ⟨fun vs H Q E q => (h vs H Q E q).elim, fun A outer s H args us vs Q E _ _ _ _ q => (h vs H Q E q).elim⟩
theorem fn_rec (sp : Nat → Sp) (k : Nat) (h0 : ∀ vs H Q E, ¬ sp 0 vs H Q E) (hs : ∀ m, FnOk P w K mg base CX0 (k + m) f fd ps (sp m) → FnOk P w K mg base CX0 (k + m + 1) f fd ps (sp (m + 1))) (m : Nat) : FnOk P w K mg base CX0 (k + m) f fd ps (sp m) := by
  induction m with
  | zero => exact fn_bot h0
  | succ m ih => exact hs m ih
end
end Pu
namespace Pu
open PySem PySem.Spec PyProof.Rows L2
/-! ### sorted(xs), xs a list of tuples of whole numbers -/
end Pu
namespace Pu
open PySem PySem.Spec PyProof.Rows L2
/-! ### statements that raise: p env says that they do -/
/-! ### a def that raises -/
/-! ### isinstance of what an except clause holds, a tuple of classes -/
end Pu
namespace Pu
open PySem PySem.Spec PyProof.Rows L2
variable [Tbs]
section
variable {C : Cx} {z : Zn} {X : AP} {H0 H H' : Hp} {σ : Sl} {env : List SV}
/-! ### isinstance(e, ..), e what the clause holds, at a -/
def TB (p : Sl → Prop) (t : TE) (b : Bool) : Prop := ∀ (z : Zn) (σ : Sl) (H : Hp) (Q : VK), p σ → (∀ H', Evo z H H' → Q (.bl b) H') → t σ H Q
theorem TB.imp {p q : Sl → Prop} {t : TE} {b : Bool} (h : TB p t b) (i : ∀ σ, q σ → p σ) : TB q t b := fun z σ H Q hp c => h z σ H Q (i σ hp) c
theorem TB.snd {p q : Sl → Prop} {t : TE} {b : Bool} (h : TB q t b) : TB (fun σ => p σ ∧ q σ) t b := fun z σ H Q hp c => h z σ H Q hp.2 c
end
end Pu
namespace Pu
open PySem PySem.Spec PyProof.Rows L2
end Pu
namespace Pu
open PySem PySem.Spec PyProof.Rows L2
variable [Tbs]
/-! ### draws that are counted: a reading's cost n says how many draws it makes at most; the zone says how many there were -/
def lim : Nat := 4611686018427387904
def Zn.at (z : Zn) (c : Nat) : Zn := { z with ct := c }
structure EvoC (z : Zn) (c : Nat) (H H' : Hp) : Prop where
  old : ∀ a o, H a = some o → ¬ z.Z a → H' a = some o
  al : ∀ a, H a ≠ none → H' a ≠ none
  tab : Tabs H → Tabs H'
  live : (z.at c).live H'
section
variable {z : Zn} {c c' : Nat} {X : AP} {H0 H H1 H2 H' : Hp} {σ σ' : Sl} {env env' : List SV} {M M' : AP} {m : Mode} {v : V} {d : D}
theorem Evo.toC (e : Evo z H H') (l : z.live H) : EvoC z z.ct H H' := ⟨e.old, e.al, e.tab, e.dk _ l⟩
theorem EvoC.trans (a : EvoC z c H H1) (b : EvoC (z.at c) c' H1 H2) : EvoC z c' H H2 := ⟨fun x o h n => b.old x o (a.old x o h n) n, fun x h => b.al x (a.al x h), fun h => b.tab (a.tab h), b.live⟩
theorem EvoC.evo (a : EvoC z c H H') : Evo (z.at c) H H' := ⟨a.old, a.al, fun b h => by obtain rfl : b = (z.at c).dk := h.1; exact a.live, a.tab⟩
theorem EvoC.ok (a : EvoC z c H H') : ∀ b, z.ok H b → (z.at c).ok H' b := fun b h => by obtain rfl : b = (z.at c).dk := h.1; exact a.live
theorem EvoC.fresh (a : EvoC z c H H1) {p : Addr} (h : H1 p = none) : H p = none := a.evo.fresh h
mutual
theorem Is.at (h1 : ∀ a o, H a = some o → ¬ M a → H' a = some o ∧ ¬ M' a) (h2 : ∀ a, z.ok H a → (z.at c).ok H' a) : ∀ {v : V} {d : D}, Is z M H v d → Is (z.at c) M' H' v d
  | _, _, .non => .non
  | _, _, .bl b => .bl b
  | _, _, .int i => .int i
  | _, _, .str s => .str s
  | _, _, .ty n => .ty n
  | _, _, .tup e n r => .tup (h1 _ _ e n).1 (h1 _ _ e n).2 (IsA.at h1 h2 r)
  | _, _, .lst e n r => .lst (h1 _ _ e n).1 (h1 _ _ e n).2 (IsA.at h1 h2 r)
  | _, _, .dic e n r => .dic (h1 _ _ e n).1 (h1 _ _ e n).2 (IsK.at h1 h2 r)
  | _, _, .deck e => .deck (z := z.at c) (h2 _ e)
  | _, _, .dpr e n => .dpr (h1 _ _ e n).1 (h1 _ _ e n).2
  | _, _, .dfz e n => .dfz (h1 _ _ e n).1 (h1 _ _ e n).2
  | _, _, .st e l n => .st (h1 _ _ e n).1 l (h1 _ _ e n).2
  | _, _, .bor e n r => .bor (h1 _ _ e n).1 (h1 _ _ e n).2 (IsA.at h1 h2 r)
  | _, _, .opq v => .opq v
  | _, _, .xf v e n => .xf v (h1 _ _ e n).1 (h1 _ _ e n).2
  | _, _, .dpd e n q r => .dpd (h1 _ _ e n).1 (h1 _ _ e n).2 q (IsA.at h1 h2 r)
  | _, _, .hd e => .hd (z := z.at c) e
theorem IsA.at (h1 : ∀ a o, H a = some o → ¬ M a → H' a = some o ∧ ¬ M' a) (h2 : ∀ a, z.ok H a → (z.at c).ok H' a) : ∀ {v : List V} {d : List D}, IsA z M H v d → IsA (z.at c) M' H' v d
  | _, _, .nil => .nil
  | _, _, .cons h t => .cons (Is.at h1 h2 h) (IsA.at h1 h2 t)
theorem IsK.at (h1 : ∀ a o, H a = some o → ¬ M a → H' a = some o ∧ ¬ M' a) (h2 : ∀ a, z.ok H a → (z.at c).ok H' a) : ∀ {v : List (Key × V)} {d : List (Key × D)}, IsK z M H v d → IsK (z.at c) M' H' v d
  | _, _, .nil => .nil
  | _, _, .cons h t => .cons (Is.at h1 h2 h) (IsK.at h1 h2 t)
end
theorem CellOk.at {o : HO} {cl : Cell} (h1 : ∀ a o, H a = Option.some o → ¬ M a → H' a = Option.some o ∧ ¬ M' a) (h2 : ∀ a, z.ok H a → (z.at c).ok H' a) (h : CellOk z M H o cl) : CellOk (z.at c) M' H' o cl := by
  cases cl with
  | dic ds => obtain ⟨vs, e, r⟩ := h; exact ⟨vs, e, r.at h1 h2⟩
  | lck ds => obtain ⟨od, vs, e, r⟩ := h; exact ⟨od, vs, e, r.at h1 h2⟩
  | lst ds => obtain ⟨vs, e, r⟩ := h; exact ⟨vs, e, r.at h1 h2⟩
  | ins c ds => obtain ⟨C, dx, fs, e, q, r1, r2⟩ := h; exact ⟨C, dx, fs, e, q, r1, r2.at h1 h2⟩
theorem StOk.at {g : List Cell} (h1 : ∀ a o, H a = Option.some o → ¬ M a → H' a = Option.some o ∧ ¬ M' a) (h2 : ∀ a, z.ok H a → (z.at c).ok H' a) (h : StOk z M H g) : StOk (z.at c) M' H' g :=
  ⟨h2 _ h.live, h.len, fun i p c e1 e2 => (h.at' i p c e1 e2).at h1 h2⟩
theorem Con.at {a : Addr} (ha : ∀ o, H a = Option.some o → H' a = Option.some o) (h1 : ∀ a o, H a = Option.some o → ¬ M a → H' a = Option.some o ∧ ¬ M' a) (h2 : ∀ a, z.ok H a → (z.at c).ok H' a) (h : Con z M H a d) : Con (z.at c) M' H' a d := by
  cases d with
  | tup ds => obtain ⟨vs, e, r⟩ := h; exact ⟨vs, ha _ e, r.at h1 h2⟩
  | lst ds => obtain ⟨vs, e, r⟩ := h; exact ⟨vs, ha _ e, r.at h1 h2⟩
  | dic ds => obtain ⟨vs, e, r⟩ := h; exact ⟨vs, ha _ e, r.at h1 h2⟩
  | dpr ds => exact ha _ h
  | dpd ds => obtain ⟨vs, e, q, r⟩ := h; exact ⟨vs, ha _ e, q, r.at h1 h2⟩
  | st ns => obtain ⟨n, e, l⟩ := h; exact ⟨n, ha _ e, l⟩
  | bor ds => obtain ⟨w, vs, e, r⟩ := h; exact ⟨w, vs, ha _ e, r.at h1 h2⟩
  | _ => exact h.elim
end
/-! ### expressions -/
def REc (n : Nat) (m : Mode) (t : TE) (p : PX) : Prop := ∀ (z : Zn) (X : AP) (H0 H : Hp) (σ : Sl) (env : List SV) (Q : VK) (k : D → Prop), Ok z X H0 H σ env → z.live H → z.ct + n ≤ lim →
  (∀ c d v H', c ≤ z.ct + n → EvoC z c H H' → Rel m (z.at c) X H H' σ env v d → k d → Q v H') → p env k → t σ H Q
def RTc (n : Nat) (t : TT) (p : PTs') : Prop := ∀ (z : Zn) (X : AP) (H0 H : Hp) (σ : Sl) (env : List SV) (Q : Bool → Hp → Prop) (k : Bool → Prop), Ok z X H0 H σ env → z.live H → z.ct + n ≤ lim →
  (∀ c b H', c ≤ z.ct + n → EvoC z c H H' → k b → Q b H') → p env k → t σ H Q
def RAc (n : Nat) (l : Bool) (t : TA) (p : PAs) : Prop := ∀ (z : Zn) (X : AP) (H0 H : Hp) (σ : Sl) (env : List SV) (Q : List V → Hp → Prop) (k : List D → Prop), Ok z X H0 H σ env → z.live H → z.ct + n ≤ lim →
  (∀ c ds vs H', c ≤ z.ct + n → EvoC z c H H' → IsA (z.at c) (if l = true then Ms z X σ env else Zx z X) H' vs ds → k ds → Q vs H') → p env k → t σ H Q
structure Ec (n : Nat) (m : Mode) (C : Cx) (e : Expr) (p : PX) : Prop where
  ex : ∃ t, PE C e t ∧ REc n m t p
structure Tc (n : Nat) (C : Cx) (e : Expr) (p : PTs') : Prop where
  ex : ∃ t, PT C e t ∧ RTc n t p
section
variable {C : Cx} {e a b : Expr} {es : List Expr} {p q : PX} {g : PAs} {m m' : Mode} {pos pp : Pos} {n na nb : Nat} {x : Str}
theorem RE.toC {t : TE} (h : RE m t p) : REc 0 m t p := fun z X H0 H σ env Q k o l _ c hp => h z X H0 H σ env Q k o (fun d v H' ev r kd => c z.ct d v H' (Nat.le_refl _) (ev.toC l) r kd) hp
theorem RT.toC {t : TT} {p : PTs'} (h : RT t p) : RTc 0 t p := fun z X H0 H σ env Q k o l _ c hp => h z X H0 H σ env Q k o (fun b H' ev kd => c z.ct b H' (Nat.le_refl _) (ev.toC l) kd) hp
theorem RA.toC {l : Bool} {t : TA} {p : PAs} (h : RA l t p) : RAc 0 l t p := fun z X H0 H σ env Q k o lv _ c hp => h z X H0 H σ env Q k o (fun ds vs H' ev r kd => c z.ct ds vs H' (Nat.le_refl _) (ev.toC lv) r kd) hp
theorem E.cd (h : E m C e p) : Ec 0 m C e p := let ⟨t, h1, h2⟩ := h; ⟨t, h1, h2.toC⟩
theorem T.cd {p : PTs'} (h : T C e p) : Tc 0 C e p := let ⟨t, h1, h2⟩ := h; ⟨t, h1, h2.toC⟩
theorem Rel.toBC {z : Zn} {c : Nat} {X : AP} {H0 H H' : Hp} {σ : Sl} {env : List SV} {v : V} {d : D} (k : Ok z X H0 H σ env) (h : Rel m (z.at c) X H H' σ env v d) : Rel .b (z.at c) X H H' σ env v d := by
  cases m with
  | f =>
    obtain ⟨a, rfl, hn, hc⟩ := h
    exact Rel.eb ((hc.gen (fun _ q => q) (fun b o q n => ⟨q, fun x => n x.orL⟩) fun _ h => h).is (k.notMs hn))
  | e => exact h.eb
  | c => exact h.cb
  | b => exact h
theorem Ec.toB (h : Ec n m C e p) : Ec n .b C e p := by
  obtain ⟨t, h1, h2⟩ := h
  exact ⟨t, h1, fun z X H0 H σ env Q k o l w c hp => h2 z X H0 H σ env Q k o l w (fun c' d v H' hc ev r kd => c c' d v H' hc ev (r.toBC o) kd) hp⟩
theorem Rel.feC {z : Zn} {c : Nat} {X : AP} {H0 H H' : Hp} {σ : Sl} {env : List SV} {v : V} {d : D} (k : Ok z X H0 H σ env) (h : Rel .f (z.at c) X H H' σ env v d) : Rel .e (z.at c) X H H' σ env v d := by
  obtain ⟨a, rfl, hn, hc⟩ := h
  exact (hc.gen (fun _ q => q) (fun b o q n => ⟨q, fun x => n x.orL⟩) fun _ h => h).is (k.notMs hn)
theorem Ec.fe (h : Ec n .f C e p) : Ec n .e C e p := by
  obtain ⟨t, h1, h2⟩ := h
  exact ⟨t, h1, fun z X H0 H σ env Q k o l w c hp => h2 z X H0 H σ env Q k o l w (fun c' d v H' hc ev r kd => c c' d v H' hc ev (r.feC o) kd) hp⟩
theorem Ec.ec (h : Ec n .e C e p) : Ec n .c C e p := by
  obtain ⟨t, h1, h2⟩ := h
  exact ⟨t, h1, fun z X H0 H σ env Q k o l w c hp => h2 z X H0 H σ env Q k o l w (fun c' d v H' hc ev r kd => c c' d v H' hc ev r.ec kd) hp⟩
end
end Pu
namespace Pu
open PySem PySem.Spec PyProof.Rows L2
variable [Tbs]
section
variable {C : Cx} {e a b : Expr} {es : List Expr} {p q pe : PX} {g : PAs} {m mo : Mode} {pos pp : Pos} {n na nb cost k : Nat} {x : Str} {l : Bool}
/-! ### arguments, displays -/
/-! ### calls -/
/-! ### tests -/
theorem RTc.of {t : TE} (h : REc n .b t p) : RTc n (tTest t) (tOf p) := fun z X H0 H σ env Q k o lv w c hp => by
  refine h z X H0 H σ env _ _ o lv w (fun c1 d v H' hc e r hd => ?_) hp
  cases d with
  | bl b =>
    cases (show Is (z.at c1) _ H' v (.bl b) from r)
    exact ⟨b, rfl, c c1 b H' hc e hd⟩
  | _ => exact (show False from hd).elim
variable {rest : List Expr} {tp tq : PTs'}
end
/-! ### statements -/
structure FrC (z : Zn) (c : Nat) (X : AP) (M : AP) (H : Hp) (M' : AP) (H' : Hp) : Prop where
  old : ∀ a o, H a = some o → ¬ M a → H' a = some o ∧ ¬ M' a
  al : ∀ a, H a ≠ none → H' a ≠ none
  live : (z.at c).live H'
section
variable {z : Zn} {c c' : Nat} {X : AP} {H0 H H' H1 H2 : Hp} {σ σ' : Sl} {env env' : List SV} {M M1 M2 M' : AP} {v : V} {d : D}
theorem FrC.ok (f : FrC z c X M H M' H') : ∀ a, z.ok H a → (z.at c).ok H' a := fun b h => by obtain rfl : b = (z.at c).dk := h.1; exact f.live
theorem FrC.is (f : FrC z c X M H M' H') (h : Is z M H v d) : Is (z.at c) M' H' v d := h.at f.old f.ok
theorem FrC.isA {vs : List V} {ds : List D} (f : FrC z c X M H M' H') (h : IsA z M H vs ds) : IsA (z.at c) M' H' vs ds := h.at f.old f.ok
theorem FrC.trans (a : FrC z c X M H M1 H1) (b : FrC (z.at c) c' X M1 H1 M2 H2) : FrC z c' X M H M2 H2 := ⟨fun x o h n => b.old x o (a.old x o h n).1 (a.old x o h n).2, fun x h => b.al x (a.al x h), b.live⟩
theorem Fr.toC (f : Fr z X M H M' H') (l : z.live H) : FrC z z.ct X M H M' H' := ⟨f.old, f.al, f.dk _ l⟩
end
structure SimC (A B : Nat) (fr : Bool) (z : Zn) (X : AP) (H0 : Hp) (M : AP) (H : Hp) (G : Ends) (k : PK') : Prop where
  nx : ∀ c env' σ' H', c ≤ A → Ok (z.at c) X H0 H' σ' env' → FrC z c X M H (Ms z X σ' env') H' → k.nx env' → G.nx σ' H'
  rt : ∀ c d v H', c ≤ B → Evo (z.at c) H0 H' → (z.at c).live H' → Is (z.at c) (Zx z X) H' v d → (fr = true → ∃ a, v = .ref a ∧ H0 a = none ∧ Con (z.at c) (Zx z (X.or a)) H' a d) → k.rt d → G.rt v H'
  bk : ∀ c env' σ' H', c ≤ B → Ok (z.at c) X H0 H' σ' env' → FrC z c X M H (Ms z X σ' env') H' → k.bk env' → G.bk σ' H'
  ct : ∀ c env' σ' H', c ≤ B → Ok (z.at c) X H0 H' σ' env' → FrC z c X M H (Ms z X σ' env') H' → k.ct env' → G.ct σ' H'
theorem SimC.go {A B : Nat} {fr : Bool} {z : Zn} {c : Nat} {X : AP} {H0 : Hp} {M M1 : AP} {H H1 : Hp} {G : Ends} {k : PK'} (s : SimC A B fr z X H0 M H G k) (f : FrC z c X M H M1 H1) : SimC A B fr (z.at c) X H0 M1 H1 G k :=
  ⟨fun c' e σ H' h o g hk => s.nx c' e σ H' h o (f.trans g) hk, s.rt, fun c' e σ H' h o g hk => s.bk c' e σ H' h o (f.trans g) hk, fun c' e σ H' h o g hk => s.ct c' e σ H' h o (f.trans g) hk⟩
theorem SimC.le {A A' B : Nat} {fr : Bool} {z : Zn} {X : AP} {H0 : Hp} {M : AP} {H : Hp} {G : Ends} {k : PK'} (s : SimC A B fr z X H0 M H G k) (h : A' ≤ A) : SimC A' B fr z X H0 M H G k :=
  ⟨fun c e σ H' hc o g hk => s.nx c e σ H' (Nat.le_trans hc h) o g hk, s.rt, s.bk, s.ct⟩
def RSc (n : Nat) (fr : Bool) (t : TS) (p : PSt) : Prop := ∀ (z : Zn) (X : AP) (H0 H : Hp) (σ : Sl) (env : List SV) (G : Ends) (k : PK') (B : Nat), Ok z X H0 H σ env → z.live H → z.ct + n ≤ B → B ≤ lim → SimC (z.ct + n) B fr z X H0 (Ms z X σ env) H G k → p env k → t G σ H
structure Sc (n : Nat) (fr : Bool) (C : Cx) (st : Stmt) (p : PSt) : Prop where
  ex : ∃ t, PS C st t ∧ RSc n fr t p
section
variable {C : Cx} {fr : Bool} {st : Stmt} {rest : List Stmt} {p q : PSt} {e : Expr} {pe : PX} {m : Mode} {pos pp : Pos} {n na nb : Nat} {x : Str}
/-- a plain statement that only goes on -/
theorem S.cd (h : S fr C st p) (hn : ∀ env k, p env k → p env { nx := k.nx, rt := fun _ => False, bk := fun _ => False, ct := fun _ => False, re := fun _ _ => False } := by exact fun _ _ h => h) : Sc 0 fr C st p := by
  obtain ⟨t, h1, h2⟩ := h
  refine ⟨t, h1, fun z X H0 H σ env G k B o lv w wl s hp => h2 z X H0 H σ env G { nx := k.nx, rt := fun _ => False, bk := fun _ => False, ct := fun _ => False, re := fun _ _ => False } o ⟨fun env' σ' H' o' f' hk => s.nx z.ct env' σ' H' (Nat.le_refl _) o' (f'.toC lv) hk, fun _ _ _ _ _ _ h => h.elim, fun _ _ _ _ _ h => h.elim, fun _ _ _ _ _ h => h.elim, fun _ _ _ _ _ _ _ h => h.elim⟩ (hn _ _ hp)⟩
end
end Pu
namespace Pu
open PySem PySem.Spec PyProof.Rows L2
/-! ### loops -/
/-! ### defs that draw, the law -/
end Pu
namespace Pu
open PySem PySem.Spec PyProof.Rows L2
end Pu
namespace Pu
open PySem PySem.Spec PyProof.Rows L2
/-! ### comprehensions whose element draws -/
end Pu
namespace Pu
open PySem PySem.Spec PyProof.Rows L2
/-! ### a while without draws, in a def that draws -/
end Pu
/-! min() of data that are alike; sorted(xs, key=len), xs tuples of whole numbers -/
namespace Pu
open PySem PySem.Spec PyProof.Rows L2
end Pu
/-! ### the state: things that are changed in place and known by their numbers (dicts, instances) -/
namespace Pu
open PySem PySem.Spec PyProof.Rows L2
variable [Tbs]
/-- the zone goes on -/
structure Gro (z z' : Zn) : Prop where
  nt : z'.nt = z.nt
  dk : z'.dk = z.dk
  bo : z'.bo = z.bo
  hd : ∀ (i : Nat) (a : Addr), (z.cs[i]?).map (·.1) = some a → (z'.cs[i]?).map (·.1) = some a
  zs : ∀ a, z.Z a → z'.Z a
structure EvoS (z z' : Zn) (H H' : Hp) : Prop where
  old : ∀ a o, H a = some o → ¬ z.Z a → H' a = some o
  al : ∀ a, H a ≠ none → H' a ≠ none
  tab : Tabs H → Tabs H'
  live : z'.live H'
  gr : Gro z z'
  zz : ∀ a, z'.Z a → z.Z a ∨ H a = none
  fz : ∀ a o u, H a = some (.frz o u) → a ∈ z.cs.map (·.1) → H' a = some (.frz o u)
structure FrS (z z' : Zn) (M : AP) (H : Hp) (M' : AP) (H' : Hp) : Prop where
  old : ∀ a o, H a = some o → ¬ M a → H' a = some o ∧ ¬ M' a
  al : ∀ a, H a ≠ none → H' a ≠ none
  live : z'.live H'
  gr : Gro z z'
  zz : ∀ a, z'.Z a → M a ∨ H a = none
  fz : ∀ a o u, H a = some (.frz o u) → a ∈ z.cs.map (·.1) → H' a = some (.frz o u)
section
variable {z z' z1 z2 : Zn} {X : AP} {H0 H H1 H2 H' : Hp} {σ σ' : Sl} {env env' : List SV} {M M1 M2 M' : AP} {v : V} {d : D}
theorem Gro.refl (z : Zn) : Gro z z := ⟨rfl, rfl, rfl, fun _ _ h => h, fun _ h => h⟩
theorem Gro.trans (a : Gro z z1) (b : Gro z1 z2) : Gro z z2 :=
  ⟨b.nt.trans a.nt, b.dk.trans a.dk, b.bo.trans a.bo, fun i x h => b.hd i x (a.hd i x h), fun x h => b.zs x (a.zs x h)⟩
theorem none_back (al : ∀ a, H a ≠ none → H1 a ≠ none) {x : Addr} (q : H1 x = none) : H x = none := by
  cases e : H x with
  | none => rfl
  | some o => exact absurd q (al x (by rw [e]; intro w; cases w))
theorem Gro.cs (a : Gro z z1) {x : Addr} (h : x ∈ z.cs.map (·.1)) : x ∈ z1.cs.map (·.1) := by
  obtain ⟨i, hi⟩ := List.mem_iff_getElem?.mp h
  rw [List.getElem?_map] at hi
  have := a.hd i x hi
  exact List.mem_iff_getElem?.mpr ⟨i, by rw [List.getElem?_map]; exact this⟩
theorem live_fz (l : z.live H) (l' : z.live H') {a : Addr} {o : Obj} {u : HO} (h : H a = some (.frz o u)) (hm : a ∈ z.cs.map (·.1)) : H' a = some (.frz o u) := by
  obtain ⟨p, hp, rfl⟩ := List.mem_map.mp hm
  have e1 := (l.2.2.2.2.2 p hp).1
  have e2 := (l'.2.2.2.2.2 p hp).1
  rw [h] at e1
  rw [e2, ← e1]
theorem Evo.toS (e : Evo z H H') (l : z.live H) : EvoS z z H H' := ⟨e.old, e.al, e.tab, e.dk _ l, Gro.refl _, fun _ h => .inl h, fun _ _ _ h hm => live_fz l (e.dk _ l) h hm⟩
theorem Fr.toS (f : Fr z X (Ms z X σ env) H M' H') (l : z.live H) : FrS z z (Ms z X σ env) H M' H' := ⟨f.old, f.al, f.dk _ l, Gro.refl _, fun _ h => .inl (.inl h), fun _ _ _ h hm => live_fz l (f.dk _ l) h hm⟩
theorem EvoS.trans (a : EvoS z z1 H H1) (b : EvoS z1 z2 H1 H2) : EvoS z z2 H H2 :=
  ⟨fun x o h n => b.old x o (a.old x o h n) fun q => (a.zz x q).elim n (fun w => by rw [h] at w; cases w), fun x h => b.al x (a.al x h), fun h => b.tab (a.tab h), b.live, a.gr.trans b.gr, fun x h => (b.zz x h).elim (a.zz x) fun q => .inr (none_back a.al q), fun x o u h m => b.fz x o u (a.fz x o u h m) (a.gr.cs m)⟩
theorem FrS.trans (a : FrS z z1 M H M1 H1) (b : FrS z1 z2 M1 H1 M2 H2) : FrS z z2 M H M2 H2 :=
  ⟨fun x o h n => b.old x o (a.old x o h n).1 (a.old x o h n).2, fun x h => b.al x (a.al x h), b.live, a.gr.trans b.gr, fun x h => by
    cases e : H x with
    | none => exact .inr rfl
    | some o =>
      by_cases m : M x
      · exact .inl m
      · obtain ⟨q1, q2⟩ := a.old x o e m
        exact (b.zz x h).elim (fun w => absurd w q2) fun w => (by rw [q1] at w; cases w), fun x o u h m => b.fz x o u (a.fz x o u h m) (a.gr.cs m)⟩
theorem EvoS.fresh (a : EvoS z z' H H1) {p : Addr} (h : H1 p = none) : H p = none := by
  cases q : H p with
  | none => rfl
  | some o => exact absurd h (a.al p (by rw [q]; intro z; cases z))
section
variable (h1 : ∀ a o, H a = some o → ¬ M a → H' a = some o ∧ ¬ M' a) (h2 : ∀ a, z.ok H a → z'.ok H' a) (h3 : ∀ (i : Nat) (a : Addr), (z.cs[i]?).map (·.1) = some a → (z'.cs[i]?).map (·.1) = some a) (h4 : z'.nt = z.nt)
include h1 h2 h3 h4
mutual
theorem Is.zs : ∀ {v : V} {d : D}, Is z M H v d → Is z' M' H' v d
  | _, _, .non => .non
  | _, _, .bl b => .bl b
  | _, _, .int i => .int i
  | _, _, .str s => .str s
  | _, _, .ty n => .ty n
  | _, _, .tup e n r => .tup (h1 _ _ e n).1 (h1 _ _ e n).2 (IsA.zs r)
  | _, _, .lst e n r => .lst (h1 _ _ e n).1 (h1 _ _ e n).2 (IsA.zs r)
  | _, _, .dic e n r => .dic (h1 _ _ e n).1 (h1 _ _ e n).2 (IsK.zs r)
  | _, _, .deck e => h4 ▸ Is.deck (z := z') (h2 _ e)
  | _, _, .dpr e n => .dpr (h1 _ _ e n).1 (h1 _ _ e n).2
  | _, _, .dfz e n => .dfz (h1 _ _ e n).1 (h1 _ _ e n).2
  | _, _, .st e l n => .st (h1 _ _ e n).1 l (h1 _ _ e n).2
  | _, _, .bor e n r => .bor (h1 _ _ e n).1 (h1 _ _ e n).2 (IsA.zs r)
  | _, _, .opq v => .opq v
  | _, _, .xf v e n => .xf v (h1 _ _ e n).1 (h1 _ _ e n).2
  | _, _, .dpd e n q r => .dpd (h1 _ _ e n).1 (h1 _ _ e n).2 q (IsA.zs r)
  | _, _, .hd e => .hd (h3 _ _ e)
theorem IsA.zs : ∀ {v : List V} {d : List D}, IsA z M H v d → IsA z' M' H' v d
  | _, _, .nil => .nil
  | _, _, .cons h t => .cons (Is.zs h) (IsA.zs t)
theorem IsK.zs : ∀ {v : List (Key × V)} {d : List (Key × D)}, IsK z M H v d → IsK z' M' H' v d
  | _, _, .nil => .nil
  | _, _, .cons h t => .cons (Is.zs h) (IsK.zs t)
end
theorem conZs {a : Addr} (ha : ∀ o, H a = some o → H' a = some o) (hb : z'.bo = z.bo) (h : Con z M H a d) : Con z' M' H' a d := by
  cases d with
  | tup ds => obtain ⟨vs, e, r⟩ := h; exact ⟨vs, ha _ e, r.zs h1 h2 h3 h4⟩
  | lst ds => obtain ⟨vs, e, r⟩ := h; exact ⟨vs, ha _ e, r.zs h1 h2 h3 h4⟩
  | dic ds => obtain ⟨vs, e, r⟩ := h; exact ⟨vs, ha _ e, r.zs h1 h2 h3 h4⟩
  | dpr ds => exact ha _ h
  | dpd ds => obtain ⟨vs, e, q, r⟩ := h; exact ⟨vs, ha _ e, q, r.zs h1 h2 h3 h4⟩
  | st ns => obtain ⟨n, e, l⟩ := h; exact ⟨n, ha _ e, l⟩
  | bor ds => obtain ⟨w, vs, e, r⟩ := h; exact ⟨hb.trans w, vs, ha _ e, r.zs h1 h2 h3 h4⟩
  | _ => exact h.elim
theorem CellOk.zs {o : HO} {c : Cell} (h : CellOk z M H o c) : CellOk z' M' H' o c := by
  cases c with
  | dic ds => obtain ⟨vs, e, r⟩ := h; exact ⟨vs, e, r.zs h1 h2 h3 h4⟩
  | lck ds => obtain ⟨od, vs, e, r⟩ := h; exact ⟨od, vs, e, r.zs h1 h2 h3 h4⟩
  | lst ds => obtain ⟨vs, e, r⟩ := h; exact ⟨vs, e, r.zs h1 h2 h3 h4⟩
  | ins c ds => obtain ⟨C, dx, fs, e, q, r1, r2⟩ := h; exact ⟨C, dx, fs, e, q, r1, r2.zs h1 h2 h3 h4⟩
end
theorem EvoS.ok (e : EvoS z z' H H') : ∀ a, z.ok H a → z'.ok H' a := fun b h => by
  obtain rfl : b = z'.dk := by rw [e.gr.dk]; exact h.1
  exact e.live
theorem FrS.ok (e : FrS z z' M H M' H') : ∀ a, z.ok H a → z'.ok H' a := fun b h => by
  obtain rfl : b = z'.dk := by rw [e.gr.dk]; exact h.1
  exact e.live
theorem FrS.is (f : FrS z z' M H M' H') (h : Is z M H v d) : Is z' M' H' v d := h.zs f.old f.ok f.gr.hd f.gr.nt
theorem FrS.isA {vs : List V} {ds : List D} (f : FrS z z' M H M' H') (h : IsA z M H vs ds) : IsA z' M' H' vs ds := h.zs f.old f.ok f.gr.hd f.gr.nt
/-- the state goes on: of a frame's slots nothing but the state's is changed -/
theorem Ok.stt (k : Ok z X H0 H σ env) {i : Nat} {g g' : List Cell} (hi : i + 1 = env.length) (hg : env[i]? = some (.gs g)) (e : EvoS z z' H H') (st : StOk z' (Ms z' X σ env) H' g') :
    Ok z' X H0 H' σ (env.set i (.gs g')) ∧ FrS z z' (Ms z X σ env) H (Ms z' X σ (env.set i (.gs g'))) H' := by
  have hil : i < env.length := by omega
  have same : ∀ (j : Nat) (s : SV), (∀ u, s ≠ .gs u) → ((env.set i (.gs g'))[j]? = some s ↔ env[j]? = some s) := fun j s hs => by
    by_cases hj : i = j
    · subst hj
      rw [List.getElem?_set_self hil, hg]
      constructor
      · intro w; exact absurd (Option.some.inj w).symm (hs _)
      · intro w; exact absurd (Option.some.inj w).symm (hs _)
    · rw [List.getElem?_set_ne hj]
  have so : ∀ (j : Nat) (d : D), ((env.set i (.gs g'))[j]? = some (.own d) ↔ env[j]? = some (.own d)) := fun j d => same j _ fun _ w => nomatch w
  have sv : ∀ (j : Nat) (d : D), ((env.set i (.gs g'))[j]? = some (.val d) ↔ env[j]? = some (.val d)) := fun j d => same j _ fun _ w => nomatch w
  have msE : ∀ (zz : Zn) (a : Addr), Ms zz X σ (env.set i (.gs g')) a ↔ Ms zz X σ env a := fun zz a => by
    constructor
    · rintro (h | h | ⟨j, d, h1, h2⟩)
      · exact .inl h
      · exact .inr (.inl h)
      · exact .inr (.inr ⟨j, d, (so j d).mp h1, h2⟩)
    · rintro (h | h | ⟨j, d, h1, h2⟩)
      · exact .inl h
      · exact .inr (.inl h)
      · exact .inr (.inr ⟨j, d, (so j d).mpr h1, h2⟩)
  have nz : ∀ a o, H a = some o → ¬ z.Z a → ¬ z'.Z a := fun a o h n q => (e.zz a q).elim n fun w => by rw [h] at w; cases w
  have old : ∀ a o, H a = some o → ¬ Ms z X σ env a → H' a = some o ∧ ¬ Ms z' X σ (env.set i (.gs g')) a := fun a o h n =>
    ⟨e.old a o h fun q => n (.inl q), fun q => by
      rcases (msE z' a).mp q with w | w | w
      · exact nz a o h (fun q => n (.inl q)) w
      · exact n (.inr (.inl w))
      · exact n (.inr (.inr w))⟩
  refine ⟨⟨by simp [k.len], ⟨fun a o h n => e.old a o (k.evo.old a o h fun q => n (e.gr.zs a q)) fun q => n (e.gr.zs a q), fun a h => e.al a (k.evo.al a h), fun b h => by obtain rfl : b = z'.dk := h.1; exact e.live, fun h => e.tab (k.evo.tab h)⟩,
    fun a h => ?_, fun a h => ⟨e.al a (k.xal a h).1, fun q => (e.zz a q).elim (k.xal a h).2 (k.xal a h).1⟩, fun j d h => ?_, fun j d h => ?_, fun j l a d f h1 h2 h3 h4 => k.inj j l a d f ((so j d).mp h1) ((so l f).mp h2) h3 h4, e.tab k.tab, fun j g2 hL h => ?_⟩, ⟨old, e.al, e.live, e.gr, fun a q => (e.zz a q).elim (fun w => .inl (.inl w)) .inr, e.fz⟩⟩
  · rcases h with ⟨_, h | h | h⟩ | h
    · rw [h]; exact e.live.2.2.1.al.1
    · rw [h]; exact e.live.2.2.1.al.2
    · obtain ⟨p, hp, rfl⟩ := List.mem_map.mp h
      rw [(e.live.2.2.2.2.2 p hp).1]; intro w; cases w
    · exact (e.tab k.tab).at h
  · obtain ⟨v, h1, h2⟩ := k.val j d ((sv j d).mp h)
    exact ⟨v, h1, h2.zs old e.ok e.gr.hd e.gr.nt⟩
  · obtain ⟨a, h1, h2, h3, h4, h5⟩ := k.own j d ((so j d).mp h)
    obtain ⟨o, ho⟩ := h2.some
    exact ⟨a, h1, conZs old e.ok e.gr.hd e.gr.nt (fun o q => e.old a o q h3) e.gr.bo h2, nz a o ho h3, h4, h5⟩
  · have hj : j = i := by simp at hL; omega
    subst hj
    rw [List.getElem?_set_self hil] at h
    cases h
    exact ⟨st.live, st.len, fun i p c e1 e2 => (st.at' i p c e1 e2).gen (fun b u q n => ⟨q, fun w => n ((msE z' b).mp w)⟩) fun _ h => h⟩
end
/-! expressions that may change the state -/
def RMS (t : TE) (p : PMX) : Prop := ∀ (z : Zn) (X : AP) (H0 H : Hp) (σ : Sl) (env : List SV) (Q : VK) (k : List SV → D → Prop), Ok z X H0 H σ env → z.live H →
  (∀ z' d v H' env', Ok z' X H0 H' σ env' → FrS z z' (Ms z X σ env) H (Ms z' X σ env') H' → Is z' (Ms z' X σ env') H' v d → k env' d → Q v H') → p env k → t σ H Q
def RMAS (t : TA) (p : PMA) : Prop := ∀ (z : Zn) (X : AP) (H0 H : Hp) (σ : Sl) (env : List SV) (Q : List V → Hp → Prop) (k : List SV → List D → Prop), Ok z X H0 H σ env → z.live H →
  (∀ z' ds vs H' env', Ok z' X H0 H' σ env' → FrS z z' (Ms z X σ env) H (Ms z' X σ env') H' → IsA z' (Ms z' X σ env') H' vs ds → k env' ds → Q vs H') → p env k → t σ H Q
abbrev PMT := List SV → (List SV → Bool → Prop) → Prop
def RMTS (t : TT) (p : PMT) : Prop := ∀ (z : Zn) (X : AP) (H0 H : Hp) (σ : Sl) (env : List SV) (Q : Bool → Hp → Prop) (k : List SV → Bool → Prop), Ok z X H0 H σ env → z.live H →
  (∀ z' b H' env', Ok z' X H0 H' σ env' → FrS z z' (Ms z X σ env) H (Ms z' X σ env') H' → k env' b → Q b H') → p env k → t σ H Q
structure MS (C : Cx) (e : Expr) (p : PMX) : Prop where
  ex : ∃ t, PE C e t ∧ RMS t p
structure MAS (C : Cx) (es : List Expr) (p : PMA) : Prop where
  ex : ∃ t, PA C es t ∧ RMAS t p
structure MTS (C : Cx) (e : Expr) (p : PMT) : Prop where
  ex : ∃ t, PT C e t ∧ RMTS t p
structure MWS (C : Cx) (e : Expr) (p : PMT) : Prop where
  ex : ∃ t, PW C e t ∧ RMTS t p
def mT (p : PTs') : PMT := fun env k => p env fun b => k env b
section
variable {C : Cx} {e a b : Expr} {es : List Expr} {p : PX} {q q1 q2 : PMX} {g : PMA} {m : Mode} {pos pp : Pos}
theorem RE.mS {t : TE} (h : RE .e t p) : RMS t (mE p) := fun z X H0 H σ env Q k o l c hp => h z X H0 H σ env Q (k env) o (fun d v H' ev r kd => c z d v H' env (o.go ev) ((o.fr ev).toS l) r kd) hp
theorem ms_e (h : E .e C e p) : MS C e (mE p) := let ⟨t, h1, h2⟩ := h; ⟨t, h1, h2.mS⟩
theorem mt_t {p : PTs'} (h : T C e p) : MTS C e (mT p) := let ⟨t, h1, h2⟩ := h; ⟨t, h1, fun z X H0 H σ env Q k o l c hp => h2 z X H0 H σ env Q (k env) o (fun b H' ev kd => c z b H' env (o.go ev) ((o.fr ev).toS l) kd) hp⟩
theorem mas_a {ga : PAs} (h : A true C es ga) : MAS C es (fun env k => ga env fun ds => k env ds) := by
  obtain ⟨t, h1, h2⟩ := h
  exact ⟨t, h1, fun z X H0 H σ env Q k o l c hp => h2 z X H0 H σ env Q (k env) o (fun ds vs H' ev r kd => c z ds vs H' env (o.go ev) ((o.fr ev).toS l) r kd) hp⟩
/-- two values and an operator -/
def mOp (gg : D → D → (D → Prop) → Prop) (p q : PMX) : PMX := fun env k => p env fun env1 x => q env1 fun env2 y => gg x y fun d => k env2 d
theorem RMS.op {r : R2} {gg : D → D → (D → Prop) → Prop} {ta tb : TE} (ho : ∀ (z : Zn) (X : AP) (H0 H : Hp) (σ : Sl) (env : List SV) (v u : V) (x y : D) (Q : VK) (k : D → Prop), Ok z X H0 H σ env → Is z (Ms z X σ env) H v x → Is z (Ms z X σ env) H u y → (∀ d w H', Evo z H H' → Is z (Ms z X σ env) H' w d → k d → Q w H') → gg x y k → r v u H Q)
    (ha : RMS ta q1) (hb : RMS tb q2) : RMS (tOp r ta tb) (mOp gg q1 q2) := fun z X H0 H σ env Q k o l c hp => by
  refine ha z X H0 H σ env _ _ o l (fun z1 x v H1 env1 o1 f1 r1 hx => ?_) hp
  refine hb z1 X H0 H1 σ env1 _ _ o1 f1.live (fun z2 y u H2 env2 o2 f2 r2 hy => ?_) hx
  refine ho z2 X H0 H2 σ env2 v u x y Q (k env2) o2 (f2.is r1) r2 (fun d w H3 e3 r3 kd => ?_) hy
  exact c z2 d w H3 env2 (o2.go e3) (f1.trans (f2.trans ((o2.fr e3).toS f2.live))) r3 kd
theorem opd_s {mi mo : Mode} {r : R2} {gg : D → D → (D → Prop) → Prop} (ho : OpD mi mo r gg) (hi : mi = .b ∨ mi = .c ∨ mi = .e) (hm : mo = .e ∨ mo = .f) (z : Zn) (X : AP) (H0 H : Hp) (σ : Sl) (env : List SV) (v u : V) (x y : D) (Q : VK) (k : D → Prop) (o : Ok z X H0 H σ env) (r1 : Is z (Ms z X σ env) H v x) (r2 : Is z (Ms z X σ env) H u y)
    (c : ∀ d w H', Evo z H H' → Is z (Ms z X σ env) H' w d → k d → Q w H') (hp : gg x y k) : r v u H Q := by
  have up : ∀ {v x}, Is z (Ms z X σ env) H v x → Rel mi z X H H σ env v x := fun r => by
    rcases hi with rfl | rfl | rfl
    · exact Rel.eb (H := H) r
    · exact .inl r
    · exact r
  refine ho z X H0 H σ env v u x y Q k o (up r1) (up r2) (fun d w H' e r3 kd => c d w H' e ?_ kd) hp
  rcases hm with rfl | rfl
  · exact r3
  · exact r3.fe o
theorem ms_cmp {mi mo : Mode} {op : CmpOp} {r : R2} {gg : D → D → (D → Prop) → Prop} (hr : OpR C (compareOp op) r) (ho : OpD mi mo r gg) (ha : MS C a q1) (hb : MS C b q2) (hk : behindInMarks op b = false) (hi : mi = .b ∨ mi = .c ∨ mi = .e := by first | exact .inl rfl | exact .inr (.inl rfl) | exact .inr (.inr rfl)) (hm : mo = .e ∨ mo = .f := by first | exact .inl rfl | exact .inr rfl) : MS C (.Compare a [op] [b] pos) (mOp gg q1 q2) := by
  obtain ⟨ta, a1, a2⟩ := ha
  obtain ⟨tb, b1, b2⟩ := hb
  exact ⟨_, pe_cmpR hr a1 b1 hk, RMS.op (opd_s ho hi hm) a2 b2⟩
def mOf (p : PMX) : PMT := fun env k => p env fun env1 d => blK d fun b => k env1 b
theorem RMTS.of {t : TE} (h : RMS t q) : RMTS (tTest t) (mOf q) := fun z X H0 H σ env Q k o l c hp => by
  refine h z X H0 H σ env _ _ o l (fun z1 d v H1 env1 o1 f1 r1 hd => ?_) hp
  cases d with
  | bl b =>
    cases r1
    exact ⟨b, rfl, c z1 b H1 env1 o1 f1 hd⟩
  | _ => exact (show False from hd).elim
theorem mt_val (h : MS C e q) (he : ∀ whole, isTrue e C.env whole = (do let v ← whole; standAt e.pos; holding [v] (truthy v)) := by intro _; rfl) : MTS C e (mOf q) := by
  obtain ⟨t, h1, h2⟩ := h
  exact ⟨_, pt_val h1 he, RMTS.of h2⟩
variable {rest : List Expr} {s t' : PMT}
def mNot (s : PMT) : PMT := fun env k => s env fun env1 b => k env1 (!b)
def mOr (s t : PMT) : PMT := fun env k => s env fun env1 b => if b = true then k env1 true else t env1 k
theorem mw_t (h : MWS C e s) : MTS C e s := let ⟨t, h1, h2⟩ := h; ⟨t, h1.pt, h2⟩
theorem mw_or1 (h : MTS C a s) : MWS C (.BoolOp .Or [a] pos) s := let ⟨t, h1, h2⟩ := h; ⟨t, pw_or1 h1, h2⟩
theorem mw_or (h : MTS C a s) (g : MWS C (.BoolOp .Or (b :: rest) pos) t') : MWS C (.BoolOp .Or (a :: b :: rest) pos) (mOr s t') := by
  obtain ⟨t, h1, h2⟩ := h
  obtain ⟨u, g1, g2⟩ := g
  refine ⟨_, pw_or h1 g1, fun z X H0 H σ env Q k o l c hp => h2 z X H0 H σ env _ _ o l (fun z1 x H1 env1 o1 f1 hx => ?_) hp⟩
  cases x with
  | false => exact g2 z1 X H0 H1 σ env1 Q k o1 f1.live (fun z2 y H2 env2 o2 f2 hy => c z2 y H2 env2 o2 (f1.trans f2) hy) hx
  | true => exact c z1 true H1 env1 o1 f1 hx
theorem mt_not (h : MTS C a s) : MTS C (.UnaryOp .Not a pos) (mNot s) := by
  obtain ⟨t, h1, h2⟩ := h
  exact ⟨_, pt_not h1, fun z X H0 H σ env Q k o l c hp => h2 z X H0 H σ env _ _ o l (fun z1 b H1 env1 o1 f1 hx => c z1 (!b) H1 env1 o1 f1 hx) hp⟩
end
/-! a value told of tests: and, or, not -/
end Pu
/-! ### the state: what is changed in it, and what is new -/
namespace Pu
open PySem PySem.Spec PyProof.Rows L2
variable [Tbs]
/-- the state of a frame, in its last slot -/
def gsAt (i : Nat) (env : List SV) (k : List Cell → Prop) : Prop := match env[i]? with
  | some (.gs g) => i + 1 = env.length ∧ k g
  | _ => False
theorem gsAt_e {i : Nat} {env : List SV} {k : List Cell → Prop} (h : gsAt i env k) : ∃ g, env[i]? = some (.gs g) ∧ i + 1 = env.length ∧ k g := by
  unfold gsAt at h
  split at h
  · rename_i g hg
    exact ⟨g, hg, h.1, h.2⟩
  · exact h.elim
theorem gsAt_i {i : Nat} {env : List SV} {k : List Cell → Prop} {g : List Cell} (h : env[i]? = some (.gs g)) (hl : i + 1 = env.length) (hk : k g) : gsAt i env k := by
  unfold gsAt
  rw [h]
  exact ⟨hl, hk⟩
/-- another object at the same place -/
def Zn.put (z : Zn) (j : Nat) (a : Addr) (o : HO) : Zn := { z with cs := z.cs.set j (a, o) }
def Zn.push (z : Zn) (a : Addr) (o : HO) : Zn := { z with cs := z.cs ++ [(a, o)] }
theorem set_self {α : Type} : ∀ {l : List α} {j : Nat} {x : α}, l[j]? = some x → l.set j x = l
  | [], _, _, h => by cases h
  | y :: l, 0, x, h => by cases h; rfl
  | y :: l, j + 1, x, h => congrArg (y :: ·) (set_self (l := l) (by simpa using h))
section
variable {z z' : Zn} {X : AP} {H0 H H1 H2 H' : Hp} {σ σ' : Sl} {env env' : List SV} {M M' : AP} {v : V} {d : D} {i j : Nat} {a : Addr} {o o' : HO} {g : List Cell} {c c' : Cell}
theorem put_fst (h : z.cs[j]? = some (a, o)) : (z.put j a o').cs.map (·.1) = z.cs.map (·.1) := by
  unfold Zn.put
  rw [List.map_set]
  exact set_self (by rw [List.getElem?_map, h]; rfl)
theorem put_Z (h : z.cs[j]? = some (a, o)) : (z.put j a o').Z = z.Z := by
  funext b
  unfold Zn.Z
  rw [put_fst h]
  rfl
theorem put_hd (h : z.cs[j]? = some (a, o)) (i : Nat) (b : Addr) (e : (z.cs[i]?).map (·.1) = some b) : ((z.put j a o').cs[i]?).map (·.1) = some b := by
  rw [← List.getElem?_map, put_fst h, List.getElem?_map]
  exact e
theorem cs_inj (l : z.live H) {n : Nat} {p : Addr × HO} (h : z.cs[j]? = some (a, o)) (hn : z.cs[n]? = some p) (e : p.1 = a) : n = j := by
  have nd := l.2.2.2.2.1
  have h1 : (z.cs.map (·.1))[n]? = some a := by rw [List.getElem?_map, hn, ← e]; rfl
  have h2 : (z.cs.map (·.1))[j]? = some a := by rw [List.getElem?_map, h]; rfl
  exact (List.getElem?_inj (List.getElem?_eq_some_iff.mp h1).1 nd).mp (h1.trans h2.symm)
theorem cs_at (l : z.live H) (h : z.cs[j]? = some (a, o)) : H a = some o ∧ a ≠ z.dk ∧ a ≠ z.c ∧ ∀ ps, o ≠ .tbl ps := l.2.2.2.2.2 (a, o) (List.mem_of_getElem? h)
theorem cs_Z (l : z.live H) (h : z.cs[j]? = some (a, o)) : z.Z a := .inl ⟨l.2.1, .inr (.inr (List.mem_map.mpr ⟨_, List.mem_of_getElem? h, rfl⟩))⟩
/-- a thing of the state is changed -/
theorem EvoS.put (l : z.live H) (h : z.cs[j]? = some (a, o)) (hf : ∀ od u, o ≠ .frz od u) (ho : ∀ ps, o' ≠ .tbl ps) : EvoS z (z.put j a o') H (upd H a o') := by
  obtain ⟨ha, n1, n2, ht⟩ := cs_at l h
  have al : ∀ b, H b ≠ none → upd H a o' b ≠ none := fun b hb => by
    by_cases e : b = a
    · rw [e, upd_same]; intro q; cases q
    · rw [upd_ne e]; exact hb
  refine ⟨fun b u hb n => by rw [upd_ne (fun e => n (by rw [e]; exact cs_Z l h))]; exact hb, al, fun T => T.keep (fun P ps e _ => by rw [upd_ne (fun w => by rw [w, ha] at e; exact ht ps (Option.some.inj e))]; exact e) fun b ob u e => by rw [upd_ne (fun w => by rw [w, ha] at e; exact hf _ _ (Option.some.inj e))]; exact e, ?_,
    ⟨rfl, rfl, rfl, put_hd h, fun b q => by rw [put_Z h]; exact q⟩, fun b q => .inl (by rw [put_Z h] at q; exact q), fun b ob u e _ => by rw [upd_ne (fun w => by rw [w, ha] at e; exact hf _ _ (Option.some.inj e))]; exact e⟩
  refine ⟨rfl, l.2.1, l.2.2.1.keep (fun o q => by rw [upd_ne (Ne.symm n1)]; exact q) (fun o q => by rw [upd_ne (Ne.symm n2)]; exact q), l.2.2.2.1.keep (fun o q => by rw [upd_ne (Ne.symm n1)]; exact q), ?_, fun p hp => ?_⟩
  · rw [put_fst h]; exact l.2.2.2.2.1
  · obtain ⟨n, hn⟩ := List.mem_iff_getElem?.mp hp
    by_cases e : j = n
    · subst e
      have hl : j < z.cs.length := (List.getElem?_eq_some_iff.mp h).1
      rw [show (z.put j a o').cs = z.cs.set j (a, o') from rfl, List.getElem?_set_self hl] at hn
      cases hn
      exact ⟨upd_same, n1, n2, ho⟩
    · rw [show (z.put j a o').cs = z.cs.set j (a, o') from rfl, List.getElem?_set_ne e] at hn
      obtain ⟨q1, q2⟩ := l.2.2.2.2.2 p (List.mem_of_getElem? hn)
      refine ⟨?_, q2⟩
      rw [upd_ne (fun w => e (cs_inj l h hn w).symm)]
      exact q1
theorem StOk.put (s : StOk z (Ms z X σ env) H g) (h : z.cs[j]? = some (a, o)) (hf : ∀ od u, o ≠ .frz od u) (ho : ∀ ps, o' ≠ .tbl ps) (hc : CellOk z (Ms z X σ env) H o' c') : StOk (z.put j a o') (Ms (z.put j a o') X σ env) (upd H a o') (g.set j c') := by
  have e := EvoS.put (o' := o') s.live h hf ho
  have mse : ∀ b, Ms (z.put j a o') X σ env b → Ms z X σ env b := fun b w => by
    rcases w with w | w | w
    · exact .inl (by rw [put_Z h] at w; exact w)
    · exact .inr (.inl w)
    · exact .inr (.inr w)
  have h1 : ∀ b u, H b = some u → ¬ Ms z X σ env b → upd H a o' b = some u ∧ ¬ Ms (z.put j a o') X σ env b := fun b u q n => ⟨e.old b u q fun w => n (.inl w), fun w => n (mse b w)⟩
  refine ⟨e.live, by show (z.cs.set j (a, o')).length = _; rw [List.length_set, List.length_set]; exact s.len, fun n p cc e1 e2 => ?_⟩
  by_cases hn : j = n
  · subst hn
    have hl : j < z.cs.length := (List.getElem?_eq_some_iff.mp h).1
    rw [show (z.put j a o').cs = z.cs.set j (a, o') from rfl, List.getElem?_set_self hl] at e1
    rw [List.getElem?_set_self (by rw [← s.len]; exact hl)] at e2
    cases e1
    cases e2
    exact hc.zs h1 e.ok e.gr.hd e.gr.nt
  · rw [show (z.put j a o').cs = z.cs.set j (a, o') from rfl, List.getElem?_set_ne hn] at e1
    rw [List.getElem?_set_ne hn] at e2
    exact (s.at' n p cc e1 e2).zs h1 e.ok e.gr.hd e.gr.nt
theorem Ok.put (k : Ok z X H0 H σ env) (hi : i + 1 = env.length) (hg : env[i]? = some (.gs g)) (h : z.cs[j]? = some (a, o)) (hf : ∀ od u, o ≠ .frz od u) (ho : ∀ ps, o' ≠ .tbl ps) (hc : CellOk z (Ms z X σ env) H o' c') :
    Ok (z.put j a o') X H0 (upd H a o') σ (env.set i (.gs (g.set j c'))) ∧ FrS z (z.put j a o') (Ms z X σ env) H (Ms (z.put j a o') X σ (env.set i (.gs (g.set j c')))) (upd H a o') :=
  have s := k.gs i g hi hg
  k.stt hi hg (EvoS.put s.live h hf ho) (s.put h hf ho hc)
/-- a new thing of the state -/
theorem EvoS.push (l : z.live H) (e : Evo z H H1) (ha : H a = none) (h1 : H1 a = some o) (ho : ∀ ps, o ≠ .tbl ps) : EvoS z (z.push a o) H H1 := by
  have l1 : z.live H1 := e.dk _ l
  have na : ∀ b u, H b = some u → b ≠ a := fun b u q w => by rw [w, ha] at q; cases q
  have nm : a ∉ z.cs.map (·.1) := fun w => by
    obtain ⟨p, hp, e⟩ := List.mem_map.mp w
    exact na _ _ (l.2.2.2.2.2 p hp).1 e
  have zz : ∀ b, (z.push a o).Z b ↔ z.Z b ∨ (z.nt ≠ 0 ∧ b = a) := fun b => by
    unfold Zn.Z Zn.push
    simp only [List.map_append, List.map_cons, List.map_nil, List.mem_append, List.mem_cons, List.not_mem_nil, or_false]
    constructor
    · rintro (⟨h, q | q | q | q⟩ | q)
      · exact .inl (.inl ⟨h, .inl q⟩)
      · exact .inl (.inl ⟨h, .inr (.inl q)⟩)
      · exact .inl (.inl ⟨h, .inr (.inr q)⟩)
      · exact .inr ⟨h, q⟩
      · exact .inl (.inr q)
    · rintro ((⟨h, q | q | q⟩ | q) | ⟨h, q⟩)
      · exact .inl ⟨h, .inl q⟩
      · exact .inl ⟨h, .inr (.inl q)⟩
      · exact .inl ⟨h, .inr (.inr (.inl q))⟩
      · exact .inr q
      · exact .inl ⟨h, .inr (.inr (.inr q))⟩
  refine ⟨e.old, e.al, e.tab, ⟨rfl, l1.2.1, l1.2.2.1, l1.2.2.2.1, ?_, fun p hp => ?_⟩, ⟨rfl, rfl, rfl, fun n b q => ?_, fun b q => (zz b).mpr (.inl q)⟩, fun b q => ((zz b).mp q).elim .inl fun w => .inr (by rw [w.2]; exact ha), fun b ob u q hm => live_fz l l1 q hm⟩
  · show ((z.cs ++ [(a, o)]).map (·.1)).Nodup
    rw [List.map_append, List.nodup_append]
    exact ⟨l.2.2.2.2.1, by simp, fun x hx y hy w => by simp at hy; rw [w, hy] at hx; exact nm hx⟩
  · rcases List.mem_append.mp hp with hp | hp
    · exact l1.2.2.2.2.2 p hp
    · simp at hp
      subst hp
      refine ⟨h1, fun w => ?_, fun w => ?_, ho⟩
      · exact l.2.2.1.al.1 (by have w : a = z.dk := w; rw [← w]; exact ha)
      · exact l.2.2.1.al.2 (by have w : a = z.c := w; rw [← w]; exact ha)
  · show ((z.cs ++ [(a, o)])[n]?).map (·.1) = some b
    cases e2 : z.cs[n]? with
    | none => rw [e2] at q; cases q
    | some p =>
      rw [List.getElem?_append_left (List.getElem?_eq_some_iff.mp e2).1, e2]
      rw [e2] at q
      exact q
theorem ms_push {b : Addr} (h : Ms (z.push a o) X σ env b) : Ms z X σ env b ∨ b = a := by
  rcases h with h | h | h
  · unfold Zn.Z Zn.push at h
    simp only [List.map_append, List.map_cons, List.map_nil, List.mem_append, List.mem_cons, List.not_mem_nil, or_false] at h
    rcases h with ⟨h, q | q | q | q⟩ | q
    · exact .inl (.inl (.inl ⟨h, .inl q⟩))
    · exact .inl (.inl (.inl ⟨h, .inr (.inl q)⟩))
    · exact .inl (.inl (.inl ⟨h, .inr (.inr q)⟩))
    · exact .inr q
    · exact .inl (.inl (.inr q))
  · exact .inl (.inr (.inl h))
  · exact .inl (.inr (.inr h))
theorem StOk.push (s : StOk z (Ms z X σ env) H g) (e : Evo z H H1) (ha : H a = none) (h1 : H1 a = some o) (ho : ∀ ps, o ≠ .tbl ps) (hc : CellOk z (Ms z X σ env) H o c) : StOk (z.push a o) (Ms (z.push a o) X σ env) H1 (g ++ [c]) := by
  have e' := EvoS.push s.live e ha h1 ho
  have hh : ∀ b u, H b = some u → ¬ Ms z X σ env b → H1 b = some u ∧ ¬ Ms (z.push a o) X σ env b := fun b u q n => ⟨e.old b u q fun w => n (.inl w), fun w => (ms_push w).elim n fun w => by rw [w, ha] at q; cases q⟩
  refine ⟨e'.live, by show (z.cs ++ [(a, o)]).length = _; rw [List.length_append, List.length_append, s.len]; rfl, fun n p cc e1 e2 => ?_⟩
  have e1' : (z.cs ++ [(a, o)])[n]? = some p := e1
  by_cases hn : n < z.cs.length
  · rw [List.getElem?_append_left hn] at e1'
    rw [List.getElem?_append_left (by rw [← s.len]; exact hn)] at e2
    exact (s.at' n p cc e1' e2).zs hh e'.ok e'.gr.hd e'.gr.nt
  · rw [List.getElem?_append_right (by omega)] at e1'
    rw [List.getElem?_append_right (by rw [← s.len]; omega), ← s.len] at e2
    cases q : n - z.cs.length with
    | zero =>
      rw [q] at e1' e2
      cases e1'
      cases e2
      exact hc.zs hh e'.ok e'.gr.hd e'.gr.nt
    | succ m => rw [q] at e1'; cases e1'
theorem Ok.push (k : Ok z X H0 H σ env) (hi : i + 1 = env.length) (hg : env[i]? = some (.gs g)) (e : Evo z H H1) (ha : H a = none) (h1 : H1 a = some o) (ho : ∀ ps, o ≠ .tbl ps) (hc : CellOk z (Ms z X σ env) H o c) :
    Ok (z.push a o) X H0 H1 σ (env.set i (.gs (g ++ [c]))) ∧ FrS z (z.push a o) (Ms z X σ env) H (Ms (z.push a o) X σ (env.set i (.gs (g ++ [c])))) H1 ∧ Is (z.push a o) (Ms (z.push a o) X σ (env.set i (.gs (g ++ [c])))) H1 (.ref a) (.hd g.length) := by
  have s := k.gs i g hi hg
  obtain ⟨o2, f2⟩ := k.stt hi hg (EvoS.push s.live e ha h1 ho) (s.push e ha h1 ho hc)
  refine ⟨o2, f2, .hd ?_⟩
  show ((z.cs ++ [(a, o)])[g.length]?).map (·.1) = some a
  rw [← s.len, List.getElem?_append_right (Nat.le_refl _), Nat.sub_self]
  rfl
/-- what stands behind a handle -/
theorem Ok.cell (k : Ok z X H0 H σ env) (hi : i + 1 = env.length) (hg : env[i]? = some (.gs g)) (hv : Is z M H v (.hd j)) (hc : g[j]? = some c) : ∃ a o, v = .ref a ∧ z.cs[j]? = some (a, o) ∧ H a = some o ∧ CellOk z (Ms z X σ env) H o c ∧ z.live H := by
  have s := k.gs i g hi hg
  cases hv with
  | hd e =>
    cases q : z.cs[j]? with
    | none => rw [q] at e; cases e
    | some p =>
      rw [q] at e
      obtain ⟨a, o⟩ := p
      cases e
      exact ⟨a, o, rfl, rfl, (cs_at s.live q).1, s.at' j _ c q hc, s.live⟩
end
/-! attributes -/
def putFD (f : Str) (v : D) : List (Str × D) → List (Str × D)
  | [] => [(f, v)]
  | (g, x) :: r => if g = f then (g, v) :: r else (g, x) :: putFD f v r
section
variable {z : Zn} {M : AP} {H : Hp} {v : V} {d : D} {f : Str}
theorem IsF.len {fs : List (Str × V)} {ds : List (Str × D)} (h : IsF z M H fs ds) : fs.length = ds.length := by
  have := congrArg List.length h.1
  simpa using this
theorem IsF.look (f : Str) : ∀ {fs : List (Str × V)} {ds : List (Str × D)}, IsF z M H fs ds → (∀ d, ds.lookup f = some d → ∃ v, fs.lookup f = some v ∧ Is z M H v d) ∧ (ds.lookup f = none → fs.lookup f = none)
  | [], [], _ => ⟨(fun d h => nomatch h), fun _ => rfl⟩
  | [], _ :: _, h => by cases h.1
  | _ :: _, [], h => by cases h.1
  | (a, x) :: fs, (b, y) :: ds, h => by
    obtain ⟨h1, h2⟩ := h
    simp only [List.map_cons, List.cons.injEq] at h1
    obtain ⟨rfl, h1⟩ := h1
    cases h2 with
    | cons q t =>
      have ih := IsF.look f (fs := fs) (ds := ds) ⟨h1, t⟩
      by_cases e : f = a
      · subst e
        simp only [List.lookup_cons_self]
        exact ⟨(fun d w => by cases w; exact ⟨x, rfl, q⟩), (fun w => nomatch w)⟩
      · have e' : (f == a) = false := by simpa using e
        simp only [List.lookup_cons, e']
        exact ih
theorem IsF.put (f : Str) (hv : Is z M H v d) : ∀ {fs : List (Str × V)} {ds : List (Str × D)}, IsF z M H fs ds → IsF z M H (putF f v fs) (putFD f d ds)
  | [], [], _ => ⟨rfl, .cons hv .nil⟩
  | [], _ :: _, h => by cases h.1
  | _ :: _, [], h => by cases h.1
  | (a, x) :: fs, (b, y) :: ds, h => by
    obtain ⟨h1, h2⟩ := h
    simp only [List.map_cons, List.cons.injEq] at h1
    obtain ⟨rfl, h1⟩ := h1
    cases h2 with
    | cons q t =>
      unfold putF putFD
      by_cases e : a = f
      · rw [if_pos e, if_pos e]
        exact ⟨by simp [h1], .cons hv t⟩
      · rw [if_neg e, if_neg e]
        obtain ⟨i1, i2⟩ := IsF.put f hv (fs := fs) (ds := ds) ⟨h1, t⟩
        exact ⟨by simp [i1], .cons q i2⟩
theorem IsF.evo {H' : Hp} {fs : List (Str × V)} {ds : List (Str × D)} (hM : ∀ a, z.Z a → M a) (e : Evo z H H') (h : IsF z M H fs ds) : IsF z M H' fs ds := ⟨h.1, h.2.evo hM e⟩
end
theorem nofrz_ins {C dx : Addr} {fs : List (Str × V)} : (∀ od u, HO.ins C dx fs ≠ .frz od u) ∧ ∀ ps, HO.ins C dx fs ≠ .tbl ps := ⟨fun _ _ w => (nomatch w), fun _ w => (nomatch w)⟩
theorem nofrz_dK {vs : List (Key × V)} : (∀ od u, HO.dK vs ≠ .frz od u) ∧ ∀ ps, HO.dK vs ≠ .tbl ps := ⟨fun _ _ w => (nomatch w), fun _ w => (nomatch w)⟩
/-- an instance of the class c, in the state -/
def insK (g : List Cell) (j c : Nat) (k : List (Str × D) → Prop) : Prop := match g[j]? with
  | some (.ins c' fs) => c' = c ∧ k fs
  | _ => False
def dicK (g : List Cell) (j : Nat) (k : List (Key × D) → Prop) : Prop := match g[j]? with
  | some (.dic kvs) => k kvs
  | _ => False
theorem insK_e {g : List Cell} {j c : Nat} {k : List (Str × D) → Prop} (h : insK g j c k) : ∃ fs, g[j]? = some (.ins c fs) ∧ k fs := by
  unfold insK at h
  split at h
  · rename_i c' fs e
    obtain ⟨rfl, h⟩ := h
    exact ⟨fs, e, h⟩
  · exact h.elim
theorem dicK_e {g : List Cell} {j : Nat} {k : List (Key × D) → Prop} (h : dicK g j k) : ∃ kvs, g[j]? = some (.dic kvs) ∧ k kvs := by
  unfold dicK at h
  split at h
  · rename_i kvs e
    exact ⟨kvs, e, h⟩
  · exact h.elim
theorem insK_i {g : List Cell} {j c : Nat} {k : List (Str × D) → Prop} {fs : List (Str × D)} (e : g[j]? = some (.ins c fs)) (h : k fs) : insK g j c k := by unfold insK; rw [e]; exact ⟨rfl, h⟩
theorem dicK_i {g : List Cell} {j : Nat} {k : List (Key × D) → Prop} {kvs : List (Key × D)} (e : g[j]? = some (.dic kvs)) (h : k kvs) : dicK g j k := by unfold dicK; rw [e]; exact h
/-- a number of the state -/
def hdK (d : D) (k : Nat → Prop) : Prop := match d with
  | .hd j => k j
  | _ => False
theorem hdK_e {d : D} {k : Nat → Prop} (h : hdK d k) : ∃ j, d = .hd j ∧ k j := by
  cases d with
  | hd j => exact ⟨j, rfl, h⟩
  | _ => exact (show False from h).elim
theorem hdK_i {j : Nat} {k : Nat → Prop} (h : k j) : hdK (.hd j) k := h
/-! reads -/
section
variable {C : Cx} {fr : Bool} {m m' : Mode} {e a b : Expr} {p q : PX} {pos pp : Pos} {f : Str} {i c : Nat} {Cc : Addr}
/-- o.f -/
def eFld (i c : Nat) (f : Str) (p : PX) : PX := fun env k => p env fun d => hdK d fun j => gsAt i env fun g => insK g j c fun fs => ∃ d', fs.lookup f = some d' ∧ k d'
theorem e_fld (i : Nat) (hcv : Tbs.cv c = .ref Cc) (hc : Cls C.K Cc) (hn : NoAttr C.K Cc f) (h : E .e C e p) (hb : attributeBase e f C.env (eval e C.env) = eval e C.env := by rfl) : E .e C (.Attribute e f pos) (eFld i c f p) := by
  obtain ⟨t, h1, h2⟩ := h
  refine ⟨_, pe_fld h1 hb, fun z X H0 H σ env Q k o ck hp => h2 z X H0 H σ env _ _ o (fun d v H1 e1 r1 hx => ?_) hp⟩
  obtain ⟨j, rfl, hx⟩ := hdK_e hx
  obtain ⟨g, hg, hl, hx⟩ := gsAt_e hx
  obtain ⟨fs, hj, d', hd, hk⟩ := insK_e hx
  obtain ⟨a, oo, rfl, _, ha, ⟨C', dx, fv, rfl, hv, hF⟩, _⟩ := (o.go e1).cell hl hg (show Is z _ H1 v (.hd j) from r1) hj
  rw [hcv] at hv
  cases hv
  obtain ⟨w, hw, iw⟩ := (hF.look f).1 d' hd
  exact ⟨a, Cc, dx, fv, w, rfl, ha, hc, hn, hw, ck d' w H1 e1 iw hk⟩
/-- a key -/
def keyK (d : D) (k : Key → Prop) : Prop := match d with
  | .str s => k (.inr s)
  | .int n => k (.inl n)
  | _ => False
theorem keyK_e {z : Zn} {M : AP} {H : Hp} {v : V} {d : D} {k : Key → Prop} (r : Is z M H v d) (h : keyK d k) : ∃ key, v = kV key ∧ k key := by
  cases d with
  | str s => cases r; exact ⟨.inr s, rfl, h⟩
  | int n => cases r; exact ⟨.inl n, rfl, h⟩
  | _ => exact (show False from h).elim
/-- d[k] -/
def eSubS (i : Nat) (p q : PX) : PX := fun env k => p env fun x => q env fun y => hdK x fun j => keyK y fun key => gsAt i env fun g => dicK g j fun kvs => ∃ d, valD kvs key = some d ∧ k d
theorem e_subS (i : Nat) (hu : C.A.units + 1 < cLine) (ha : E .e C a p) (hb : E .e C b q) (hs : NoSl b := by exact fun _ _ => rfl) : E .e C (.Subscript a b pos) (eSubS i p q) := by
  obtain ⟨ta, a1, a2⟩ := ha
  obtain ⟨tb, b1, b2⟩ := hb
  refine ⟨_, pe_dget hu a1 b1 hs, fun z X H0 H σ env Q k o ck hp => a2 z X H0 H σ env _ _ o (fun x v H1 e1 r1 hp1 => b2 z X H0 H1 σ env _ _ (o.go e1) (fun y u H2 e2 r2 hp2 => ?_) hp1) hp⟩
  obtain ⟨j, rfl, hx⟩ := hdK_e hp2
  obtain ⟨key, rfl, hx⟩ := keyK_e (show Is z _ H2 u y from r2) hx
  obtain ⟨g, hg, hl, hx⟩ := gsAt_e hx
  obtain ⟨kvs, hj, d, hd, hk⟩ := dicK_e hx
  obtain ⟨ad, oo, rfl, _, hA, ⟨vs, rfl, r⟩, _⟩ := ((o.go e1).go e2).cell hl hg (Is.evo (fun _ q => .inl q) e2 (show Is z (Ms z X σ env) H1 v (.hd j) from r1)) hj
  obtain ⟨w, hw, iw⟩ := (r.val key).2 d hd
  exact ⟨ad, w, rfl, hw ▸ DGet.k (k := key) hA, ck d w H2 (e1.trans e2) iw hk⟩
/-- k in d; None is in none -/
def keyN (d : D) (k : Option Key → Prop) : Prop := match d with
  | .str s => k (some (.inr s))
  | .int n => k (some (.inl n))
  | .non => k none
  | _ => False
def tInS (i : Nat) (neg : Bool) (p q : PX) : PTs' := fun env k => p env fun x => q env fun y => hdK y fun j => keyN x fun key => gsAt i env fun g => dicK g j fun kvs => k (xor neg ((key.bind (valD kvs)).isSome))
theorem t_inS (i : Nat) (hu : C.A.units + 1 < cLine) (ha : E .e C a p) (hb : E .e C b q) (hk : behindInMarks .In b = false := by rfl) : T C (.Compare a [.In] [b] pos) (tInS i false p q) := by
  obtain ⟨ta, a1, a2⟩ := ha
  obtain ⟨tb, b1, b2⟩ := hb
  refine ⟨_, pt_cmp (pc_dinN hu a1 b1) hk, fun z X H0 H σ env Q k o ck hp => a2 z X H0 H σ env _ _ o (fun x v H1 e1 r1 hp1 => b2 z X H0 H1 σ env _ _ (o.go e1) (fun y u H2 e2 r2 hp2 => ?_) hp1) hp⟩
  obtain ⟨j, rfl, hx⟩ := hdK_e hp2
  have r1' := Is.evo (fun _ q => .inl q) e2 (show Is z (Ms z X σ env) H1 v x from r1)
  have cell := fun (g : List Cell) (kvs : List (Key × D)) (hl : i + 1 = env.length) (hg : env[i]? = some (.gs g)) (hj : g[j]? = some (.dic kvs)) => ((o.go e1).go e2).cell hl hg (show Is z _ H2 u (.hd j) from r2) hj
  have some' : ∀ key : Key, v = kV key → (gsAt i env fun g => dicK g j fun kvs => k (xor false (((some key).bind (valD kvs)).isSome))) → (∃ a ov, u = .ref a ∧ DGet H2 a v ov ∧ ∃ b, V.bl ov.isSome = .bl b ∧ Q b H2) := fun key ev hx => by
    obtain ⟨g, hg, hl, hx⟩ := gsAt_e hx
    obtain ⟨kvs, hj, hk⟩ := dicK_e hx
    obtain ⟨ad, oo, rfl, _, hA, ⟨vs, rfl, r⟩, _⟩ := cell g kvs hl hg hj
    have hv := r.val key
    have eq : (valV vs key).isSome = (valD kvs key).isSome := by
      cases q : valD kvs key with
      | none => rw [hv.1 q]; rfl
      | some d => obtain ⟨w, hw, _⟩ := hv.2 d q; rw [hw]; rfl
    refine ⟨ad, valV vs key, rfl, by rw [ev]; exact DGet.k hA, _, rfl, ck _ H2 (e1.trans e2) ?_⟩
    rw [eq]
    simpa using hk
  cases x with
  | str s => cases r1'; exact .inl (some' (.inr s) rfl hx)
  | int n => cases r1'; exact .inl (some' (.inl n) rfl hx)
  | non =>
    cases r1'
    obtain ⟨g, hg, hl, hx⟩ := gsAt_e (show gsAt i env _ from hx)
    obtain ⟨kvs, hj, hk⟩ := dicK_e hx
    obtain ⟨ad, oo, rfl, _, hA, ⟨vs, rfl, r⟩, _⟩ := cell g kvs hl hg hj
    exact .inr ⟨ad, vs, rfl, rfl, .of hA, _, rfl, ck _ H2 (e1.trans e2) hk⟩
  | _ => exact (show False from hx).elim
theorem t_ninS (i : Nat) (hu : C.A.units + 1 < cLine) (ha : E .e C a p) (hb : E .e C b q) (hk : behindInMarks .NotIn b = false := by rfl) : T C (.Compare a [.NotIn] [b] pos) (tInS i true p q) := by
  obtain ⟨ta, a1, a2⟩ := ha
  obtain ⟨tb, b1, b2⟩ := hb
  refine ⟨_, pt_cmp (pc_dnotinN hu a1 b1) hk, fun z X H0 H σ env Q k o ck hp => a2 z X H0 H σ env _ _ o (fun x v H1 e1 r1 hp1 => b2 z X H0 H1 σ env _ _ (o.go e1) (fun y u H2 e2 r2 hp2 => ?_) hp1) hp⟩
  obtain ⟨j, rfl, hx⟩ := hdK_e hp2
  have r1' := Is.evo (fun _ q => .inl q) e2 (show Is z (Ms z X σ env) H1 v x from r1)
  have cell := fun (g : List Cell) (kvs : List (Key × D)) (hl : i + 1 = env.length) (hg : env[i]? = some (.gs g)) (hj : g[j]? = some (.dic kvs)) => ((o.go e1).go e2).cell hl hg (show Is z _ H2 u (.hd j) from r2) hj
  have some' : ∀ key : Key, v = kV key → (gsAt i env fun g => dicK g j fun kvs => k (xor true (((some key).bind (valD kvs)).isSome))) → (∃ a ov, u = .ref a ∧ DGet H2 a v ov ∧ ∃ b, V.bl (!ov.isSome) = .bl b ∧ Q b H2) := fun key ev hx => by
    obtain ⟨g, hg, hl, hx⟩ := gsAt_e hx
    obtain ⟨kvs, hj, hk⟩ := dicK_e hx
    obtain ⟨ad, oo, rfl, _, hA, ⟨vs, rfl, r⟩, _⟩ := cell g kvs hl hg hj
    have hv := r.val key
    have eq : (valV vs key).isSome = (valD kvs key).isSome := by
      cases q : valD kvs key with
      | none => rw [hv.1 q]; rfl
      | some d => obtain ⟨w, hw, _⟩ := hv.2 d q; rw [hw]; rfl
    refine ⟨ad, valV vs key, rfl, by rw [ev]; exact DGet.k hA, _, rfl, ck _ H2 (e1.trans e2) ?_⟩
    rw [eq]
    simpa using hk
  cases x with
  | str s => cases r1'; exact .inl (some' (.inr s) rfl hx)
  | int n => cases r1'; exact .inl (some' (.inl n) rfl hx)
  | non =>
    cases r1'
    obtain ⟨g, hg, hl, hx⟩ := gsAt_e (show gsAt i env _ from hx)
    obtain ⟨kvs, hj, hk⟩ := dicK_e hx
    obtain ⟨ad, oo, rfl, _, hA, ⟨vs, rfl, r⟩, _⟩ := cell g kvs hl hg hj
    exact .inr ⟨ad, vs, rfl, rfl, .of hA, _, rfl, ck _ H2 (e1.trans e2) hk⟩
  | _ => exact (show False from hx).elim
end
end Pu
/-! ### the state: statements, defs, calls -/
namespace Pu
open PySem PySem.Spec PyProof.Rows L2
variable [Tbs]
structure SimS (z : Zn) (X : AP) (H0 : Hp) (M : AP) (H : Hp) (G : Ends) (k : PK') : Prop where
  nx : ∀ z' env' σ' H', Ok z' X H0 H' σ' env' → FrS z z' M H (Ms z' X σ' env') H' → k.nx env' → G.nx σ' H'
  bk : ∀ z' env' σ' H', Ok z' X H0 H' σ' env' → FrS z z' M H (Ms z' X σ' env') H' → k.bk env' → G.bk σ' H'
  ct : ∀ z' env' σ' H', Ok z' X H0 H' σ' env' → FrS z z' M H (Ms z' X σ' env') H' → k.ct env' → G.ct σ' H'
  re : ∀ z' env' σ' d v H', Ok z' X H0 H' σ' env' → FrS z z' M H (Ms z' X σ' env') H' → Is z' (Ms z' X σ' env') H' v d → k.re env' d → G.rt v H'
theorem SimS.go {z z1 : Zn} {X : AP} {H0 : Hp} {M M1 : AP} {H H1 : Hp} {G : Ends} {k : PK'} (s : SimS z X H0 M H G k) (f : FrS z z1 M H M1 H1) : SimS z1 X H0 M1 H1 G k :=
  ⟨fun z' e σ H' o g h => s.nx z' e σ H' o (f.trans g) h, fun z' e σ H' o g h => s.bk z' e σ H' o (f.trans g) h, fun z' e σ H' o g h => s.ct z' e σ H' o (f.trans g) h, fun z' e σ d v H' o g r h => s.re z' e σ d v H' o (f.trans g) r h⟩
def RSS (t : TS) (p : PSt) : Prop := ∀ (z : Zn) (X : AP) (H0 H : Hp) (σ : Sl) (env : List SV) (G : Ends) (k : PK'), Ok z X H0 H σ env → z.live H → SimS z X H0 (Ms z X σ env) H G k → p env k → t G σ H
structure SS (C : Cx) (st : Stmt) (p : PSt) : Prop where
  ex : ∃ t, PS C st t ∧ RSS t p
structure BS (C : Cx) (st : List Stmt) (p : PSt) : Prop where
  ex : ∃ t, PSs C st t ∧ RSS t p
section
variable {C : Cx} {fr : Bool} {st : Stmt} {rest : List Stmt} {p q : PSt} {e : Expr} {pe : PX} {pm : PMX} {m : Mode} {pos pp : Pos} {x : Str}
/-- a plain statement that only goes on -/
theorem s_st (h : S fr C st p) (hn : ∀ env k, p env k → p env { nx := k.nx, rt := fun _ => False, bk := fun _ => False, ct := fun _ => False, re := fun _ _ => False } := by exact fun _ _ h => h) : SS C st p := by
  obtain ⟨t, h1, h2⟩ := h
  exact ⟨t, h1, fun z X H0 H σ env G k o lv s hp => h2 z X H0 H σ env G { nx := k.nx, rt := fun _ => False, bk := fun _ => False, ct := fun _ => False, re := fun _ _ => False } o ⟨fun env' σ' H' o' f' hk => s.nx z env' σ' H' o' (f'.toS lv) hk, fun _ _ _ _ _ _ h => h.elim, fun _ _ _ _ _ h => h.elim, fun _ _ _ _ _ h => h.elim, fun _ _ _ _ _ _ _ h => h.elim⟩ (hn _ _ hp)⟩
theorem bs_nil : BS C [] sNext := ⟨_, pss_nil, fun z X H0 H σ env G k o lv s h => s.nx z env σ H o (Fr.refl.toS lv) h⟩
theorem bs_cons (h : SS C st p) (g : BS C rest q) : BS C (st :: rest) (sSeq p q) := by
  obtain ⟨t, h1, h2⟩ := h
  obtain ⟨u, g1, g2⟩ := g
  exact ⟨_, pss_cons h1 g1, fun z X H0 H σ env G k o lv s hp => h2 z X H0 H σ env _ { k with nx := fun env' => q env' k } o lv ⟨fun z' env' σ' H' o' f' hx => g2 z' X H0 H' σ' env' G k o' f'.live (s.go f') hx, s.bk, s.ct, s.re⟩ hp⟩
theorem bs_one (h : SS C st p) : BS C [st] p := let ⟨t, h1, h2⟩ := h; ⟨t, pss_one h1, h2⟩
theorem bs_frz (i : Nat) {sts : List Stmt} (h : BS C sts p) : BS C sts (sFrz i p) := by
  obtain ⟨t, h1, h2⟩ := h
  refine ⟨t, h1, fun z X H0 H σ env G k o lv s hp => ?_⟩
  obtain ⟨o2, f2⟩ := o.frz i
  exact h2 z X H0 H σ _ G k o2 lv (s.go (f2.toS lv)) hp
theorem ss_if {c : Expr} {a b : List Stmt} {tc : PTs'} (h : T C c tc) (ha : BS C a p) (hb : BS C b q) : SS C (.If c a b pos) (sIf tc p q) := by
  obtain ⟨t, h1, h2⟩ := h
  obtain ⟨ta, a1, a2⟩ := ha
  obtain ⟨tb, b1, b2⟩ := hb
  refine ⟨_, ps_if h1 a1 b1, fun z X H0 H σ env G k o lv s hp => h2 z X H0 H σ env _ _ o (fun x H1 e1 hx => ?_) hp⟩
  have f1 := (o.fr e1).toS lv
  cases x with
  | true => exact a2 z X H0 H1 σ env G k (o.go e1) f1.live (s.go f1) hx
  | false => exact b2 z X H0 H1 σ env G k (o.go e1) f1.live (s.go f1) hx
def sIfM (c : PMT) (p q : PSt) : PSt := fun env k => c env fun env1 b => if b = true then p env1 k else q env1 k
theorem ss_ifM {c : Expr} {a b : List Stmt} {tc : PMT} (h : MTS C c tc) (ha : BS C a p) (hb : BS C b q) : SS C (.If c a b pos) (sIfM tc p q) := by
  obtain ⟨t, h1, h2⟩ := h
  obtain ⟨ta, a1, a2⟩ := ha
  obtain ⟨tb, b1, b2⟩ := hb
  refine ⟨_, ps_if h1 a1 b1, fun z X H0 H σ env G k o lv s hp => h2 z X H0 H σ env _ _ o lv (fun z1 x H1 env1 o1 f1 hx => ?_) hp⟩
  cases x with
  | true => exact a2 z1 X H0 H1 σ env1 G k o1 f1.live (s.go f1) hx
  | false => exact b2 z1 X H0 H1 σ env1 G k o1 f1.live (s.go f1) hx
theorem ss_setM {i : Nat} (h : MS C e pm) (hN : C.N.Nodup) (hi : C.N[i]? = some x) (hx : Loc C.env.scope x) (hs : swapsWith e (some (.Name x pp)) pos.line C.env = pure false := by rfl) (hf : C.fn x = true ∨ C.env.scope.names.lookup x = some .local := by first | exact .inl rfl | exact .inr rfl | assumption) :
    SS C (.Assign [.Name x pp] e pos) (sSetM i pm) := by
  obtain ⟨t, h1, h2⟩ := h
  refine ⟨_, ps_set hN hi hx h1 hs hf, fun z X H0 H σ env G k o lv s hp => h2 z X H0 H σ env _ _ o lv (fun z1 d v H1 env1 o1 f1 r1 hx => ?_) hp⟩
  obtain ⟨o2, f2⟩ := o1.set (i := i) r1
  exact s.nx z1 _ _ H1 o2 (f1.trans (f2.toS f1.live)) hx
def sAsgM (p : PMX) (g : PGt) : PSt := fun env k => p env fun env1 d => g d env1 k.nx
theorem ss_asgM {tg : Expr} {js : List Nat} {g : TG} {pg : PGt} (h : MS C e pm) (hg : G C tg js g pg) (hs : swapsWithSole [tg] e pos.line C.env = pure false := by rfl) (hw : swappedStores [tg] e C.env = pure none := by rfl)
    (h1 : (assignEach [tg] C.env).map (·.2) = [assign tg C.env] := by rfl) : SS C (.Assign [tg] e pos) (sAsgM pm pg) := by
  obtain ⟨t, a1, a2⟩ := h
  refine ⟨_, ps_asg a1 hg.pg hs hw h1, fun z X H0 H σ env G k o lv s hp => a2 z X H0 H σ env _ _ o lv (fun z1 d v H1 env1 o1 f1 r1 hx => ?_) hp⟩
  exact hg.rg z1 X H0 H1 σ env1 v d _ _ o1 r1 (fun env' σ' o' f' _ hy => s.nx z1 env' σ' H1 o' (f1.trans (f'.toS f1.live)) hy) hx
def sDropM (p : PMX) : PSt := fun env k => p env fun env1 _ => k.nx env1
theorem ss_exprM (h : MS C e pm) (hs : swapsWith e none pos.line C.env = pure false := by rfl) : SS C (.Expr e pos) (sDropM pm) := by
  obtain ⟨t, h1, h2⟩ := h
  exact ⟨_, ps_expr h1 hs, fun z X H0 H σ env G k o lv s hp => h2 z X H0 H σ env _ _ o lv (fun z1 d v H1 env1 o1 f1 r1 hx => s.nx z1 env1 σ H1 o1 f1 hx) hp⟩
def sRetS (p : PMX) : PSt := fun env k => p env fun env1 d => k.re env1 d
theorem ss_ret (h : MS C e pm) : SS C (.Return (some e) pos) (sRetS pm) := by
  obtain ⟨t, h1, h2⟩ := h
  exact ⟨_, ps_ret h1, fun z X H0 H σ env G k o lv s hp => h2 z X H0 H σ env _ _ o lv (fun z1 d v H1 env1 o1 f1 r1 hx => s.re z1 env1 σ d v H1 o1 f1 r1 hx) hp⟩
/-! loops -/
def YieldsS (z : Zn) (M : AP) (H : Hp) (J : It) (ds : List D) : Prop := ∀ z' M' H', FrS z z' M H M' H' → J.stop ds.length H' ∧
  ∀ i d, ds[i]? = some d → J.go i H' ∧ ∀ x H2, J.yld i H' x H2 → Evo z' H' H2 ∧ ((∀ a, z'.Z a → M' a) → (∀ b, H' b = none → ¬ M' b) → Is z' M' H2 x d)
def RIS (wi : TI) (p : PIt) : Prop := ∀ (z : Zn) (X : AP) (H0 H : Hp) (σ : Sl) (env : List SV) (R : It → Hp → Prop) (k : List D → Prop), Ok z X H0 H σ env → z.live H →
  (∀ ds J H', Evo z H H' → YieldsS z (Ms z X σ env) H' J ds → k ds → R J H') → p env k → wi σ H R
structure IS (C : Cx) (tg it : Expr) (p : PIt) : Prop where
  ex : ∃ wi, PI C tg it wi ∧ RIS wi p
/-- a loop of a def of the state: it may return within -/
def forS (g : PGt) (body : PSt) : List D → PSt
  | [], env, k => k.nx env
  | d :: ds, env, k => g d env fun env1 => body env1 { nx := fun env2 => forS g body ds env2 k, rt := k.rt, bk := k.nx, ct := fun env2 => forS g body ds env2 k, re := k.re }
def sForS (it : PIt) (g : PGt) (body : PSt) : PSt := fun env k => it env fun ds => forS g body ds env k
theorem rss_for {wi : TI} {pi : PIt} {js : List Nat} {g : TG} {pg : PGt} {tb : TS} {pb : PSt} (hi : RIS wi pi) (hg : RG js g pg) (hb : RSS tb pb) : RSS (tFor wi g tb) (sForS pi pg pb) := fun z X H0 H σ env G k o lv s hp => by
  refine hi z X H0 H σ env _ _ o lv (fun ds J H1 e1 yl hx => ?_) hp
  have f1 := (o.fr e1).toS lv
  have o1 := o.go e1
  refine ⟨fun i mm σ' H' => mm = ds.length - i ∧ i ≤ ds.length ∧ ∃ z' env', Ok z' X H0 H' σ' env' ∧ FrS z z' (Ms z X σ env) H1 (Ms z' X σ' env') H' ∧ forS pg pb (ds.drop i) env' k, ⟨ds.length, by simp, Nat.zero_le _, z, env, o1, Fr.refl.toS f1.live, by simpa using hx⟩, ?_⟩
  rintro i mm σ' H' ⟨rfl, hil, z', env', o', f', hf⟩
  obtain ⟨y1, y2⟩ := yl z' _ _ f'
  by_cases hlt : i < ds.length
  · obtain ⟨go, y3⟩ := y2 i ds[i] (List.getElem?_eq_getElem hlt)
    rw [List.drop_eq_getElem_cons hlt] at hf
    refine .inr ⟨go, fun σ2 H2 => ∃ z2 env2, Ok z2 X H0 H2 σ2 env2 ∧ FrS z z2 (Ms z X σ env) H1 (Ms z2 X σ2 env2) H2 ∧ forS pg pb (ds.drop (i + 1)) env2 k, fun σ2 H2 h2 => ⟨ds.length - (i + 1), by omega, rfl, hlt, h2⟩, fun x H2 hy => ?_⟩
    obtain ⟨e2, is⟩ := y3 x H2 hy
    have o2 := o'.go e2
    have f2 := f'.trans ((o'.fr e2).toS f'.live)
    refine hg z' X H0 H2 σ' env' x _ _ _ o2 (is (fun a q => .inl q) (fun b q => o'.notMs q)) (fun env3 σ3 o3 f3 _ hx3 => ?_) hf
    have f23 := f2.trans (f3.toS f2.live)
    exact hb z' X H0 H2 σ3 env3 _ { nx := fun env2 => forS pg pb (ds.drop (i + 1)) env2 k, rt := k.rt, bk := k.nx, ct := fun env2 => forS pg pb (ds.drop (i + 1)) env2 k, re := k.re } o3 f23.live ⟨fun z4 env4 σ4 H4 o4 f4 hx4 => ⟨z4, env4, o4, f23.trans f4, hx4⟩, fun z4 env4 σ4 H4 o4 f4 hx4 => s.nx z4 env4 σ4 H4 o4 (f1.trans (f23.trans f4)) hx4, fun z4 env4 σ4 H4 o4 f4 hx4 => ⟨z4, env4, o4, f23.trans f4, hx4⟩, fun z4 env4 σ4 d v H4 o4 f4 r4 hx4 => s.re z4 env4 σ4 d v H4 o4 (f1.trans (f23.trans f4)) r4 hx4⟩ hx3
  · have ei : i = ds.length := by omega
    subst ei
    rw [List.drop_length] at hf
    exact .inl ⟨y1, s.nx z' env' σ' H' o' (f1.trans f') hf⟩
theorem ss_for {tg iter : Expr} {body : List Stmt} {pi : PIt} {js : List Nat} {g : TG} {pg : PGt} {pb : PSt} (hi : IS C tg iter pi) (hg : G C tg js g pg) (hb : BS C body pb) (hp : PassesOwn (model C.prog C.w) C.A C.env C.xe) (hc : C.calm = true) (hs : ∀ x, foldedSetIterable iter C.env x = pure x := by intro _; rfl) :
    SS C (.For tg iter body [] pos) (sForS pi pg pb) := by
  obtain ⟨wi, i1, i2⟩ := hi
  obtain ⟨tb, b1, b2⟩ := hb
  exact ⟨_, ps_for hp hc i1 hg.pg b1 hs, rss_for i2 hg.rg b2⟩
theorem yls_tup {z : Zn} {M : AP} {H : Hp} {K : PySem.W.Frag} {a : Addr} {vs : List V} {ds : List D} (h : H a = some (.tup vs)) (n : ¬ M a) (r : IsA z M H vs ds) : YieldsS z M H (Itt K a) ds := fun z' M' H' f => by
  have h' := (f.old a _ h n).1
  have r' := f.isA r
  refine ⟨⟨vs, SqT.of h', by rw [r'.length]; exact Nat.le_refl _⟩, fun i d hd => ?_⟩
  obtain ⟨v, h1, h2⟩ := r'.get hd
  refine ⟨⟨vs, v, SqT.of h', h1⟩, fun x H2 y => ?_⟩
  obtain ⟨rfl, y⟩ := y
  refine ⟨Evo.refl _ _, fun _ _ => ?_⟩
  have e := y vs (SqT.of h')
  rw [h1] at e
  cases e
  exact h2
theorem yls_lst {z : Zn} {M : AP} {H : Hp} {K : PySem.W.Frag} {a : Addr} {vs : List V} {ds : List D} (h : H a = some (.lst vs)) (n : ¬ M a) (r : IsA z M H vs ds) : YieldsS z M H (Itl K a) ds := fun z' M' H' f => by
  have h' := (f.old a _ h n).1
  have r' := f.isA r
  refine ⟨⟨vs, SqL.of h', by rw [r'.length]; exact Nat.le_refl _⟩, fun i d hd => ?_⟩
  obtain ⟨v, h1, h2⟩ := r'.get hd
  refine ⟨⟨vs, v, SqL.of h', h1⟩, fun x H2 y => ?_⟩
  obtain ⟨rfl, y⟩ := y
  refine ⟨Evo.refl _ _, fun _ _ => ?_⟩
  have e := y vs (SqL.of h')
  rw [h1] at e
  cases e
  exact h2
theorem is_seq {tg : Expr} (h : E .e C e pe) : IS C tg e (iSeq pe) := by
  obtain ⟨t, h1, h2⟩ := h
  refine ⟨_, pi_seq h1, fun z X H0 H σ env R k o lv c hp => h2 z X H0 H σ env _ _ o (fun d v H1 e1 r1 hx => ?_) hp⟩
  cases (show Is z _ H1 v d from r1) with
  | lst e n r => exact .inl ⟨_, rfl, ⟨_, SqL.of e⟩, c _ _ H1 e1 (yls_lst e n r) hx⟩
  | tup e n r => exact .inr ⟨_, rfl, ⟨_, SqT.of e⟩, c _ _ H1 e1 (yls_tup e n r) hx⟩
  | _ => exact (show False from hx).elim
theorem yls_rng {z : Zn} {M : AP} {H : Hp} {lo : Int} {n : Nat} : YieldsS z M H (Itr lo n) (rangeD lo n) := fun z' M' H' f => by
  refine ⟨(by show n ≤ (rangeD lo n).length; simp [rangeD]), fun i d hd => ?_⟩
  have hi : i < n := by
    have := (List.getElem?_eq_some_iff.mp hd).1
    simpa [rangeD] using this
  refine ⟨hi, fun x H2 y => ?_⟩
  obtain ⟨rfl, rfl⟩ := y
  refine ⟨Evo.refl _ _, fun _ _ => ?_⟩
  have e : d = .int (lo + (i : Nat)) := by simpa [rangeD, hi, List.getElem?_map, List.getElem?_range] using hd.symm
  rw [e]
  exact Is.int _
theorem is_range1 {tg a : Expr} {ga : PAs} {l : Bool} (ha : A l C [a] ga) (hg : Gl C "range") (hm : C.mg "range" = none) (hs : starEach [a] C.env = [(false, eval a C.env)] := by rfl) : IS C tg (.Call (.Name "range" pp) [a] [] pos) (iRange1 ga) := by
  obtain ⟨t, h1, h2⟩ := ha
  refine ⟨_, pi_range1 hg hm h1 hs, fun z X H0 H σ env R k o lv c hp => h2 z X H0 H σ env _ _ o (fun ds vs H1 e1 r1 hx => ?_) hp⟩
  unfold rgK1 at hx
  split at hx
  · rename_i j
    cases IsA.ints (ns := [_]) r1
    exact ⟨j, rfl, by omega, by omega, c _ _ H1 e1 yls_rng hx.2.2⟩
  · exact hx.elim
def whileS (c : PMT) (body : PSt) (k : PK') : Nat → List SV → Prop
  | 0, _ => False
  | n + 1, env => c env fun env1 b => if b = true then body env1 { nx := whileS c body k n, rt := k.rt, bk := k.nx, ct := whileS c body k n, re := k.re } else k.nx env1
def sWhileS (c : PMT) (body : PSt) : PSt := fun env k => ∃ n, whileS c body k n env
theorem ss_while {c : Expr} {body : List Stmt} {pc : PMT} {pb : PSt} (h : MTS C c pc) (g : BS C body pb) (hp : PassesOwn (model C.prog C.w) C.A C.env C.xe) : SS C (.While c body [] pos) (sWhileS pc pb) := by
  obtain ⟨t, h1, h2⟩ := h
  obtain ⟨u, g1, g2⟩ := g
  refine ⟨_, ps_while hp h1 g1, fun z X H0 H σ env G k o lv s hw => ?_⟩
  obtain ⟨n, hw⟩ := hw
  refine ⟨fun mm σ' H' => ∃ z' env', Ok z' X H0 H' σ' env' ∧ FrS z z' (Ms z X σ env) H (Ms z' X σ' env') H' ∧ whileS pc pb k mm env', ⟨n, z, env, o, Fr.refl.toS lv, hw⟩, ?_⟩
  rintro mm σ' H' ⟨z', env', o', f', hw'⟩
  cases mm with
  | zero => exact hw'.elim
  | succ mm =>
    refine h2 z' X H0 H' σ' env' _ _ o' f'.live (fun z1 b H1 env1 o1 f1' hx => ?_) hw'
    have f1 := f'.trans f1'
    cases b with
    | true =>
      rw [if_pos rfl] at hx ⊢
      refine ⟨fun σ2 H2 => ∃ z2 env2, Ok z2 X H0 H2 σ2 env2 ∧ FrS z z2 (Ms z X σ env) H (Ms z2 X σ2 env2) H2 ∧ whileS pc pb k mm env2, fun σ2 H2 q => ⟨mm, Nat.lt_succ_self _, q⟩, ?_⟩
      exact g2 z1 X H0 H1 σ' env1 _ { nx := whileS pc pb k mm, rt := k.rt, bk := k.nx, ct := whileS pc pb k mm, re := k.re } o1 f1.live ⟨fun z2 env2 σ2 H2 o2 f2 hx2 => ⟨z2, env2, o2, f1.trans f2, hx2⟩, fun z2 env2 σ2 H2 o2 f2 hx2 => s.nx z2 env2 σ2 H2 o2 (f1.trans f2) hx2, fun z2 env2 σ2 H2 o2 f2 hx2 => ⟨z2, env2, o2, f1.trans f2, hx2⟩, fun z2 env2 σ2 d v H2 o2 f2 r2 hx2 => s.re z2 env2 σ2 d v H2 o2 (f1.trans f2) r2 hx2⟩ hx
    | false =>
      rw [if_neg Bool.false_ne_true] at hx ⊢
      exact s.nx z1 env1 σ' H1 o1 f1 hx
end
/-! ### defs -/
/-- the promise of a def of the state -/
def SfS (n : Nat) (wp : List D → List Cell → (D → List Cell → Prop) → Prop) : Sp := fun vs H Q _ => ∃ (z : Zn) (X : AP) (ds : List D) (g : List Cell) (k : D → List Cell → Prop), vs.length = n ∧ ((∀ a, z.Z a → H a ≠ none) ∧ Tabs H) ∧ (∀ a, X a → H a ≠ none ∧ ¬ z.Z a) ∧ IsA z (Zx z X) H vs ds ∧ StOk z (Zx z X) H g ∧ wp ds g k ∧
  ∀ z' d g' v H', EvoS z z' H H' → StOk z' (Zx z' X) H' g' → Is z' (Zx z' X) H' v d → k d g' → Q v H'
def reS (n : Nat) (k : D → List Cell → Prop) (env : List SV) (d : D) : Prop := env.length = n ∧ gsAt (n - 1) env fun g => k d g
def envS (n : Nat) (ds : List D) (g : List Cell) : List SV := ds.map SV.val ++ (List.replicate (n - 1 - ds.length) SV.no ++ [SV.gs g])
def wpOfS (n : Nat) (p : PSt) : List D → List Cell → (D → List Cell → Prop) → Prop := fun ds g k => p (envS n ds g) { nx := fun env => reS n k env .non, rt := fun _ => False, re := fun env d => reS n k env d }
theorem start_okS {z : Zn} {X : AP} {H : Hp} {N : List Str} {vs : List V} {ds : List D} {g : List Cell} (hz : (∀ a, z.Z a → H a ≠ none) ∧ Tabs H) (hx : ∀ a, X a → H a ≠ none ∧ ¬ z.Z a) (hA : IsA z (Zx z X) H vs ds) (hs : StOk z (Zx z X) H g) (hn : ds.length < N.length) :
    Ok z X H H (L2.start N vs) (envS N.length ds g) := by
  have hl := hA.length
  have el : ∀ (i : Nat) (s : SV), (envS N.length ds g)[i]? = some s → (∃ d, ds[i]? = some d ∧ s = .val d) ∨ s = .no ∨ s = .gs g := fun i s h => by
    unfold envS at h
    by_cases hi : i < ds.length
    · rw [List.getElem?_append_left (by simpa using hi), List.getElem?_map] at h
      cases q : ds[i]? with
      | none => rw [q] at h; cases h
      | some x => rw [q] at h; cases h; exact .inl ⟨x, rfl, rfl⟩
    · rw [List.getElem?_append_right (by simpa using hi)] at h
      have hm := List.mem_of_getElem? h
      rcases List.mem_append.mp hm with hm | hm
      · exact .inr (.inl (List.mem_replicate.mp hm).2)
      · simp at hm; exact .inr (.inr hm)
  have no : ∀ (i : Nat) (d : D), (envS N.length ds g)[i]? = some (.own d) → False := fun i d h => by
    rcases el i _ h with ⟨x, _, q⟩ | q | q <;> cases q
  have ms : ∀ a, Ms z X (L2.start N vs) (envS N.length ds g) a → Zx z X a := by
    rintro a (h | h | ⟨i, d, h1, _⟩)
    · exact .inl h
    · exact .inr h
    · exact (no i d h1).elim
  refine ⟨by unfold L2.start envS; simp [hl]; omega, Evo.refl _ _, hz.1, hx, fun i d h => ?_, fun i d h => (no i d h).elim, fun i j a d e h _ _ _ => (no i d h).elim, hz.2, fun i g' _ h => ?_⟩
  · rcases el i _ h with ⟨x, hx, q⟩ | q | q
    · cases q
      obtain ⟨v, h1, h2⟩ := hA.get hx
      refine ⟨v, ?_, h2.weak ms⟩
      have hi : i < vs.length := (List.getElem?_eq_some_iff.mp h1).1
      unfold L2.start
      rw [List.getElem?_append_left (by simpa using hi), List.getElem?_map, h1]
      rfl
    · cases q
    · cases q
  · rcases el i _ h with ⟨x, _, q⟩ | q | q
    · cases q
    · cases q
    · cases q
      exact hs.gen (fun b u q n => ⟨q, fun w => n (ms b w)⟩) fun _ h => h
theorem no_own {n : Nat} {ds : List D} {g : List Cell} (i : Nat) (d : D) : (envS n ds g)[i]? ≠ some (.own d) := fun h => by
  have hm := List.mem_of_getElem? h
  unfold envS at hm
  simp only [List.mem_append, List.mem_map, List.mem_replicate, List.mem_cons, List.not_mem_nil, or_false] at hm
  rcases hm with ⟨x, _, q⟩ | ⟨_, q⟩ | q <;> cases q
/-- a def's end -/
theorem end_okS {z z' : Zn} {X : AP} {H H' : Hp} {σ σ' : Sl} {env env' : List SV} {n : Nat} {k : D → List Cell → Prop} {Q : VK} {v : V} {d : D} (hno : ∀ (i : Nat) (d : D), env[i]? ≠ some (.own d)) (o : Ok z' X H H' σ' env') (f : FrS z z' (Ms z X σ env) H (Ms z' X σ' env') H') (r : Is z' (Ms z' X σ' env') H' v d) (h : reS n k env' d)
    (c : ∀ z' d g' v H', EvoS z z' H H' → StOk z' (Zx z' X) H' g' → Is z' (Zx z' X) H' v d → k d g' → Q v H') : Q v H' := by
  obtain ⟨hl, h⟩ := h
  obtain ⟨g, hg, hl2, hk⟩ := gsAt_e h
  have sub : ∀ a, Zx z' X a → Ms z' X σ' env' a := fun a q => q.ms
  have zz : ∀ a, z'.Z a → z.Z a ∨ H a = none := fun a w => by
    rcases f.zz a w with (q | q | ⟨i, d, q, _⟩) | q
    · exact .inl q
    · exact absurd w (o.xal a q).2
    · exact absurd q (hno i d)
    · exact .inr q
  refine c z' d g v H' ⟨(fun a ob q n => o.evo.old a ob q fun w => (zz a w).elim n (fun w => by rw [q] at w; cases w)), f.al, o.evo.tab, f.live, f.gr, zz, f.fz⟩ ((o.gs _ g hl2 hg).gen (fun b u q n => ⟨q, fun w => n (sub b w)⟩) fun _ h => h) (r.weak sub) hk
section
variable {P : Program} {w : World} {K : PySem.W.Frag} {mg : Str → Option Value} {base : Heap}
theorem fn_okS {x qual : Str} {st : Stmt} {f : Addr} {fd : FuncData} {N ps : List Str} {k : Nat} {p : PSt} (F : Fun K x qual st f fd) (S : FnScope N ps (defScope st)) (hN : ps.length < N.length)
    (hb : ∀ (cdv : Value) (A : Around) (outer : List Env) (s : Shared) (H : Hp) (E : XK), Room k (A.deeper (envOfC qual (defScope st) s.heap.objs.size f cdv)) → BS (cxOf CX0 P w K mg base N qual (defScope st) f cdv A outer s H E).nox (defBody st) p) :
    FnOk P w K mg base CX0 (k + 1) f fd ps (SfS ps.length (wpOfS N.length p)) := by
  refine F.ok S (fun vs H Q E h => ?_) (fun cdv A outer s H vs Q E hr h => ?_)
  · obtain ⟨z, X, ds, g, kk, hl, _⟩ := h
    exact hl
  · obtain ⟨z, X, ds, g, kk, hl, hz, hx, hA, hs, hw, c⟩ := h
    obtain ⟨t, b1, b2⟩ := hb cdv A outer s H E hr
    exact ⟨t, b1, b2 z X H H (L2.start N vs) _ _ { nx := fun env => reS N.length kk env .non, rt := fun _ => False, re := fun env d => reS N.length kk env d } (start_okS hz hx hA hs (by rw [← hA.length, hl]; exact hN)) hs.live ⟨fun z' env' σ' H' o' f' hk => end_okS no_own o' f' .non hk c, fun _ _ _ _ _ _ hk => hk.elim, fun _ _ _ _ _ _ hk => hk.elim, fun z' env' σ' d v H' o' f' r' hk => end_okS no_own o' f' r' hk c⟩ hw⟩
theorem fn_okSD {x qual : Str} {st : Stmt} {f : Addr} {fd : FuncData} {N ps : List Str} {k : Nat} {p : PSt} {dvs : List V} (F : FunD K x qual (defArgs st) (defBody st) (defScope st) dvs [] f fd) (S : FnScope N ps (defScope st)) (hN : ps.length < N.length)
    (hb : ∀ (cdv : Value) (A : Around) (outer : List Env) (s : Shared) (H : Hp) (E : XK), Room k (A.deeper (envOfC qual (defScope st) s.heap.objs.size f cdv)) → BS (cxOf CX0 P w K mg base N qual (defScope st) f cdv A outer s H E).nox (defBody st) p) :
    FnOk P w K mg base CX0 (k + 1) f fd ps (SfS ps.length (wpOfS N.length p)) := by
  refine F.ok S (fun vs H Q E h => ?_) (fun cdv A outer s H vs Q E hr h => ?_)
  · obtain ⟨z, X, ds, g, kk, hl, _⟩ := h
    exact hl
  · obtain ⟨z, X, ds, g, kk, hl, hz, hx, hA, hs, hw, c⟩ := h
    obtain ⟨t, b1, b2⟩ := hb cdv A outer s H E hr
    exact ⟨t, b1.nox, b2 z X H H (L2.start N vs) _ _ { nx := fun env => reS N.length kk env .non, rt := fun _ => False, re := fun env d => reS N.length kk env d } (start_okS hz hx hA hs (by rw [← hA.length, hl]; exact hN)) hs.live ⟨fun z' env' σ' H' o' f' hk => end_okS no_own o' f' .non hk c, fun _ _ _ _ _ _ hk => hk.elim, fun _ _ _ _ _ _ hk => hk.elim, fun z' env' σ' d v H' o' f' r' hk => end_okS no_own o' f' r' hk c⟩ hw⟩
end
/-! ### calls -/
section
variable {C : Cx} {e o : Expr} {es : List Expr} {ga : PMA} {po : PX} {k n c : Nat} {pos pp apos : Pos} {x m : Str} {f Cc : Addr} {fd : FuncData} {ps : List Str} {wp : List D → List Cell → (D → List Cell → Prop) → Prop} {dvs : List V} {dds : List D} {ds0 : List Value}
/-- the defaults show what they are -/
def Dflt (dvs : List V) (dds : List D) : Prop := ∀ (z : Zn) (M : AP) (H : Hp), IsA z M H dvs dds
theorem dflt0 : Dflt [] [] := fun _ _ _ => .nil
theorem ms_own {z : Zn} {X : AP} {σ : Sl} {env : List SV} {i : Nat} {g g' : List Cell} (hg : env[i]? = some (.gs g)) {a : Addr} (h : Ms z X σ (env.set i (.gs g')) a) : Zx z (Ox X σ env) a := by
  rcases h with h | h | ⟨j, d, h1, h2⟩
  · exact .inl h
  · exact .inr (.inl h)
  · by_cases hj : i = j
    · subst hj
      rw [List.getElem?_set_self (List.getElem?_eq_some_iff.mp hg).1] at h1
      cases h1
    · rw [List.getElem?_set_ne hj] at h1
      exact .inr (.inr ⟨j, d, h1, h2⟩)
/-- a promise of the state is met at a frame -/
theorem sf_at {z : Zn} {X : AP} {H0 H : Hp} {σ : Sl} {env : List SV} {i : Nat} {g : List Cell} {vs : List V} {ds : List D} {Q : VK} {E' : XK} {kk : List SV → D → Prop} (o : Ok z X H0 H σ env) (hl : i + 1 = env.length) (hg : env[i]? = some (.gs g)) (r : IsA z (Ms z X σ env) H vs ds)
    (hn : ds.length = n) (hw : wp ds g fun d g' => kk (env.set i (.gs g')) d) (c : ∀ z' d v H' env', Ok z' X H0 H' σ env' → FrS z z' (Ms z X σ env) H (Ms z' X σ env') H' → Is z' (Ms z' X σ env') H' v d → kk env' d → Q v H') : SfS n wp vs H Q E' := by
  refine ⟨z, Ox X σ env, ds, g, _, by rw [r.length]; exact hn, ⟨o.zal, o.tab⟩, fun a => o.ox, r.weak fun a q => zx_ox.mp q, (o.gs i g hl hg).gen (fun b u q n => ⟨q, fun w => n (zx_ox.mp w)⟩) (fun _ h => h), hw, fun z' d g' v H' ev st r' hk => ?_⟩
  obtain ⟨o2, f2⟩ := o.stt hl hg ev (st.gen (fun b u q n => ⟨q, fun w => n (zx_ox.mpr w)⟩) fun _ h => h)
  exact c z' d v H' _ o2 f2 (r'.weak fun a q => ms_own hg q) hk
def mCallS (i n : Nat) (dds : List D) (wp : List D → List Cell → (D → List Cell → Prop) → Prop) (ga : PMA) : PMX := fun env k => ga env fun env1 ds => gsAt i env1 fun g => (ds ++ dds).length = n ∧ wp (ds ++ dds) g fun d g' => k (env1.set i (.gs g')) d
theorem ms_call (i : Nat) (F : FnOk C.prog C.w C.K C.mg C.base CX0 k f fd ps (SfS n wp)) (hr : Room k C.A) (hg : Gl C x) (hm : C.mg x = some (.ref f)) (hk : PySem.W.keepIn C.K (.ref f) = true) (hb : Binds C.K fd ps ds0) (hd : Vals dvs ds0) (hdd : Dflt dvs dds)
    (ha : MAS C (e :: es) ga) (hdb : (x == ("__debug__" : Str)) = false := by decide) (he : starEach (e :: es) C.env = (false, eval e C.env) :: starEach es C.env := by rfl) (hpl : (backTo pos (starEach es C.env)).any (·.1) = false := by rfl) :
    MS C (.Call (.Name x pp) (e :: es) [] pos) (mCallS i n dds wp ga) := by
  obtain ⟨t, h1, h2⟩ := ha
  refine ⟨_, pe_call F hr hg hm hk hb hd pass0 h1 hdb he hpl, fun z X H0 H σ env Q kk o lv ck hp => h2 z X H0 H σ env _ _ o lv (fun z1 ds vs H1 env1 o1 f1 r1 hx => ?_) hp⟩
  obtain ⟨g, hg1, hl, hn, hw⟩ := gsAt_e hx
  exact sf_at o1 hl hg1 (r1.append (hdd _ _ _)) hn hw fun z' d v H' env' o' f' r' hk' => ck z' d v H' env' o' (f1.trans f') r' hk'
/-- f() -/
def mCallS0 (i n : Nat) (dds : List D) (wp : List D → List Cell → (D → List Cell → Prop) → Prop) : PMX := fun env k => gsAt i env fun g => dds.length = n ∧ wp dds g fun d g' => k (env.set i (.gs g')) d
theorem ms_call0 (i : Nat) (F : FnOk C.prog C.w C.K C.mg C.base CX0 k f fd ps (SfS n wp)) (hr : Room k C.A) (hg : Gl C x) (hm : C.mg x = some (.ref f)) (hk : PySem.W.keepIn C.K (.ref f) = true) (hb : Binds C.K fd ps ds0) (hd : Vals dvs ds0) (hdd : Dflt dvs dds)
    (hdb : (x == ("__debug__" : Str)) = false := by decide) : MS C (.Call (.Name x pp) [] [] pos) (mCallS0 i n dds wp) := by
  refine ⟨_, pe_call0 F hr hg hm hk hb hd pass0 hdb, fun z X H0 H σ env Q kk o lv ck hp => ?_⟩
  obtain ⟨g, hg1, hl, hn, hw⟩ := gsAt_e hp
  exact sf_at (E' := E0) o hl hg1 (hdd _ _ _) hn hw ck
def mMethS (i n c : Nat) (m : Str) (dds : List D) (wp : List D → List Cell → (D → List Cell → Prop) → Prop) (po : PX) (ga : PMA) : PMX := fun env k => po env fun d0 => hdK d0 fun j => (gsAt i env fun g => insK g j c fun fs => fs.lookup m = none) ∧
  ga env fun env1 ds => gsAt i env1 fun g => (D.hd j :: (ds ++ dds)).length = n ∧ wp (.hd j :: (ds ++ dds)) g fun d g' => k (env1.set i (.gs g')) d
theorem ms_meth (i : Nat) {pl : Sem Bool} (hcv : Tbs.cv c = .ref Cc) (ho : E .e C o po) (hc : Cls C.K Cc) (hm : Meth C.K Cc m f) (F : FnOk C.prog C.w C.K C.mg C.base CX0 k f fd ps (SfS n wp)) (hr : Room k C.A) (hb : Binds C.K fd ps ds0) (hd : Vals dvs ds0) (hdd : Dflt dvs dds) (ha : MAS C (e :: es) ga)
    (hst : starEach (e :: es) C.env = (false, eval e C.env) :: starEach es C.env := by rfl) (hpl : (backTo pos (starEach es C.env)).any (·.1) = false := by rfl)
    (ht : eval (.Call (.Attribute o m apos) (e :: es) [] pos) C.env = (do
      let ov ← eval o C.env
      standAt apos.atName
      let (f, first) ← holding [ov] (getMethod ov m pl)
      callWith pos f first (backTo pos (starEach (e :: es) C.env)) (backToKw pos (keywordEach [] C.env))) := by rfl) :
    MS C (.Call (.Attribute o m apos) (e :: es) [] pos) (mMethS i n c m dds wp po ga) := by
  obtain ⟨t0, p1, p2⟩ := ho
  obtain ⟨t, h1, h2⟩ := ha
  refine ⟨_, pe_meth (pl := pl) p1 hc hm F hr hb hd pass0 h1 hst hpl ht, fun z X H0 H σ env Q kk o lv ck hp => p2 z X H0 H σ env _ _ o (fun d0 v0 H1 e1 r0 hx => ?_) hp⟩
  obtain ⟨j, rfl, hfs, hx⟩ := hdK_e hx
  obtain ⟨g, hg, hl, hi⟩ := gsAt_e hfs
  obtain ⟨fs, hj, hlk⟩ := insK_e hi
  have o1 := o.go e1
  have r0 : Is z (Ms z X σ env) H1 v0 (.hd j) := r0
  obtain ⟨a, oo, rfl, _, hA, ⟨C', dx, fv, rfl, hv, hF⟩, lv1⟩ := o1.cell hl hg r0 hj
  rw [hcv] at hv
  cases hv
  refine ⟨a, dx, fv, rfl, hA, (hF.look _).2 hlk, h2 z X H0 H1 σ env _ _ o1 lv1 (fun z1 ds vs H2 env1 o2 f2 r2 hy => ?_) hx⟩
  obtain ⟨g2, hg2, hl2, hn, hw⟩ := gsAt_e hy
  exact sf_at o2 hl2 hg2 (.cons (f2.is r0) (r2.append (hdd _ _ _))) hn hw fun z' d v H' env' o' f' r' hk' => ck z' d v H' env' o' (((o.fr e1).toS lv).trans (f2.trans f')) r' hk'
/-- C(..): a new thing of the state, and its __init__ -/
def mMakeS (i n c : Nat) (dds : List D) (wp : List D → List Cell → (D → List Cell → Prop) → Prop) (ga : PMA) : PMX := fun env k => ga env fun env1 ds => gsAt i env1 fun g => (D.hd g.length :: (ds ++ dds)).length = n ∧
  wp (.hd g.length :: (ds ++ dds)) (g ++ [.ins c []]) fun d g' => d = .non ∧ k (env1.set i (.gs g')) (.hd g.length)
theorem make_at {z : Zn} {X : AP} {H0 H : Hp} {σ : Sl} {env : List SV} {i : Nat} {g : List Cell} {vs : List V} {ds : List D} {Q : VK} {E' : XK} {kk : List SV → D → Prop} (hcv : Tbs.cv c = .ref Cc) (o : Ok z X H0 H σ env) (hl : i + 1 = env.length) (hg : env[i]? = some (.gs g)) (r : IsA z (Ms z X σ env) H vs ds)
    (hn : (D.hd g.length :: ds).length = n) (hw : wp (.hd g.length :: ds) (g ++ [.ins c []]) fun d g' => d = .non ∧ kk (env.set i (.gs g')) (.hd g.length))
    (ck : ∀ z' d v H' env', Ok z' X H0 H' σ env' → FrS z z' (Ms z X σ env) H (Ms z' X σ env') H' → Is z' (Ms z' X σ env') H' v d → kk env' d → Q v H') {y dx : Addr} (hy : H y = none) (hdx : H dx = none) (ne : dx ≠ y) :
    SfS n wp (.ref y :: vs) (upd (upd H dx (.own y)) y (.ins Cc dx [])) (fun v H2 => v = .non ∧ Q (.ref y) H2) E' := by
  have e1 : Evo z H (upd (upd H dx (.own y)) y (.ins Cc dx [])) := ((Evo.refl z H).new hdx).new (by rw [upd_ne (Ne.symm ne)]; exact hy)
  obtain ⟨o2, f2, r2⟩ := o.push (c := .ins c []) hl hg e1 hy upd_same nofrz_ins.2 ⟨Cc, dx, [], rfl, hcv, rfl, .nil⟩
  have il : i < env.length := by omega
  have hg2 : (env.set i (.gs (g ++ [.ins c []])))[i]? = some (.gs (g ++ [.ins c []])) := List.getElem?_set_self il
  refine sf_at (kk := fun env' d => d = .non ∧ kk env' (.hd g.length)) o2 (by simpa using hl) hg2 (.cons r2 (f2.isA r)) hn (by simpa only [List.set_set] using hw) fun z' d v H' env' o' f' r' hk => ?_
  obtain ⟨rfl, hk⟩ := hk
  cases r'
  exact ⟨rfl, ck z' _ _ H' env' o' (f2.trans f') (f'.is r2) hk⟩
theorem ms_make (i : Nat) (hcv : Tbs.cv c = .ref Cc) (M : Mk C.K Cc f) (F : FnOk C.prog C.w C.K C.mg C.base CX0 k f fd ps (SfS n wp)) (hr : Room (k + 1) C.A) (hg : Gl C x) (hm : C.mg x = some (.ref Cc)) (hb : Binds C.K fd ps ds0) (hd : Vals dvs ds0) (hdd : Dflt dvs dds)
    (ha : MAS C (e :: es) ga) (hdb : (x == ("__debug__" : Str)) = false := by decide) (he : starEach (e :: es) C.env = (false, eval e C.env) :: starEach es C.env := by rfl) (hpl : (backTo pos (starEach es C.env)).any (·.1) = false := by rfl) :
    MS C (.Call (.Name x pp) (e :: es) [] pos) (mMakeS i n c dds wp ga) := by
  obtain ⟨t, h1, h2⟩ := ha
  refine ⟨_, pe_make M F hr hg hm hb hd pass0 h1 hdb he hpl, fun z X H0 H σ env Q kk o lv ck hp => h2 z X H0 H σ env _ _ o lv (fun z1 ds vs H1 env1 o1 f1 r1 hx => ?_) hp⟩
  obtain ⟨g, hg1, hl, hn, hw⟩ := gsAt_e hx
  intro y dx hy hdx ne
  exact make_at hcv o1 hl hg1 (r1.append (hdd _ _ _)) hn hw (fun z' d v H' env' o' f' r' hk' => ck z' d v H' env' o' (f1.trans f') r' hk') hy hdx ne
def mMakeS0 (i n c : Nat) (dds : List D) (wp : List D → List Cell → (D → List Cell → Prop) → Prop) : PMX := fun env k => gsAt i env fun g => (D.hd g.length :: dds).length = n ∧
  wp (.hd g.length :: dds) (g ++ [.ins c []]) fun d g' => d = .non ∧ k (env.set i (.gs g')) (.hd g.length)
theorem ms_make0 (i : Nat) (hcv : Tbs.cv c = .ref Cc) (M : Mk C.K Cc f) (F : FnOk C.prog C.w C.K C.mg C.base CX0 k f fd ps (SfS n wp)) (hr : Room (k + 1) C.A) (hg : Gl C x) (hm : C.mg x = some (.ref Cc)) (hb : Binds C.K fd ps ds0) (hd : Vals dvs ds0) (hdd : Dflt dvs dds)
    (hdb : (x == ("__debug__" : Str)) = false := by decide) : MS C (.Call (.Name x pp) [] [] pos) (mMakeS0 i n c dds wp) := by
  refine ⟨_, pe_make0 M F hr hg hm hb hd pass0 hdb, fun z X H0 H σ env Q kk o lv ck hp => ?_⟩
  obtain ⟨g, hg1, hl, hn, hw⟩ := gsAt_e hp
  intro y dx hy hdx ne
  exact make_at hcv o hl hg1 (hdd _ _ _) hn hw ck hy hdx ne
end
end Pu
/-! ### the state: stores, dicts as they are asked -/
namespace Pu
open PySem PySem.Spec PyProof.Rows L2
variable [Tbs]
def dropD (kvs : List (Key × D)) (k : Key) : List (Key × D) := kvs.filter fun kv => decide (kv.1 ≠ k)
section
variable {z z' : Zn} {M M' : AP} {H H' : Hp}
theorem IsK.drop (k : Key) : ∀ {vs : List (Key × V)} {ds : List (Key × D)}, IsK z M H vs ds → IsK z M H (dropK vs k) (dropD ds k)
  | _, _, .nil => .nil
  | _, _, .cons (k := k') (v := v) (d := d) (vs := vs) (ds := ds) h t => by
    have ih := IsK.drop k t
    unfold dropK dropD at ih ⊢
    by_cases e : k' = k
    · rw [List.filter_cons_of_neg (by simpa using e), List.filter_cons_of_neg (by simpa using e)]
      exact ih
    · rw [List.filter_cons_of_pos (by simpa using e), List.filter_cons_of_pos (by simpa using e)]
      exact .cons h ih
theorem IsK.keys : ∀ {vs : List (Key × V)} {ds : List (Key × D)}, IsK z M H vs ds → vs.map (·.1) = ds.map (·.1)
  | _, _, .nil => rfl
  | _, _, .cons h t => by rw [List.map_cons, List.map_cons, IsK.keys t]
theorem IsK.evo (hM : ∀ a, z.Z a → M a) (e : Evo z H H') {vs : List (Key × V)} {ds : List (Key × D)} (h : IsK z M H vs ds) : IsK z M H' vs ds := h.gen (fun a o q n => ⟨e.old a o q (fun x => n (hM a x)), n⟩) e.dk
end
section
variable {C : Cx} {fr : Bool} {m m' : Mode} {e o a b : Expr} {p q pd pk po : PX} {qm : PMX} {pos pp : Pos} {f x : Str} {i c : Nat} {Cc : Addr}
/-- o.f = e -/
def sFldS (i c : Nat) (f : Str) (po : PX) (q : PMX) : PSt := fun env k => q env fun env1 y => po env1 fun d0 => hdK d0 fun j => gsAt i env1 fun g => insK g j c fun fs => fs.length < 1000 ∧ k.nx (env1.set i (.gs (g.set j (.ins c (putFD f y fs)))))
theorem ss_fld (i : Nat) {pos' : Pos} (hcv : Tbs.cv c = .ref Cc) (hc : Cls C.K Cc) (hn : NoAttr C.K Cc f) (ho : E .e C o po) (he : MS C e qm) (hs : swapsWith e (some (.Attribute o f pos')) pos.line C.env = pure false := by rfl) :
    SS C (.Assign [.Attribute o f pos'] e pos) (sFldS i c f po qm) := by
  obtain ⟨t, h1, h2⟩ := he
  obtain ⟨u, g1, g2⟩ := ho
  refine ⟨_, ps_fld g1 h1 hs, fun z X H0 H σ env G k ok lv s hp => h2 z X H0 H σ env _ _ ok lv (fun z1 y v H1 env1 o1 f1 r1 hx => g2 z1 X H0 H1 σ env1 _ _ o1 (fun d0 v0 H2 e2 r2 hy => ?_) hx) hp⟩
  obtain ⟨j, rfl, hy⟩ := hdK_e hy
  obtain ⟨g, hg, hl, hy⟩ := gsAt_e hy
  obtain ⟨fs, hj, hlen, hk⟩ := insK_e hy
  have o2 := o1.go e2
  obtain ⟨ad, oo, rfl, hcs, hA, ⟨C', dx, fv, rfl, hv, hF⟩, lv2⟩ := o2.cell hl hg (show Is z1 _ H2 v0 (.hd j) from r2) hj
  rw [hcv] at hv
  cases hv
  refine ⟨ad, Cc, dx, fv, rfl, hA, hc, hn, by rw [hF.len]; exact hlen, ?_⟩
  obtain ⟨o3, f3⟩ := o2.put (c' := .ins c (putFD f y fs)) hl hg hcs nofrz_ins.1 nofrz_ins.2 ⟨Cc, dx, _, rfl, hcv, hF.put f (Is.evo (fun _ q => .inl q) e2 r1)⟩
  exact s.nx _ _ _ _ o3 (f1.trans (((o1.fr e2).toS f1.live).trans f3)) hk
/-- o.f += e -/
def sAugS (i c : Nat) (f : Str) (po q : PX) : PSt := fun env k => po env fun d0 => hdK d0 fun j => gsAt i env fun g => insK g j c fun fs => ∃ n, fs.lookup f = some (.int n) ∧ fs.length < 1000 ∧ q env fun y => inK y fun m => k.nx (env.set i (.gs (g.set j (.ins c (putFD f (.int (n + m)) fs)))))
theorem ss_aug (i : Nat) {tpos : Pos} (hcv : Tbs.cv c = .ref Cc) (hc : Cls C.K Cc) (hn : NoAttr C.K Cc f) (ho : E .e C o po) (he : E .e C e q) : SS C (.AugAssign (.Attribute o f tpos) .Add e pos) (sAugS i c f po q) := by
  obtain ⟨t, h1, h2⟩ := he
  obtain ⟨u, g1, g2⟩ := ho
  refine ⟨_, ps_fldaug g1 h1 in_add, fun z X H0 H σ env G k ok lv s hp => g2 z X H0 H σ env _ _ ok (fun d0 v0 H1 e1 r1 hy => ?_) hp⟩
  obtain ⟨j, rfl, hy⟩ := hdK_e hy
  obtain ⟨g, hg, hl, hy⟩ := gsAt_e hy
  obtain ⟨fs, hj, n, hlk, hlen, hx⟩ := insK_e hy
  have o1 := ok.go e1
  have r1 : Is z (Ms z X σ env) H1 v0 (.hd j) := r1
  obtain ⟨ad, oo, rfl, hcs, hA, ⟨C', dx, fv, rfl, hv, hF⟩, lv1⟩ := o1.cell hl hg r1 hj
  rw [hcv] at hv
  cases hv
  obtain ⟨w, hw, iw⟩ := (hF.look f).1 _ hlk
  cases iw
  refine ⟨ad, Cc, dx, fv, _, rfl, hA, hc, hn, hw, h2 z X H0 H1 σ env _ _ o1 (fun y u2 H2 e2 r2 hz => ?_) hx⟩
  cases y with
  | int mm =>
    cases (show Is z (Ms z X σ env) H2 u2 (.int mm) from r2)
    have o2 := o1.go e2
    obtain ⟨ad', oo, ea, hcs2, hA2, ⟨C', dx', fv', rfl, hv, hF2⟩, lv2⟩ := o2.cell hl hg (Is.evo (fun _ q => .inl q) e2 r1) hj
    cases ea
    rw [hcv] at hv
    cases hv
    refine ⟨n, mm, rfl, rfl, dx', fv', hA2, by rw [hF2.len]; exact hlen, ?_⟩
    obtain ⟨o3, f3⟩ := o2.put (c' := .ins c (putFD f (.int (n + mm)) fs)) hl hg hcs2 nofrz_ins.1 nofrz_ins.2 ⟨Cc, dx', _, rfl, hcv, hF2.put f (.int _)⟩
    exact s.nx _ _ _ _ o3 (((ok.fr (e1.trans e2)).toS lv).trans f3) hz
  | _ => exact (show False from hz).elim
/-- d[k] = e -/
def sPutS (i : Nat) (pd pk : PX) (q : PMX) : PSt := fun env k => q env fun env1 y => pd env1 fun x => pk env1 fun w => hdK x fun j => keyK w fun key => gsAt i env1 fun g => dicK g j fun kvs => kvs.length ≤ 100000 ∧ k.nx (env1.set i (.gs (g.set j (.dic (putD kvs key y)))))
theorem ss_put (i : Nat) {pos' : Pos} (hu : C.A.units + 1 < cLine) (hd : E .e C a pd) (hk : E .e C b pk) (he : MS C e qm) (hs : swapsWith e (some (.Subscript a b pos')) pos.line C.env = pure false := by rfl) :
    SS C (.Assign [.Subscript a b pos'] e pos) (sPutS i pd pk qm) := by
  obtain ⟨t, h1, h2⟩ := he
  obtain ⟨u, g1, g2⟩ := hd
  obtain ⟨w, k1, k2⟩ := hk
  refine ⟨_, ps_dput hu g1 k1 h1 hs, fun z X H0 H σ env G k ok lv s hp => h2 z X H0 H σ env _ _ ok lv (fun z1 y v H1 env1 o1 f1 r1 hx => g2 z1 X H0 H1 σ env1 _ _ o1 (fun x vx H2 e2 r2 hy => k2 z1 X H0 H2 σ env1 _ _ (o1.go e2) (fun yk vk H3 e3 r3 hz => ?_) hy) hx) hp⟩
  obtain ⟨j, rfl, hz1⟩ := hdK_e hz
  obtain ⟨key, rfl, hz2⟩ := keyK_e (show Is z1 _ H3 vk yk from r3) hz1
  obtain ⟨g, hg, hl, hz3⟩ := gsAt_e hz2
  obtain ⟨kvs, hj, hlen, hk⟩ := dicK_e hz3
  have o3 := (o1.go e2).go e3
  obtain ⟨ad, oo, rfl, hcs, hA, ⟨vs, rfl, r⟩, lv3⟩ := o3.cell hl hg (Is.evo (fun _ q => .inl q) e3 (show Is z1 (Ms z1 X σ env1) H2 vx (.hd j) from r2)) hj
  refine ⟨ad, _, rfl, DPut.k hA (by rw [r.len, sizeLine_eq]; omega), ?_⟩
  obtain ⟨o4, f4⟩ := o3.put (c' := .dic (putD kvs key y)) hl hg hcs nofrz_dK.1 nofrz_dK.2 ⟨putK vs key v, rfl, r.put (Is.evo (fun _ q => .inl q) (e2.trans e3) r1)⟩
  exact s.nx _ _ _ _ o4 (f1.trans (((o1.fr (e2.trans e3)).toS f1.live).trans f4)) hk
/-- del d[k] -/
def sDelS (i : Nat) (pd pk : PX) : PSt := fun env k => pd env fun x => pk env fun w => hdK x fun j => keyK w fun key => gsAt i env fun g => dicK g j fun kvs => (valD kvs key).isSome = true ∧ k.nx (env.set i (.gs (g.set j (.dic (dropD kvs key)))))
theorem ss_del (i : Nat) {tpos : Pos} (hd : E .e C a pd) (hk : E .e C b pk) : SS C (.Delete [.Subscript a b tpos] pos) (sDelS i pd pk) := by
  obtain ⟨u, g1, g2⟩ := hd
  obtain ⟨w, k1, k2⟩ := hk
  refine ⟨_, ps_ddel g1 k1, fun z X H0 H σ env G k ok lv s hp => g2 z X H0 H σ env _ _ ok (fun x vx H2 e2 r2 hy => k2 z X H0 H2 σ env _ _ (ok.go e2) (fun yk vk H3 e3 r3 hz => ?_) hy) hp⟩
  obtain ⟨j, rfl, hz1⟩ := hdK_e hz
  obtain ⟨key, rfl, hz2⟩ := keyK_e (show Is z _ H3 vk yk from r3) hz1
  obtain ⟨g, hg, hl, hz3⟩ := gsAt_e hz2
  obtain ⟨kvs, hj, hsm, hk⟩ := dicK_e hz3
  have o3 := (ok.go e2).go e3
  obtain ⟨ad, oo, rfl, hcs, hA, ⟨vs, rfl, r⟩, lv3⟩ := o3.cell hl hg (Is.evo (fun _ q => .inl q) e3 (show Is z (Ms z X σ env) H2 vx (.hd j) from r2)) hj
  obtain ⟨dd, hdd⟩ := Option.isSome_iff_exists.mp hsm
  obtain ⟨w2, hw2, _⟩ := (r.val key).2 dd hdd
  refine ⟨ad, vs, key, rfl, hA, rfl, by rw [hw2]; rfl, ?_⟩
  obtain ⟨o4, f4⟩ := o3.put (c' := .dic (dropD kvs key)) hl hg hcs nofrz_dK.1 nofrz_dK.2 ⟨dropK vs key, rfl, r.drop key⟩
  exact s.nx _ _ _ _ o4 (((ok.fr (e2.trans e3)).toS lv).trans f4) hk
/-- d.pop(k) -/
def mPopS (i : Nat) (pd pk : PX) : PMX := fun env k => pd env fun x => hdK x fun j => (gsAt i env fun g => dicK g j fun _ => True) ∧ pk env fun w => keyK w fun key => gsAt i env fun g => dicK g j fun kvs => ∃ d, valD kvs key = some d ∧ k (env.set i (.gs (g.set j (.dic (dropD kvs key))))) d
theorem ms_pop (i : Nat) {apos cpos : Pos} (hd : E .e C a pd) (hk : E .e C b pk) (m : M1 C a "pop" apos b cpos) : MS C (.Call (.Attribute a "pop" apos) [b] [] cpos) (mPopS i pd pk) := by
  obtain ⟨u, g1, g2⟩ := hd
  obtain ⟨w, k1, k2⟩ := hk
  refine ⟨_, pe_dpop1 g1 k1 m, fun z X H0 H σ env Q k ok lv ck hp => g2 z X H0 H σ env _ _ ok (fun x vx H2 e2 r2 hy => ?_) hp⟩
  obtain ⟨j, rfl, h0, hy⟩ := hdK_e hy
  obtain ⟨g0, hg0, hl0, h0⟩ := gsAt_e h0
  obtain ⟨kvs0, hj0, _⟩ := dicK_e h0
  have r2 : Is z (Ms z X σ env) H2 vx (.hd j) := r2
  obtain ⟨ad, oo, rfl, _, hA0, ⟨vs0, rfl, _⟩, _⟩ := (ok.go e2).cell hl0 hg0 r2 hj0
  refine ⟨ad, rfl, .inl ⟨vs0, .of hA0⟩, k2 z X H0 H2 σ env _ _ (ok.go e2) (fun yk vk H3 e3 r3 hz => ?_) hy⟩
  obtain ⟨key, rfl, hz⟩ := keyK_e (show Is z _ H3 vk yk from r3) hz
  obtain ⟨g, hg, hl, hz⟩ := gsAt_e hz
  obtain ⟨kvs, hj, dd, hdd, hk⟩ := dicK_e hz
  have o3 := (ok.go e2).go e3
  obtain ⟨ad', oo, ea, hcs, hA, ⟨vs, rfl, r⟩, lv3⟩ := o3.cell hl hg (Is.evo (fun _ q => .inl q) e3 r2) hj
  cases ea
  obtain ⟨w2, hw2, iw2⟩ := (r.val key).2 dd hdd
  refine ⟨vs, key, w2, hA, rfl, hw2, ?_⟩
  obtain ⟨o4, f4⟩ := o3.put (c' := .dic (dropD kvs key)) hl hg hcs nofrz_dK.1 nofrz_dK.2 ⟨dropK vs key, rfl, r.drop key⟩
  exact ck _ dd w2 _ _ o4 (((ok.fr (e2.trans e3)).toS lv).trans f4) (f4.is iw2) hk
/-- len(d) -/
def gsLen (i : Nat) (p : PX) : PX := fun env k => p env fun x => hdK x fun j => gsAt i env fun g => dicK g j fun kvs => k (.int kvs.length)
theorem e_lenS (i : Nat) (h : E .e C a p) (hg : Gl C "len") (hm : C.mg "len" = none) (he : starEach [a] C.env = (false, eval a C.env) :: starEach [] C.env := by rfl) (hpl : (backTo pos (starEach [] C.env)).any (·.1) = false := by rfl) :
    E .e C (.Call (.Name "len" pp) [a] [] pos) (gsLen i p) := by
  obtain ⟨t, h1, h2⟩ := h
  refine ⟨_, pe_callB call_lenD hg hm (by decide +kernel) (pa_cons h1 pa_nil he) (he := he) (hpl := hpl), fun z X H0 H σ env Q k ok ck hp => h2 z X H0 H σ env _ _ ok (fun d v H1 e1 r1 hx => ?_) hp⟩
  obtain ⟨j, rfl, hx⟩ := hdK_e hx
  obtain ⟨g, hg, hl, hx⟩ := gsAt_e hx
  obtain ⟨kvs, hj, hk⟩ := dicK_e hx
  obtain ⟨ad, oo, rfl, hcs, hA, ⟨vs, rfl, r⟩, _⟩ := (ok.go e1).cell hl hg (show Is z _ H1 v (.hd j) from r1) hj
  refine ⟨ad, vs, rfl, hA, ?_⟩
  rw [r.len]
  exact ck _ _ H1 e1 (Is.int _) hk
/-- the keys of a dict -/
def kD : Key → D
  | .inl n => .int n
  | .inr s => .str s
theorem isa_keys {z : Zn} {M : AP} {H : Hp} : ∀ ks : List Key, IsA z M H (ks.map kV) (ks.map kD)
  | [] => .nil
  | .inl n :: ks => .cons (.int n) (isa_keys ks)
  | .inr s :: ks => .cons (.str s) (isa_keys ks)
/-- list(d) -/
def gsList (i : Nat) (p : PX) : PX := fun env k => p env fun x => hdK x fun j => gsAt i env fun g => dicK g j fun kvs => k (.lst (kvs.map fun kv => kD kv.1))
theorem e_listS (i : Nat) (h : E .e C a p) (hc : C.calm = true) (hg : Gl C "list") (hm : C.mg "list" = none) (he : starEach [a] C.env = (false, eval a C.env) :: starEach [] C.env := by rfl) (hpl : (backTo pos (starEach [] C.env)).any (·.1) = false := by rfl) :
    E .f C (.Call (.Name "list" pp) [a] [] pos) (gsList i p) := by
  obtain ⟨t, h1, h2⟩ := h
  refine ⟨_, pe_callTy (call_list_dK hc) hg hm (by decide +kernel) (pa_cons h1 pa_nil he) (he := he) (hpl := hpl), fun z X H0 H σ env Q k ok ck hp => h2 z X H0 H σ env _ _ ok (fun d v H1 e1 r1 hx => ?_) hp⟩
  obtain ⟨j, rfl, hx⟩ := hdK_e hx
  obtain ⟨g, hg, hl, hx⟩ := gsAt_e hx
  obtain ⟨kvs, hj, hk⟩ := dicK_e hx
  obtain ⟨ad, oo, rfl, hcs, hA, ⟨vs, rfl, r⟩, _⟩ := (ok.go e1).cell hl hg (show Is z _ H1 v (.hd j) from r1) hj
  refine ⟨ad, vs, rfl, hA, fun q hq => ck _ _ _ (e1.new hq) (Rel.newL (e1.fresh hq) hq ?_) hk⟩
  have e1' : (vs.map fun kv => kV kv.1) = (vs.map (·.1)).map kV := by rw [List.map_map]; rfl
  have e2' : (kvs.map fun kv => kD kv.1) = (kvs.map (·.1)).map kD := by rw [List.map_map]; rfl
  rw [e1', e2', r.keys]
  exact isa_keys _
end
/-! == {}, != {} -/
section
variable {X : Cx}
def rEmpD (neg : Bool) : R2 := fun x y H Q => ∃ (a b : Addr) (vs : List (Key × V)), x = .ref a ∧ y = .ref b ∧ H a = some (.dK vs) ∧ H b = some (.dK []) ∧ Q (.bl (neg ^^ vs.isEmpty)) H
omit [Tbs] in
theorem op_eqEmpD (hu : X.A.units < cLine) : OpR X (compareOp .Eq) (rEmpD false) := by
  intro pins s σ H x y v u Q I rx ry h
  obtain ⟨a, b, vs, rfl, rfl, ha, hb, q⟩ := h
  cases rx
  cases ry
  obtain ⟨_, la, va, ra, da⟩ := dk_rd I.hok (.inl ha)
  obtain ⟨_, lb, vb, rb, db⟩ := dk_rd I.hok (.inl hb)
  cases rb
  refine PySem.W.keq_eq (r := true) la lb da db hu (fun e => ?_) ⟨.bl _, H, I, rfl, ?_⟩
  · cases ra with
    | nil => exact .nil
    | cons h t => cases e
  · cases ra <;> exact q
end
section
variable {C : Cx} {a : Expr} {p : PX} {pos p2 : Pos} {i : Nat}
def eEmpS (i : Nat) (neg : Bool) (p : PX) : PX := fun env k => p env fun x => hdK x fun j => gsAt i env fun g => dicK g j fun kvs => k (.bl (neg ^^ kvs.isEmpty))
theorem emp_at {neg : Bool} {t : TE} (h : RE .e t p) : RE .e (tOp (rEmpD neg) t tDNewK) (eEmpS i neg p) := fun z X H0 H σ env Q k o ck hp => h z X H0 H σ env _ _ o (fun d v H1 e1 r1 hx => by
  obtain ⟨j, rfl, hx⟩ := hdK_e hx
  obtain ⟨g, hg, hl, hx⟩ := gsAt_e hx
  obtain ⟨kvs, hj, hk⟩ := dicK_e hx
  intro q hq
  have e2 := e1.new (o := .dK []) hq
  obtain ⟨ad, oo, rfl, hcs, hA, ⟨vs, rfl, r⟩, _⟩ := (o.go e2).cell hl hg (Is.evo (fun _ q => .inl q) ((Evo.refl z H1).new hq) (show Is z (Ms z X σ env) H1 v (.hd j) from r1)) hj
  refine ⟨ad, q, vs, rfl, rfl, hA, upd_same, ?_⟩
  have ee : vs.isEmpty = kvs.isEmpty := by cases r <;> rfl
  rw [ee]
  exact ck _ _ _ e2 (Is.bl _) hk) hp
theorem t_eqEmp (i : Nat) (hu : C.A.units < cLine) (h : E .e C a p) : T C (.Compare a [.Eq] [.Dict [] [] p2] pos) (tOf (eEmpS i false p)) := by
  obtain ⟨t, h1, h2⟩ := h
  exact ⟨_, pt_cmpR (op_eqEmpD hu) h1 pe_dnewK rfl, RT.of fun z X H0 H σ env Q k o ck hp => emp_at h2 z X H0 H σ env Q k o (fun d v H' e r hk => ck d v H' e r.eb hk) hp⟩
end
end Pu
/-! ### instances: == without an __eq__ of their own; a display of the state -/
namespace InsQ
open PySem PySem.Spec PyProof.Rows PySem.SeqAt
section
variable {M : Model} {prog : Program} {w : World} {A : Around} {E : Value → Shared → Prop} {s : Shared} {K : PySem.W.Frag} {x y C : Addr} {ox oy : Obj} {od od' : Option Obj}
theorem call_same {Q : Value → Shared → Prop} (X : K.In s.heap) (I : PySem.W.InstAt s.heap x ox C od) (hm : PySem.W.mroIn K C (.type "object") = some true) (hq : Q (.bool true) s) :
    wpAny (model prog w) A (call (.builtin "object.__eq__") [.ref x, .ref x]) Q E s :=
  wpAny_call (codeAny_call_builtin F.cmp_object.eq.plain F.cmpEntry_eq (PySem.W.check_slot F.cmpKind_eq F.cmpSplit_eq (I.type.andThen (PySem.W.looks_mroIn X hm)) (F.cmpArgs_eq _ _) (objEq_entry_same hq)))
theorem call_other {Q : Value → Shared → Prop} (X : K.In s.heap) (I : PySem.W.InstAt s.heap x ox C od) (J : PySem.W.InstAt s.heap y oy C od') (hxy : x ≠ y) (hm : PySem.W.mroIn K C (.type "object") = some true) (hq : Q .notImplemented s) :
    wpAny (model prog w) A (call (.builtin "object.__eq__") [.ref x, .ref y]) Q E s :=
  wpAny_call (codeAny_call_builtin F.cmp_object.eq.plain F.cmpEntry_eq (PySem.W.check_slot F.cmpKind_eq F.cmpSplit_eq (I.type.andThen (PySem.W.looks_mroIn X hm)) (F.cmpArgs_eq _ _) (objEq_entry_other hxy I.at_ J.at_ (by rw [I.cls]; exact fun w => nomatch w) hq)))
theorem rc_ins (hu : A.units < cLine) (X : K.In s.heap) (I : PySem.W.InstAt s.heap x ox C od) (J : PySem.W.InstAt s.heap y oy C od') (hm : PySem.W.mroIn K C (.type "object") = some true) (hs : PySem.W.findIn K (.ref C) "__eq__" = some (some (.builtin "object.__eq__")))
    {Q : Value → Shared → Prop} (h : Q (.bool (decide (x = y))) s) : wpAny (model prog w) A (richCompare .Eq (.ref x) (.ref y)) Q E s := by
  simp only [richCompare, cmpInfo_Eq, oneThing_ref]
  refine wpAny_holding (wpAny_bind (wpAny_cRoomFor hu ?_))
  refine wpAny_bind (I.type.here (wpAny_bind (J.type.here ?_)))
  split
  · rename_i q
    simp at q
  · refine wpAny_bind (wpAny_pure ?_)
    simp only [Bool.false_eq_true, if_false, Bool.not_false, if_true]
    by_cases e : x = y
    · subst e
      rw [decide_eq_true rfl] at h
      have one : wpAny (model prog w) A (tryCompare (.ref x) "__eq__" (.ref x)) (fun r s' => r = some (.bool true) ∧ s' = s) E s := by
        unfold tryCompare
        exact wpAny_bind (HN.ifBound_objEq X I hs (call_same X I hm (wpAny_pure ⟨rfl, rfl⟩)))
      refine wpAny_bind (m := tryCompare (.ref x) _ (.ref x)) (wpAny_mono one (fun r s1 z => ?_) fun _ _ e => e)
      obtain ⟨z1, z2⟩ := z
      subst z1
      subst z2
      exact wpAny_pure h
    · rw [decide_eq_false e] at h
      have one : wpAny (model prog w) A (tryCompare (.ref x) "__eq__" (.ref y)) (fun r s' => r = none ∧ s' = s) E s := by
        unfold tryCompare
        exact wpAny_bind (HN.ifBound_objEq X I hs (call_other X I J e hm (wpAny_pure ⟨rfl, rfl⟩)))
      have two : wpAny (model prog w) A (tryCompare (.ref y) "__eq__" (.ref x)) (fun r s' => r = none ∧ s' = s) E s := by
        unfold tryCompare
        exact wpAny_bind (HN.ifBound_objEq X J hs (call_other X J I (Ne.symm e) hm (wpAny_pure ⟨rfl, rfl⟩)))
      refine wpAny_bind (m := tryCompare (.ref x) _ (.ref y)) (wpAny_mono one (fun r s1 z => ?_) fun _ _ e => e)
      obtain ⟨z1, z2⟩ := z
      subst z1
      subst z2
      refine wpAny_bind (m := tryCompare (.ref y) _ (.ref x)) (wpAny_mono two (fun r s2 z => ?_) fun _ _ e => e)
      obtain ⟨z1, z2⟩ := z
      subst z1
      subst z2
      exact wpAny_bind (wpAny_rule (wpAny_bind (wpAny_isSame_ref_other e I.at_ J.at_ (by rw [I.cls]; exact fun w => nomatch w) (wpAny_pure h))))
end
end InsQ
namespace Pu
open PySem PySem.Spec PyProof.Rows L2
variable [Tbs]
/-- a class without an __eq__ of its own -/
structure EqC (K : PySem.W.Frag) (C : Addr) : Prop where
  mo : PySem.W.mroIn K C (.type "object") = some true
  eq : PySem.W.findIn K (.ref C) "__eq__" = some (some (.builtin "object.__eq__"))
def rEqI (C : Addr) : R2 := fun x y H Q => ∃ (a b dx dy : Addr) (fs gs : List (Str × V)), x = .ref a ∧ y = .ref b ∧ H a = some (.ins C dx fs) ∧ H b = some (.ins C dy gs) ∧ Q (.bl (decide (a = b))) H
omit [Tbs] in
theorem op_eqI {X : Cx} {C : Addr} (hu : X.A.units < cLine) (q : EqC X.K C) : OpR X (compareOp .Eq) (rEqI C) := by
  intro pins s σ H x y v u Q I rx ry h
  obtain ⟨a, b, dx, dy, fs, gs, rfl, rfl, ha, hb, hq⟩ := h
  cases rx
  cases ry
  obtain ⟨mA, J, _⟩ := ins_get I.hok ha
  obtain ⟨mB, J', _⟩ := ins_get I.hok hb
  obtain ⟨od, J, _⟩ := J.look
  obtain ⟨od', J', _⟩ := J'.look
  exact InsQ.rc_ins hu I.kIn J J' q.mo q.eq ⟨.bl _, H, I, rfl, hq⟩
section
variable {C : Cx} {a b : Expr} {p q : PX} {pos : Pos} {i c : Nat} {Cc : Addr}
/-- a == b, two instances of the class c -/
def eEqI (i c : Nat) (p q : PX) : PX := fun env k => p env fun x => q env fun y => hdK x fun j => hdK y fun l => gsAt i env fun g => insK g j c fun _ => insK g l c fun _ => k (.bl (decide (j = l)))
theorem re_eqI {ta tb : TE} (i : Nat) (hcv : Tbs.cv c = .ref Cc) (ha : RE .e ta p) (hb : RE .e tb q) : RE .e (tOp (rEqI Cc) ta tb) (eEqI i c p q) := fun z X H0 H σ env Q k o ck hp => ha z X H0 H σ env _ _ o (fun x v H1 e1 r1 hx => hb z X H0 H1 σ env _ _ (o.go e1) (fun y u H2 e2 r2 hy => by
  obtain ⟨j, rfl, hy1⟩ := hdK_e hy
  obtain ⟨l, rfl, hy2⟩ := hdK_e hy1
  obtain ⟨g, hg, hl, hy3⟩ := gsAt_e hy2
  obtain ⟨fs, hj, hy4⟩ := insK_e hy3
  obtain ⟨gs, hl', hk⟩ := insK_e hy4
  have o2 := (o.go e1).go e2
  obtain ⟨a1, o1, rfl, c1, h1, ⟨C1, dx, fv, rfl, hv1, _⟩, lv⟩ := o2.cell hl hg (Is.evo (fun _ q => .inl q) e2 (show Is z (Ms z X σ env) H1 v (.hd j) from r1)) hj
  obtain ⟨a2, o2', rfl, c2, h2, ⟨C2, dy, gv, rfl, hv2, _⟩, _⟩ := o2.cell hl hg (show Is z _ H2 u (.hd l) from r2) hl'
  rw [hcv] at hv1 hv2
  cases hv1
  cases hv2
  refine ⟨a1, a2, dx, dy, fv, gv, rfl, rfl, h1, h2, ?_⟩
  have e : decide (a1 = a2) = decide (j = l) := by
    by_cases w : j = l
    · subst w
      rw [c1] at c2
      cases c2
      simp
    · have : a1 ≠ a2 := fun q => w (cs_inj lv c2 c1 q)
      simp [w, this]
  rw [e]
  exact ck _ _ H2 (e1.trans e2) (Is.bl _) hk) hx) hp
theorem t_eqI (i : Nat) (hcv : Tbs.cv c = .ref Cc) (hu : C.A.units < cLine) (hq : EqC C.K Cc) (ha : E .e C a p) (hb : E .e C b q) : T C (.Compare a [.Eq] [b] pos) (tOf (eEqI i c p q)) := by
  obtain ⟨ta, a1, a2⟩ := ha
  obtain ⟨tb, b1, b2⟩ := hb
  exact ⟨_, pt_cmpR (op_eqI hu hq) a1 b1 (nomark _), RT.of fun z X H0 H σ env Q k o ck hp => re_eqI i hcv a2 b2 z X H0 H σ env Q k o (fun d v H' e r hk => ck d v H' e r.eb hk) hp⟩
end
/-! a thing that nothing names yet comes into the state -/
section
variable {z z' : Zn} {X : AP} {H0 H H1 : Hp} {σ : Sl} {env : List SV} {a : Addr} {o : HO} {g : List Cell} {c : Cell} {i : Nat}
theorem ms_pushE {b : Addr} : Ms (z.push a o) X σ env b ↔ (Ms z X σ env b ∨ (z.nt ≠ 0 ∧ b = a)) := by
  constructor
  · intro h
    rcases h with h | h | h
    · unfold Zn.Z Zn.push at h
      simp only [List.map_append, List.map_cons, List.map_nil, List.mem_append, List.mem_cons, List.not_mem_nil, or_false] at h
      rcases h with ⟨h, q | q | q | q⟩ | q
      · exact .inl (.inl (.inl ⟨h, .inl q⟩))
      · exact .inl (.inl (.inl ⟨h, .inr (.inl q)⟩))
      · exact .inl (.inl (.inl ⟨h, .inr (.inr q)⟩))
      · exact .inr ⟨h, q⟩
      · exact .inl (.inl (.inr q))
    · exact .inl (.inr (.inl h))
    · exact .inl (.inr (.inr h))
  · have zz : ∀ b, z.Z b → (z.push a o).Z b := fun b w => by
      unfold Zn.Z Zn.push
      simp only [List.map_append, List.map_cons, List.map_nil, List.mem_append, List.mem_cons, List.not_mem_nil, or_false]
      rcases w with ⟨h, q | q | q⟩ | q
      · exact .inl ⟨h, .inl q⟩
      · exact .inl ⟨h, .inr (.inl q)⟩
      · exact .inl ⟨h, .inr (.inr (.inl q))⟩
      · exact .inr q
    rintro ((h | h | h) | ⟨h, q⟩)
    · exact .inl (zz b h)
    · exact .inr (.inl h)
    · exact .inr (.inr h)
    · refine .inl ?_
      unfold Zn.Z Zn.push
      simp only [List.map_append, List.map_cons, List.map_nil, List.mem_append, List.mem_cons, List.not_mem_nil, or_false]
      exact .inl ⟨h, .inr (.inr (.inr q))⟩
theorem Ok.adopt (k : Ok z (X.or a) H0 H σ env) (l : z.live H) (hi : i + 1 = env.length) (hg : env[i]? = some (.gs g)) (h0 : H0 a = none) (hX : ¬ X a) {o0 : HO} (ha : H a = some o0) (hf : ∀ od u, o0 ≠ .frz od u) (ht : ∀ ps, o0 ≠ .tbl ps) (ho : ∀ ps, o ≠ .tbl ps) (hc : CellOk z (Ms z (X.or a) σ env) H o c) :
    Ok (z.push a o) X H0 (upd H a o) σ (env.set i (.gs (g ++ [c]))) ∧ FrS z (z.push a o) (Ms z (X.or a) σ env) H (Ms (z.push a o) X σ (env.set i (.gs (g ++ [c])))) (upd H a o) ∧ Is (z.push a o) (Ms (z.push a o) X σ (env.set i (.gs (g ++ [c])))) (upd H a o) (.ref a) (.hd g.length) := by
  have hil : i < env.length := by omega
  have hz : ¬ z.Z a := (k.xal a (.inr rfl)).2
  have nt := l.2.1
  have s := k.gs i g hi hg
  have same : ∀ (j : Nat) (s : SV), (∀ u, s ≠ .gs u) → ((env.set i (.gs (g ++ [c])))[j]? = some s ↔ env[j]? = some s) := fun j s hs => by
    by_cases hj : i = j
    · subst hj
      rw [List.getElem?_set_self hil, hg]
      constructor
      · intro w; exact absurd (Option.some.inj w).symm (hs _)
      · intro w; exact absurd (Option.some.inj w).symm (hs _)
    · rw [List.getElem?_set_ne hj]
  have so : ∀ (j : Nat) (d : D), ((env.set i (.gs (g ++ [c])))[j]? = some (.own d) ↔ env[j]? = some (.own d)) := fun j d => same j _ fun _ w => nomatch w
  have sv : ∀ (j : Nat) (d : D), ((env.set i (.gs (g ++ [c])))[j]? = some (.val d) ↔ env[j]? = some (.val d)) := fun j d => same j _ fun _ w => nomatch w
  -- the same places are out of reach
  have ms : ∀ b, Ms (z.push a o) X σ (env.set i (.gs (g ++ [c]))) b → Ms z (X.or a) σ env b := fun b h => by
    rcases ms_pushE.mp h with (w | w | ⟨j, d, w1, w2⟩) | w
    · exact .inl w
    · exact .inr (.inl (.inl w))
    · exact .inr (.inr ⟨j, d, (so j d).mp w1, w2⟩)
    · exact .inr (.inl (.inr w.2))
  have msE : ∀ b, Ms (z.push a o) X σ env b → Ms z (X.or a) σ env b := fun b h => by
    rcases ms_pushE.mp h with (w | w | w) | w
    · exact .inl w
    · exact .inr (.inl (.inl w))
    · exact .inr (.inr w)
    · exact .inr (.inl (.inr w.2))
  have zp : ∀ b, (z.push a o).Z b → z.Z b ∨ b = a := fun b h => by
    unfold Zn.Z Zn.push at h
    simp only [List.map_append, List.map_cons, List.map_nil, List.mem_append, List.mem_cons, List.not_mem_nil, or_false] at h
    rcases h with ⟨h, q | q | q | q⟩ | q
    · exact .inl (.inl ⟨h, .inl q⟩)
    · exact .inl (.inl ⟨h, .inr (.inl q)⟩)
    · exact .inl (.inl ⟨h, .inr (.inr q)⟩)
    · exact .inr q
    · exact .inl (.inr q)
  have zq : ∀ b, z.Z b → (z.push a o).Z b := fun b w => by
    have := ms_pushE (z := z) (a := a) (o := o) (X := fun _ => False) (σ := []) (env := []) (b := b)
    rcases this.mpr (.inl (.inl w)) with q | q | ⟨j, d, q, _⟩
    · exact q
    · exact q.elim
    · cases q
  have old : ∀ b u, H b = some u → ¬ Ms z (X.or a) σ env b → upd H a o b = some u ∧ ¬ Ms (z.push a o) X σ (env.set i (.gs (g ++ [c]))) b := fun b u q n =>
    ⟨by rw [upd_ne (fun w => n (.inr (.inl (.inr w))))]; exact q, fun w => n (ms b w)⟩
  have oldE : ∀ b u, H b = some u → ¬ Ms z (X.or a) σ env b → upd H a o b = some u ∧ ¬ Ms (z.push a o) X σ env b := fun b u q n =>
    ⟨by rw [upd_ne (fun w => n (.inr (.inl (.inr w))))]; exact q, fun w => n (msE b w)⟩
  have al : ∀ b, H b ≠ none → upd H a o b ≠ none := fun b hb => by
    by_cases e : b = a
    · rw [e, upd_same]; intro q; cases q
    · rw [upd_ne e]; exact hb
  have nof : NoF H a := .of ha fun x y w => hf _ _ w
  have tab : Tabs H → Tabs (upd H a o) := fun T => T.mut hz nof
  have nm : a ∉ z.cs.map (·.1) := fun w => hz (.inl ⟨nt, .inr (.inr w)⟩)
  have l1 : z.live (upd H a o) := ok_mut hz l
  have lv : (z.push a o).live (upd H a o) := by
    refine ⟨rfl, nt, l1.2.2.1, l1.2.2.2.1, ?_, fun p hp => ?_⟩
    · show ((z.cs ++ [(a, o)]).map (·.1)).Nodup
      rw [List.map_append, List.nodup_append]
      exact ⟨l.2.2.2.2.1, by simp, fun x hx y hy w => by simp at hy; rw [w, hy] at hx; exact nm hx⟩
    · rcases List.mem_append.mp hp with hp | hp
      · exact l1.2.2.2.2.2 p hp
      · simp at hp
        subst hp
        exact ⟨upd_same, fun w => hz (.inl ⟨nt, .inl w⟩), fun w => hz (.inl ⟨nt, .inr (.inl w)⟩), ho⟩
  have hd : ∀ (n : Nat) (b : Addr), (z.cs[n]?).map (·.1) = some b → ((z.push a o).cs[n]?).map (·.1) = some b := fun n b q => by
    show ((z.cs ++ [(a, o)])[n]?).map (·.1) = some b
    cases e2 : z.cs[n]? with
    | none => rw [e2] at q; cases q
    | some p =>
      rw [List.getElem?_append_left (List.getElem?_eq_some_iff.mp e2).1, e2]
      rw [e2] at q
      exact q
  have okk : ∀ b, z.ok H b → (z.push a o).ok (upd H a o) b := fun b w => by
    obtain rfl : b = (z.push a o).dk := w.1
    exact lv
  refine ⟨⟨by simp [k.len], ⟨fun b u q n => ?_, fun b q => al b (k.evo.al b q), fun b w => by obtain rfl : b = (z.push a o).dk := w.1; exact lv, fun T => tab (k.evo.tab T)⟩, fun b q => ?_, fun b q => ⟨al b (k.xal b (.inl q)).1, fun w => (zp b w).elim (k.xal b (.inl q)).2 fun w => hX (by rw [← w]; exact q)⟩, fun j d q => ?_, fun j d q => ?_, fun j n b d f h1 h2 h3 h4 => k.inj j n b d f ((so j d).mp h1) ((so n f).mp h2) h3 h4, tab k.tab, fun j g2 hL q => ?_⟩,
    ⟨old, al, lv, ⟨rfl, rfl, rfl, hd, zq⟩, fun b q => .inl ((zp b q).elim (fun w => .inl w) fun w => .inr (.inl (.inr w))), fun b od u q hm => ?_⟩, .hd ?_⟩
  · have nb : b ≠ a := fun w => by rw [w, h0] at q; cases q
    rw [upd_ne nb]
    exact k.evo.old b u q fun w => n (zq b w)
  · rcases zp b q with w | w
    · exact al b (k.zal b w)
    · rw [w, upd_same]; intro q; cases q
  · obtain ⟨v, h1, h2⟩ := k.val j d ((sv j d).mp q)
    exact ⟨v, h1, h2.zs old okk hd rfl⟩
  · obtain ⟨b, h1, h2, h3, h4, h5⟩ := k.own j d ((so j d).mp q)
    have nb : b ≠ a := fun w => h4 (.inr w)
    exact ⟨b, h1, conZs old okk hd rfl (fun u q => by rw [upd_ne nb]; exact q) rfl h2, fun w => (zp b w).elim h3 nb, fun w => h4 (.inl w), h5⟩
  · have hj : j = i := by simp at hL; omega
    subst hj
    rw [List.getElem?_set_self hil] at q
    cases q
    refine ⟨lv, by show (z.cs ++ [(a, o)]).length = _; rw [List.length_append, List.length_append, s.len]; rfl, fun n p cc e1 e2 => ?_⟩
    have e1' : (z.cs ++ [(a, o)])[n]? = some p := e1
    by_cases hn : n < z.cs.length
    · rw [List.getElem?_append_left hn] at e1'
      rw [List.getElem?_append_left (by rw [← s.len]; exact hn)] at e2
      exact (s.at' n p cc e1' e2).zs old okk hd rfl
    · rw [List.getElem?_append_right (by omega)] at e1'
      rw [List.getElem?_append_right (by rw [← s.len]; omega), ← s.len] at e2
      cases q : n - z.cs.length with
      | zero =>
        rw [q] at e1' e2
        cases e1'
        cases e2
        exact hc.zs old okk hd rfl
      | succ m => rw [q] at e1'; cases e1'
  · have nb : b ≠ a := fun w => by rw [w, ha] at q; exact hf _ _ (Option.some.inj q)
    rw [upd_ne nb]
    exact q
  · show ((z.cs ++ [(a, o)])[g.length]?).map (·.1) = some a
    rw [← s.len, List.getElem?_append_right (Nat.le_refl _), Nat.sub_self]
    rfl
end
/-! a display -/
def RMPS (trs : List (TE × TE)) (ks : List Str) (p : PMA) : Prop := ∀ (z : Zn) (X : AP) (H0 H : Hp) (σ : Sl) (env : List SV) (Q : List (V × V) → Hp → Prop) (k : List SV → List D → Prop), Ok z X H0 H σ env → z.live H →
  (∀ z' ds vs H' env', Ok z' X H0 H' σ env' → FrS z z' (Ms z X σ env) H (Ms z' X σ env') H' → (∀ b, X b → H' b = H b) → (∀ b, Ms z' X σ env' b → Ms z X σ env b ∨ H b = none) → IsA z' (Ms z' X σ env') H' vs ds → vs.length = ks.length → k env' ds → Q ((ks.map V.str).zip vs) H') → p env k → tPairs trs σ H Q
structure MPS (C : Cx) (pos : Pos) (keys : List (Option Expr)) (values : List Expr) (ks : List Str) (p : PMA) : Prop where
  ex : ∃ trs, PPs C pos keys values trs ∧ RMPS trs ks p
section
variable {C : Cx} {pos : Pos} {e : Expr} {p : PX} {q : PMX} {g : PMA} {ks : List Str} {keys : List (Option Expr)} {values : List Expr}
theorem mps_nil : MPS C pos [] [] [] mNil := ⟨_, pps_nil, fun z X H0 H σ env Q k o l c hp => c z [] [] H env o (Fr.refl.toS l) (fun _ _ => rfl) (fun _ h => .inl h) .nil rfl hp⟩
theorem mps_e {x : Str} {j : Nat} {kp : Pos} (h : E .e C e p) (hs : MPS C pos keys values ks g) : MPS C pos (some (.Constant (.str x) j kp) :: keys) (e :: values) (x :: ks) (mCons (mE p) g) := by
  obtain ⟨t, h1, h2⟩ := h
  obtain ⟨u, g1, g2⟩ := hs
  exact ⟨_, pps_cons pe_str h1 g1, fun z X H0 H σ env Q k o l c hp => h2 z X H0 H σ env _ _ o (fun d v H1 e1 r1 hx => g2 z X H0 H1 σ env _ _ (o.go e1) (e1.dk _ l) (fun z2 ds vs H2 env2 o2 f2 kx ms r2 hl hy => c z2 (d :: ds) (v :: vs) H2 env2 o2 (((o.fr e1).toS l).trans f2) (fun b hb => (kx b hb).trans (o.keepX e1 b hb)) (fun b hb => (ms b hb).imp_right fun q => e1.fresh q) (.cons (f2.is r1) r2) (by simp [hl]) hy) hx) hp⟩
/-- {} -/
def mNew (i : Nat) : PMX := fun env k => gsAt i env fun g => k (env.set i (.gs (g ++ [.dic []]))) (.hd g.length)
theorem push_new {z : Zn} {X : AP} {H0 H : Hp} {σ : Sl} {env : List SV} {i : Nat} {g : List Cell} {r : Addr} (o : Ok z X H0 H σ env) (hl : i + 1 = env.length) (hg : env[i]? = some (.gs g)) (hr : H r = none) :
    Ok (z.push r (.dK [])) X H0 (upd H r (.dK [])) σ (env.set i (.gs (g ++ [.dic []]))) ∧ FrS z (z.push r (.dK [])) (Ms z X σ env) H (Ms (z.push r (.dK [])) X σ (env.set i (.gs (g ++ [.dic []])))) (upd H r (.dK [])) ∧ Is (z.push r (.dK [])) (Ms (z.push r (.dK [])) X σ (env.set i (.gs (g ++ [.dic []])))) (upd H r (.dK [])) (.ref r) (.hd g.length) :=
  o.push hl hg ((Evo.refl z H).new hr) hr upd_same nofrz_dK.2 ⟨[], rfl, .nil⟩
theorem ms_new (i : Nat) {pos : Pos} : MS C (.Dict [] [] pos) (mNew i) := ⟨_, pe_dnewK, fun z X H0 H σ env Q k o l c hp => fun r hr => by
  obtain ⟨g, hg, hl, hk⟩ := gsAt_e hp
  obtain ⟨o2, f2, r2⟩ := push_new o hl hg hr
  exact c _ _ _ _ _ o2 f2 r2 hk⟩
theorem mps_d (i : Nat) {x : Str} {j : Nat} {kp dp : Pos} (hs : MPS C pos keys values ks g) : MPS C pos (some (.Constant (.str x) j kp) :: keys) (.Dict [] [] dp :: values) (x :: ks) (mCons (mNew i) g) := by
  obtain ⟨u, g1, g2⟩ := hs
  refine ⟨_, pps_cons pe_str pe_dnewK g1, fun z X H0 H σ env Q k o l c hp => fun r hr => ?_⟩
  obtain ⟨gg, hg, hl, hk⟩ := gsAt_e hp
  obtain ⟨o2, f2, r2⟩ := push_new o hl hg hr
  refine g2 _ X H0 _ σ _ _ _ o2 f2.live (fun z3 ds vs H3 env3 o3 f3 kx ms r3 hln hy => c z3 (_ :: ds) (_ :: vs) H3 env3 o3 (f2.trans f3) (fun b hb => (kx b hb).trans (upd_ne fun w => (o.xal b hb).1 (by rw [w]; exact hr))) (fun b hb => ?_) (.cons (f3.is r2) r3) (by simp [hln]) hy) hk
  rcases ms b hb with w | w
  · have w' : Ms (z.push r (.dK [])) X σ env b := by
      rcases w with w | w | ⟨n, d, w1, w2⟩
      · exact .inl w
      · exact .inr (.inl w)
      · by_cases hn : i = n
        · subst hn
          rw [List.getElem?_set_self (by omega)] at w1
          cases w1
        · rw [List.getElem?_set_ne hn] at w1
          exact .inr (.inr ⟨n, d, w1, w2⟩)
    rcases ms_pushE.mp w' with w | w
    · exact .inl w
    · exact .inr (by rw [w.2]; exact hr)
  · refine .inr ?_
    by_cases e : b = r
    · rw [e]; exact hr
    · rw [upd_ne e] at w; exact w
/-- the pairs of a display, texts that differ -/
def dspK (ks : List Str) (ds : List D) : List (Key × D) := (ks.map Sum.inr).zip ds
def mDisp (i : Nat) (ks : List Str) (g : PMA) : PMX := fun env k => g env fun env1 ds => gsAt i env1 fun gg => ds.length = ks.length ∧ k (env1.set i (.gs (gg ++ [.dic (dspK ks ds)]))) (.hd gg.length)
theorem zip_is {z : Zn} {M : AP} {H : Hp} : ∀ {ks : List Str} {vs : List V} {ds : List D}, IsA z M H vs ds → IsK z M H ((ks.map Sum.inr).zip vs) (dspK ks ds)
  | [], _, _, _ => .nil
  | _ :: _, _, _, .nil => .nil
  | k :: ks, _, _, .cons h t => .cons h (zip_is (ks := ks) t)
theorem zip_pairs : ∀ {ks : List Str} {vs : List V}, (ks.map V.str).zip vs = ((ks.map (Sum.inr : Str → Key)).zip vs).map fun kv => (kV kv.1, kv.2)
  | [], _ => rfl
  | _ :: _, [] => rfl
  | k :: ks, v :: vs => by
    simp only [List.map_cons, List.zip_cons_cons]
    rw [zip_pairs (ks := ks) (vs := vs)]
    rfl
theorem zip_keys : ∀ {ks : List Str} {vs : List V}, vs.length = ks.length → ((ks.map (Sum.inr : Str → Key)).zip vs).map (·.1) = ks.map Sum.inr
  | [], _, _ => rfl
  | _ :: _, [], h => by cases h
  | k :: ks, v :: vs, h => by
    simp only [List.map_cons, List.zip_cons_cons]
    rw [zip_keys (ks := ks) (vs := vs) (by simpa using h)]
theorem merge_nd : ∀ (kvs acc : List (Key × V)), (kvs.map (·.1)).Nodup → (∀ k ∈ kvs.map (·.1), k ∉ acc.map (·.1)) → mergeK acc kvs = acc ++ kvs
  | [], acc, _, _ => by simp [mergeK]
  | p :: kvs, acc, nd, h => by
    have hp : p.1 ∉ acc.map (·.1) := h _ (by simp)
    have e : putK acc p.1 p.2 = acc ++ [(p.1, p.2)] := by
      unfold putK
      rw [if_neg]
      intro w
      obtain ⟨q, hq, e⟩ := List.any_eq_true.mp w
      exact hp (List.mem_map.mpr ⟨q, hq, of_decide_eq_true e⟩)
    show mergeK (putK acc p.1 p.2) kvs = _
    rw [e, merge_nd kvs _ (List.nodup_cons.mp nd).2 ?_]
    · simp
    · intro k hk w
      rw [List.map_append] at w
      rcases List.mem_append.mp w with w | w
      · exact h k (List.mem_cons_of_mem _ hk) w
      · simp at w
        exact (List.nodup_cons.mp nd).1 (by show p.1 ∈ _; rw [← w]; exact hk)
theorem ms_disp (i : Nat) (h : MPS C pos keys values ks g) (hnd : ks.Nodup) (h15 : ks.length ≤ 15) (hall : keys.all (·.isSome) = true) (hl : keys.length = values.length) (h0 : keys ≠ []) (hk15 : keys.length ≤ 15) : MS C (.Dict keys values pos) (mDisp i ks g) := by
  obtain ⟨trs, h1, h2⟩ := h
  refine ⟨_, pe_disp h1 hall hl h0 hk15, fun z X H0 H σ env Q k o lv c hp => fun r hr => ?_⟩
  have e0 : Evo z H (upd H r (.dK [])) := (Evo.refl _ _).new hr
  have oL := o.lock hr e0 (by rw [upd_same]; intro w; cases w)
  have h0r : H0 r = none := o.evo.fresh hr
  have hXr : ¬ X r := fun w => (o.xal r w).1 hr
  refine h2 z (X.or r) H0 _ σ env _ _ oL (e0.dk _ lv) (fun z1 ds vs H1 env1 o1 f1 kx ms r1 hln hx => ?_) hp
  obtain ⟨gg, hg, hlen, hds, hk⟩ := gsAt_e hx
  have e1 : H1 r = some (.dK []) := (kx r (.inr rfl)).trans upd_same
  have nd : (((ks.map (Sum.inr : Str → Key)).zip vs).map (·.1)).Nodup := by
    rw [zip_keys hln]
    exact hnd.map _ (fun a b ne w => ne (Sum.inr.inj w))
  refine ⟨e1, (ks.map Sum.inr).zip vs, zip_pairs, by simp [hln]; exact h15, ?_⟩
  rw [merge_nd _ [] nd (by simp), List.nil_append]
  obtain ⟨o2, f2, r2⟩ := Ok.adopt (c := .dic (dspK ks ds)) (o := .dK ((ks.map Sum.inr).zip vs)) o1 f1.live hlen hg h0r hXr e1 nofrz_dK.1 nofrz_dK.2 nofrz_dK.2 ⟨_, rfl, zip_is r1⟩
  refine c _ _ _ _ _ o2 ?_ r2 hk
  have nr : ¬ Ms z X σ env r := o.notMs hr
  have f12 := f1.trans f2
  refine ⟨fun b u q n => f12.old b u (by rw [upd_ne (ne_of_none q hr)]; exact q) fun w => ?_, fun b q => f12.al b (e0.al b q), f12.live, f12.gr, fun b q => ?_, fun b od u q hm => f12.fz b od u (by rw [upd_ne (ne_of_none q hr)]; exact q) hm⟩
  · rcases w with w | (w | w) | w
    · exact n (.inl w)
    · exact n (.inr (.inl w))
    · exact ne_of_none q hr w
    · exact n (.inr (.inr w))
  · rcases f12.zz b q with (w | (w | w) | w) | w
    · exact .inl (.inl w)
    · exact .inl (.inr (.inl w))
    · exact .inr (by rw [w]; exact hr)
    · exact .inl (.inr (.inr w))
    · exact .inr (e0.fresh w)
end
end Pu
/-! ### the state: values told of tests, text places, the law's body -/
namespace Pu
open PySem PySem.Spec PyProof.Rows L2
variable [Tbs]
section
variable {K : PySem.W.Frag} {x qual : Str} {st : Stmt} {f : Addr}
theorem fun_mkD {dvs : List V} {us : List Value} {oc : Value} {od an : Option Addr} {osl : Array (Option Value)} {kV doc pm cdv ct : Value} {T : Addr} {oc2 : Value} {od2 : Option Addr} {m2 : Nat} {osl2 : Array (Option Value)}
    (l : K.lookup f = some ⟨oc, od, .func (PySem.W.fnOf x qual (defArgs st) (defBody st) (defScope st) (.ref T) kV doc pm an cdv ct), osl⟩)
    (c : PySem.W.codeIn K cdv qual = true) (k : PySem.W.keepIn K (.ref f) = true) (lT : K.lookup T = some ⟨oc2, od2, .seq us.toArray m2, osl2⟩) (hv : Vals dvs us) (hne : dvs ≠ [] := by exact List.cons_ne_nil _ _) :
    FunD K x qual (defArgs st) (defBody st) (defScope st) dvs [] f (PySem.W.fnOf x qual (defArgs st) (defBody st) (defScope st) (.ref T) kV doc pm an cdv ct) :=
  ⟨⟨oc, od, _, kV, doc, pm, an, cdv, ct, osl, rfl, l, c, .inr ⟨hne, T, _, us, m2, rfl, lT, rfl, hv⟩, .inl rfl⟩, k⟩
end
def mA (ga : PAs) : PMA := fun env k => ga env fun ds => k env ds
section
variable {C : Cx} {e a b : Expr} {es rest : List Expr} {p q : PMX} {ga : PAs} {pos : Pos}
theorem mas_A (h : A true C es ga) : MAS C es (mA ga) := mas_a h
end
/-! a sign of a text -/
def dIxS : D → D → (D → Prop) → Prop := fun x y k => match x, y with
  | .str s, .int i => s.length ≤ 100000 ∧ ∃ c, atI s.cps.toList i = some c ∧ k (.str ⟨#[c]⟩)
  | _, _ => False
theorem opd_ixS : OpD .c .e rIxS dIxS := fun z X H0 H σ env v u x y Q k o r1 r2 c hp => by
  cases x with
  | str s =>
    cases y with
    | int i =>
      obtain ⟨hl, cc, h1, h2⟩ := hp
      exact ⟨s, i, cc, r1.strC, r2.intC, sz hl, h1, c _ _ H (Evo.refl _ _) (Is.str _) h2⟩
    | _ => exact (show False from hp).elim
  | _ => exact (show False from hp).elim
theorem e_ixS {C : Cx} {a b : Expr} {p q : PX} {pos : Pos} (ha : E .c C a p) (hb : E .c C b q) (hs : PlainIx b := by exact fun _ _ => rfl) : E .e C (.Subscript a b pos) (eOp dIxS p q) := by
  obtain ⟨ta, a1, a2⟩ := ha
  obtain ⟨tb, b1, b2⟩ := hb
  exact ⟨_, pe_ix (r := rIxS) ix_str a1 b1 hs, RE.op (by decide) opd_ixS a2 b2⟩
theorem dIxS_i {s : Str} {i : Int} {c : Nat} {k : D → Prop} (hl : s.length ≤ 100000) (e : atI s.cps.toList i = some c) (h : k (.str ⟨#[c]⟩)) : dIxS (.str s) (.int i) k := ⟨hl, c, e, h⟩
/-! the law -/
def tPSS (p : PSt) : TS := fun G σ H => ∃ z X H0 env k, Ok z X H0 H σ env ∧ z.live H ∧ SimS z X H0 (Ms z X σ env) H G k ∧ p env k
theorem BS.pss {C : Cx} {sts : List Stmt} {p : PSt} (h : BS C sts p) : PSs C sts (tPSS p) := by
  obtain ⟨t, h1, h2⟩ := h
  exact ⟨fun pins s σ H G I ⟨z, X, H0, env, k, o, l, c, hp⟩ => h1.run pins s σ H G I (h2 z X H0 H σ env G k o l c hp)⟩
theorem rss_tPS {p : PSt} : RSS (tPSS p) p := fun z X H0 H σ env G k o l c hp => ⟨z, X, H0, env, k, o, l, c, hp⟩
def envL (nt n : Nat) : List SV := SV.no :: SV.val (.deck nt) :: (List.replicate (n - 3) SV.no ++ [SV.gs []])
theorem rest_okS {t : TS} {p : PSt} {nt : Nat} (hnt : nt ≠ 0) (h : RSS t p) {N : List Str} {a dk c : Addr} {H : Hp} (hl : 3 ≤ N.length) (hd : DkF nt H dk c) (hT : Tabs H) {Q : VK} (k : ∀ H', Q (.bl true) H')
    (hp : p (envL nt N.length) { nx := fun _ => False, rt := fun _ => False, re := fun _ d => d = .bl true }) (h6 : ∀ H dk c n, CtF nt H dk c n := by intros; trivial) :
    t { nx := fun _ H' => Q .non H', rt := Q } ((L2.start N [V.ref a]).set 1 (some (.ref dk))) H := by
  have hst : (L2.start N [V.ref a]).set 1 (some (.ref dk)) = some (V.ref a) :: some (.ref dk) :: List.replicate (N.length - 2) none := by
    unfold L2.start
    obtain ⟨m, hm⟩ : ∃ m, N.length = m + 2 := ⟨N.length - 2, by omega⟩
    rw [hm]
    simp [List.replicate_succ]
  rw [hst]
  let z : Zn := ⟨dk, c, nt, Option.none, 0, []⟩
  have zal : ∀ b, z.Z b → H b ≠ none := fun b q => by
    rcases q with ⟨_, q | q | q⟩ | q
    · rw [q]; exact hd.al.1
    · rw [q]; exact hd.al.2
    · cases q
    · exact hT.at q
  have lv : z.live H := ⟨rfl, hnt, hd, h6 _ _ _ _, CsF.nil rfl⟩
  have hrep : ∀ (i : Nat) (d : SV), (envL nt N.length)[i]? = some d → d = .no ∨ (i = 1 ∧ d = .val (.deck nt)) ∨ d = .gs [] := fun i d h => by
    unfold envL at h
    match i, h with
    | 0, h => simp at h; exact .inl h.symm
    | 1, h => simp at h; exact .inr (.inl ⟨rfl, h.symm⟩)
    | j + 2, h =>
      have hm : d ∈ List.replicate (N.length - 3) SV.no ++ [SV.gs []] := List.mem_of_getElem? (by simpa only [List.getElem?_cons_succ] using h)
      rcases List.mem_append.mp hm with hm | hm
      · exact .inl (List.mem_replicate.mp hm).2
      · simp at hm; exact .inr (.inr hm)
  have o : Ok z (fun _ => False) H H (some (V.ref a) :: some (.ref dk) :: List.replicate (N.length - 2) none) (envL nt N.length) := by
    refine ⟨by unfold envL; simp; omega, Evo.refl _ _, zal, fun _ q => q.elim, fun i d h => ?_, fun i d h => ?_, fun i j b d e h _ _ _ => ?_, hT, fun i g hL h => ?_⟩
    · rcases hrep i _ h with q | ⟨rfl, q⟩ | q
      · cases q
      · cases q
        exact ⟨.ref dk, rfl, Is.deck lv⟩
      · cases q
    · rcases hrep i _ h with q | ⟨rfl, q⟩ | q <;> cases q
    · rcases hrep i _ h with q | ⟨rfl, q⟩ | q <;> cases q
    · rcases hrep i _ h with q | ⟨rfl, q⟩ | q
      · cases q
      · cases q
      · cases q
        exact ⟨lv, rfl, fun i p c e _ => by cases e⟩
  refine h z (fun _ => False) H H _ _ _ { nx := fun _ => False, rt := fun _ => False, re := fun _ d => d = .bl true } o lv ⟨fun _ _ _ _ _ _ q => q.elim, fun _ _ _ _ _ _ q => q.elim, fun _ _ _ _ _ _ q => q.elim, fun z' env' σ' d v H' _ _ r q => ?_⟩ hp
  have q : d = .bl true := q
  subst q
  cases r
  exact k H'
end Pu
/-! ### the state: a field of what a call tells -/
namespace Pu
open PySem PySem.Spec PyProof.Rows L2
variable [Tbs]
section
variable {C : Cx} {e a b : Expr} {p q : PMX} {pos : Pos} {f : Str} {c : Nat} {Cc : Addr}
def mFldM (i c : Nat) (f : Str) (p : PMX) : PMX := fun env k => p env fun env1 d => hdK d fun j => gsAt i env1 fun g => insK g j c fun fs => ∃ d', fs.lookup f = some d' ∧ k env1 d'
theorem ms_fld (i : Nat) (hcv : Tbs.cv c = .ref Cc) (hc : Cls C.K Cc) (hn : NoAttr C.K Cc f) (h : MS C e p) (hb : attributeBase e f C.env (eval e C.env) = eval e C.env := by rfl) : MS C (.Attribute e f pos) (mFldM i c f p) := by
  obtain ⟨t, h1, h2⟩ := h
  refine ⟨_, pe_fld h1 hb, fun z X H0 H σ env Q k o l ck hp => h2 z X H0 H σ env _ _ o l (fun z1 d v H1 env1 o1 f1 r1 hx => ?_) hp⟩
  obtain ⟨j, rfl, hx⟩ := hdK_e hx
  obtain ⟨g, hg, hl, hx⟩ := gsAt_e hx
  obtain ⟨fs, hj, d', hd, hk⟩ := insK_e hx
  obtain ⟨a, oo, rfl, _, ha, ⟨C', dx, fv, rfl, hv, hF⟩, _⟩ := o1.cell hl hg (show Is z1 _ H1 v (.hd j) from r1) hj
  rw [hcv] at hv
  cases hv
  obtain ⟨w, hw, iw⟩ := (hF.look f).1 d' hd
  exact ⟨a, Cc, dx, fv, w, rfl, ha, hc, hn, hw, ck z1 d' w H1 env1 o1 f1 iw hk⟩
end
end Pu
/-! a try whose body may raise: either the body's plain reading (s_tryN), or the raising one (PuXr's s_try), joined by s_or -/
namespace Pu
open PySem PySem.Spec PyProof.Rows L2
end Pu
/-! an exception class over classes over ValueError whose __init__ says super().__init__(a text) and keeps two fields -/
/-! what raises, told with the exception: its class, its two fields where it has them -/
namespace Pu
open PySem PySem.Spec PyProof.Rows L2
/-! ### a def that raises -/
end Pu
/-! isinstance of an exception that keeps fields -/
namespace Pu
open PySem PySem.Spec PyProof.Rows L2
variable [Tbs]
/-! ### the try: what may be raised, each class with its own reading of the suite -/
abbrev Alt := Nat × (Addr → Option Addr → PSt)
/-- each class that may be raised: the clause takes it, its suite is read -/
inductive AltOk (C : Cx) (fr : Bool) (c : Value) (st : List Stmt) : List Alt → Prop
  | nil : AltOk C fr c st []
  | cons {n : Nat} {D : Addr} {r : Addr → Option Addr → PSt} {al : List Alt} (hcv : Tbs.cv n = .ref D) (hm : PySem.W.exmOne C.K (.ref D) c = some true)
      (hsu : ∀ (a : Addr) (oe : Obj) (d : Option Addr) (pn : List (Addr × Obj)), Zc (.ref D) d oe → (∃ vs, oe.data = .fields vs) → B fr (C.suite a ((a, oe) :: pn)) st (r a d)) (h : AltOk C fr c st al) : AltOk C fr c st ((n, r) :: al)
theorem AltOk.at {C : Cx} {fr : Bool} {c : Value} {st : List Stmt} {al : List Alt} (h : AltOk C fr c st al) : ∀ l ∈ al, PySem.W.exmOne C.K (Tbs.cv l.1) c = some true ∧ ∀ (a : Addr) (oe : Obj) (d : Option Addr) (pn : List (Addr × Obj)), Zc (Tbs.cv l.1) d oe → (∃ vs, oe.data = .fields vs) → B fr (C.suite a ((a, oe) :: pn)) st (l.2 a d) := by
  induction h with
  | nil => intro l hl; cases hl
  | cons hcv hm hsu _ ih =>
    intro l hl
    rcases List.mem_cons.mp hl with e | e
    · subst e
      dsimp only
      rw [hcv]
      exact ⟨hm, hsu⟩
    · exact ih l e
end Pu
/-!
x in a tuple or list of texts; x in a list of anything plain
-/
namespace Pu
open PySem PySem.Spec PyProof.Rows L2
variable [Tbs]
def dInS (neg : Bool) : D → D → (D → Prop) → Prop := fun x y k => ∃ (s : Str) (ss : List Str), x = .str s ∧ (y = .tup (ss.map D.str) ∨ y = .lst (ss.map D.str)) ∧ k (.bl (if neg then !decide (s ∈ ss) else decide (s ∈ ss)))
theorem IsA.strs {z : Zn} {M : AP} {H : Hp} : ∀ {vs : List V} {ss : List Str}, IsA z M H vs (ss.map D.str) → vs = ss.map V.str
  | [], [], _ => rfl
  | v :: vs, s :: ss, h => by
    cases h with
    | cons h1 h2 =>
      cases h1
      rw [IsA.strs h2]
      rfl
theorem flatStrs : ∀ ss : List Str, (ss.map V.str).all flatV = true
  | [] => rfl
  | n :: ns => by simp only [List.map_cons, List.all_cons, flatStrs ns, Bool.and_true]; rfl
theorem inS {s : Str} : ∀ ss : List Str, inV (.str s) (ss.map V.str) = decide (s ∈ ss)
  | [] => rfl
  | t :: ss => by
    have ih := inS (s := s) ss
    unfold inV at ih ⊢
    rw [List.map_cons, List.any_cons, ih]
    show (t == s || _) = _
    by_cases h : t = s
    · simp [h]
    · have h' : ¬ s = t := fun e => h e.symm
      simp [h, h']
theorem opd_inS {K : PySem.W.Frag} {neg : Bool} : OpD .b .e (rIn K neg) (dInS neg) := fun z X H0 H σ env v u x y Q k o r1 r2 c hp => by
  obtain ⟨s, ss, rfl, hs, hk⟩ := hp
  cases (show Is z _ H v (.str s) from r1)
  have fin : ∀ vs : List V, IsA z (Zx z X) H vs (ss.map D.str) → Q (.bl (if neg then !inV (.str s) vs else inV (.str s) vs)) H := fun vs h => by
    rw [h.strs, inS]
    exact c _ _ H (Evo.refl _ _) (Is.bl _) hk
  rcases hs with rfl | rfl
  · cases (show Is z _ H u _ from r2) with
    | tup e n r => exact ⟨_, _, rfl, .inr (SqT.of e), rfl, by rw [IsA.strs r]; exact flatStrs ss, fin _ r⟩
  · cases (show Is z _ H u _ from r2) with
    | lst e n r => exact ⟨_, _, rfl, .inl (SqL.of e), rfl, by rw [IsA.strs r]; exact flatStrs ss, fin _ r⟩
end Pu
set_option maxHeartbeats 1000000
/-! all(.. for .. in .. if .. for .. in .. if ..), any(..): two clauses -/
namespace GnX
open PySem PySem.Spec PyProof.Rows L2 GenW GxR
end GnX
namespace Pu
open PySem PySem.Spec PyProof.Rows L2
open GnX GxR
/-! ### readings -/
/-! a comprehension over an owned list into a plain name -/
end Pu
namespace Pu
open PySem PySem.Spec PyProof.Rows L2
/-! ### repr of nested tuples and lists, where nothing is being shown yet -/
/-! ### which things are shown -/
end Pu
namespace Pu
open PySem PySem.Spec PyProof.Rows L2
/-! ### the law run from its one caller: nothing is being shown there -/
end Pu
namespace Pu
open PySem PySem.Spec PyProof.Rows L2
/-! sorted(t), t a tuple of whole numbers -/
/-! {k: v}, whole numbers -/
/-! a def that shows things: run where nothing is being shown -/
end Pu
namespace Pu
open PySem PySem.Spec PyProof.Rows L2
section
variable [Tbs]
/-! ### repr of a thing of any kind: None, truths, numbers, texts, tuples, lists, {} -/
mutual
def pe : D → PyData
  | .non => .none
  | .bl b => .bool b
  | .int i => .int i
  | .str s => .str s
  | .tup xs => .tuple (peA xs)
  | .lst xs => .list (peA xs)
  | .dic [(.inr s, .int i)] => .dict [(.str s, .int i)]
  | .dic _ => .dict []
  | .ty _ => .none
  | .deck _ => .none
  | .dpr _ => .none
  | .dfz _ => .none
  | .st _ => .none
  | .bor _ => .none
  | .opq _ => .none
  | .xf _ _ _ _ => .none
  | .dpd _ => .none
  | .hd _ => .none
def peA : List D → List PyData
  | [] => []
  | x :: xs => pe x :: peA xs
end
end
/-! ### a law that shows things: run from its one caller, with tables -/
/-! ### t[::-1] of any tuple -/
end Pu
/-! == with a text, whatever the other one is -/
namespace PySem.SeqAt
open MeetsSeq
end PySem.SeqAt
namespace Pu
open PySem PySem.Spec PyProof.Rows L2
end Pu
/-! str(number); {'text': number} -/
namespace Pu
open PySem PySem.Spec PyProof.Rows L2
end Pu
/-! texts: f-strings, methods of a text, signs of a text, int(text) -/
namespace Pu
open PySem PySem.Spec PyProof.Rows L2
variable [Tbs]
def strK (d : D) (k : Str → Prop) : Prop := match d with
  | .str s => k s
  | _ => False
theorem strK_of {d : D} {k : Str → Prop} (h : strK d k) : ∃ s, d = .str s ∧ k s := by
  unfold strK at h
  split at h
  · exact ⟨_, rfl, h⟩
  · exact h.elim
theorem strK_i {s : Str} {k : Str → Prop} (h : k s) : strK (.str s) k := h
theorem Rel.strB {z : Zn} {X : AP} {H H' : Hp} {σ : Sl} {env : List SV} {v : V} {s : Str} (h : Rel .b z X H H' σ env v (.str s)) : v = .str s := by
  cases (show Is z _ H' v (.str s) from h); rfl
/-! f'..{x}..' -/
/-! methods of a text with one argument -/
theorem rel_back {z : Zn} {X : AP} {H H2 H3 : Hp} {σ : Sl} {env : List SV} {v : V} {d : D} {m : Mode} (e : Evo z H H2) (h : Rel m z X H2 H3 σ env v d) : Rel m z X H H3 σ env v d := by
  cases m with
  | f =>
    obtain ⟨a, q, hn, hc⟩ := h
    exact ⟨a, q, e.fresh hn, hc⟩
  | e => exact h
  | c => exact h
  | b => exact h
def eM1 (g : Str → D → (D → Prop) → Prop) (p q : PX) : PX := fun env k => p env fun x => strK x fun a => q env fun y => g a y k
def MtD (mo : Mode) (r : V → List V → Hp → VK → Prop) (g : Str → D → (D → Prop) → Prop) : Prop := ∀ (z : Zn) (X : AP) (H0 H : Hp) (σ : Sl) (env : List SV) (v : V) (a : Str) (y : D) (Q : VK) (k : D → Prop), Ok z X H0 H σ env → Rel .b z X H H σ env v y →
  (∀ d w H', Evo z H H' → Rel mo z X H H' σ env w d → k d → Q w H') → g a y k → r (.str a) [v] H Q
theorem e_m1 {C : Cx} {o e : Expr} {p q : PX} {m m' mo : Mode} {r : V → List V → Hp → VK → Prop} {g : Str → D → (D → Prop) → Prop} {id : String} {name : Str} {apos pos : Pos} (slot : Slot "str" name id) (ty : typeOf (.builtin id) = pure (.type "method_descriptor")) (rule : MtR C id r) (hd : MtD mo r g)
    (ha : E m C o p) (hb : E m' C e q) (hs : starEach [e] C.env = [(false, eval e C.env)] := by rfl) (hbase : attributeBase o name C.env (eval o C.env) = eval o C.env := by rfl) (hline : (apos.endLine == pos.line) = true := by rfl) : E mo C (.Call (.Attribute o name apos) [e] [] pos) (eM1 g p q) := by
  obtain ⟨t, a1, a2⟩ := ha.toB
  obtain ⟨u, b1, b2⟩ := hb.toB
  refine ⟨_, pe_m1 slot ty rule a1 b1 hs hbase hline, fun z X H0 H σ env Q k o c hp => a2 z X H0 H σ env _ _ o (fun d v H1 e1 r1 hx => ?_) hp⟩
  obtain ⟨a, rfl, hx⟩ := strK_of hx
  cases r1.strB
  refine ⟨⟨a, rfl⟩, b2 z X H0 H1 σ env _ _ (o.go e1) (fun y w H2 e2 r2 hy => ?_) hx⟩
  exact hd z X H0 H2 σ env w a y _ k ((o.go e1).go e2) r2 (fun d w' H3 e3 r3 kd => c d w' H3 ((e1.trans e2).trans e3) (rel_back (e1.trans e2) r3) kd) hy
theorem eM1_i {g : Str → D → (D → Prop) → Prop} {p q : PX} {env : List SV} {k : D → Prop} (h : p env fun x => strK x fun a => q env fun y => g a y k) : eM1 g p q env k := h
def gJoin : Str → D → (D → Prop) → Prop := fun a y k => ∃ ys : List Str, (y = .lst (ys.map D.str) ∨ y = .tup (ys.map D.str)) ∧ (ys.map (·.length)).sum + ys.length * a.length ≤ 16777216 ∧ k (.str (Txt.join a ys))
theorem isA_strs {z : Zn} {M : AP} {H : Hp} : ∀ {ys : List Str} {vs : List V}, IsA z M H vs (ys.map D.str) → vs = ys.map V.str
  | [], _, h => by cases h; rfl
  | y :: ys, _, h => by
    cases h with
    | cons h t =>
      cases h
      rw [isA_strs t]
      rfl
theorem md_join {K : PySem.W.Frag} : MtD .e (fun x xs H Q => ∃ a p, ∃ ys : List Str, x = .str a ∧ xs = [.ref p] ∧ (SqL K H p (ys.map V.str) ∨ SqT K H p (ys.map V.str)) ∧ (ys.map (·.length)).sum + ys.length * a.length ≤ 16777216 ∧ Q (.str (Txt.join a ys)) H) gJoin := fun z X H0 H σ env v a y Q k o r c hp => by
  obtain ⟨ys, hy, hl, hk⟩ := hp
  rcases hy with rfl | rfl
  · cases (show Is z _ H v (.lst (ys.map D.str)) from r) with
    | lst h1 h2 h3 =>
      rw [isA_strs h3] at h1
      exact ⟨a, _, ys, rfl, rfl, .inl (SqL.of h1), hl, c _ _ H (Evo.refl _ _) (Is.str _) hk⟩
  · cases (show Is z _ H v (.tup (ys.map D.str)) from r) with
    | tup h1 h2 h3 =>
      rw [isA_strs h3] at h1
      exact ⟨a, _, ys, rfl, rfl, .inr (SqT.of h1), hl, c _ _ H (Evo.refl _ _) (Is.str _) hk⟩
theorem gJoin_l {a : Str} {ys : List Str} {k : D → Prop} (hl : (ys.map (·.length)).sum + ys.length * a.length ≤ 16777216) (h : k (.str (Txt.join a ys))) : gJoin a (.lst (ys.map D.str)) k := ⟨ys, .inl rfl, hl, h⟩
/-! int(text) -/
/-! signs of a text -/
/-! one sign in a text -/
/-! xs += ys, xs a list of the def's own -/
end Pu
namespace Ew
open PySem PySem.Spec PyProof.Rows L2 Pu
variable [Tbs]
def wp__law_draw : List D → (D → Prop) → Prop := fun ds k => match ds with
  | [.deck 1, .int m] => (0 < m ∧ m < 1073741824) ∧ ∀ t : Int, 0 ≤ t → t < m → k (.int t)
  | _ => False
def P_spot_of : PSt := (sRet (eTup (aCons (eOp dMul (eV 0) (eOp dAdd (eV 1) (eV 2))) (aCons (eOp dMul (eV 0) (eOp dSub (eV 1) (eV 2))) aNil))))
def wp_spot_of : List D → (D → Prop) → Prop := wpOf false 3 P_spot_of
def P_grown : PSt := (sSeq (sAsg (eV 0) (gtTup 4 (gtCons (gtName 2) (gtCons (gtName 3) (gtCons (gtName 4) (gtCons (gtName 5) gtNil))))))
    (sRet (eTup (aCons (eOp dSub (eV 2) (eV 1)) (aCons (eOp dAdd (eV 3) (eV 1)) (aCons (eOp dSub (eV 4) (eV 1)) (aCons (eOp dAdd (eV 5) (eV 1)) aNil)))))))
def wp_grown : List D → (D → Prop) → Prop := wpOf false 6 P_grown
def P_met : PSt := (sSeq (sSet 2 (eCall gMaxN (aCons (eOp dIx (eV 0) (eC (.int 0))) (aCons (eOp dIx (eV 1) (eC (.int 0))) aNil))))
    (sSeq (sSet 3 (eCall gMinN (aCons (eOp dIx (eV 0) (eC (.int 1))) (aCons (eOp dIx (eV 1) (eC (.int 1))) aNil))))
    (sSeq (sSet 4 (eCall gMaxN (aCons (eOp dIx (eV 0) (eC (.int 2))) (aCons (eOp dIx (eV 1) (eC (.int 2))) aNil))))
    (sSeq (sSet 5 (eCall gMinN (aCons (eOp dIx (eV 0) (eC (.int 3))) (aCons (eOp dIx (eV 1) (eC (.int 3))) aNil))))
    (sSeq (sIf (tOrP (tOf (eOp dGt (eV 2) (eV 3))) (tOf (eOp dGt (eV 4) (eV 5)))) (sRet (eC .non)) sNext)
    (sRet (eTup (aCons (eV 2) (aCons (eV 3) (aCons (eV 4) (aCons (eV 5) aNil)))))))))))
def wp_met : List D → (D → Prop) → Prop := wpOf false 6 P_met
def P_apart : PSt := (sRet (eCall gMaxN (aCons (eC (.int 0)) (aCons (eOp dSub (eOp dIx (eV 0) (eC (.int 0))) (eOp dIx (eV 1) (eC (.int 1)))) (aCons (eOp dSub (eOp dIx (eV 1) (eC (.int 0))) (eOp dIx (eV 0) (eC (.int 1)))) (aCons (eOp dSub (eOp dIx (eV 0) (eC (.int 2))) (eOp dIx (eV 1) (eC (.int 3)))) (aCons (eOp dSub (eOp dIx (eV 1) (eC (.int 2))) (eOp dIx (eV 0) (eC (.int 3)))) aNil)))))))
def wp_apart : List D → (D → Prop) → Prop := wpOf false 2 P_apart
def P_steps : PSt := (sRet (eOp dAdd (eCall gAbs (aCons (eOp dSub (eOp dIx (eV 0) (eC (.int 0))) (eOp dIx (eV 1) (eC (.int 0)))) aNil)) (eCall gAbs (aCons (eOp dSub (eOp dIx (eV 0) (eC (.int 1))) (eOp dIx (eV 1) (eC (.int 1)))) aNil))))
def wp_steps : List D → (D → Prop) → Prop := wpOf false 2 P_steps
def P_wanted : PSt := (sSeq (sSet 3 (eOp dIx (eV 0) (eV 1)))
    (sSeq (sSet 4 (eOp dIx (eV 0) (eV 2)))
    (sRet (eOp dAdd (eOp dAdd (eOp dIx (eV 3) (eC (.int 2))) (eOp dIx (eV 4) (eC (.int 2)))) (eCall (fun ds k => ds.length = 2 ∧ wp_steps ds k) (aCons (eSl (eV 3) oNo (oPart (eC (.int 2)))) (aCons (eSl (eV 4) oNo (oPart (eC (.int 2)))) aNil)))))))
def wp_wanted : List D → (D → Prop) → Prop := wpOf false 5 P_wanted
def P_height_of : PSt := (sRet (eCall gMaxL (aCons (eLc2 [2, 3] [3] (iSeq (eV 1)) (gtName 2) (fun _ k => k true) (iSeq (eV 1)) (gtName 3) (fun _ k => k true) (eCall (fun ds k => ds.length = 3 ∧ wp_wanted ds k) (aCons (eV 0) (aCons (eV 2) (aCons (eV 3) aNil))))) aNil)))
def wp_height_of : List D → (D → Prop) → Prop := wpOf false 4 P_height_of
def P_reached : PSt := (sSeq (sAsg (eCall (fun ds k => ds.length = 3 ∧ wp_spot_of ds k) (aCons (eC (.int 2)) (aCons (eOp dIx (eV 0) (eC (.int 0))) (aCons (eOp dIx (eV 0) (eC (.int 1))) aNil)))) (gtTup 2 (gtCons (gtName 2) (gtCons (gtName 3) gtNil))))
    (sRet (eCall (fun ds k => ds.length = 2 ∧ wp_grown ds k) (aCons (eTup (aCons (eV 2) (aCons (eV 2) (aCons (eV 3) (aCons (eV 3) aNil))))) (aCons (eOp dSub (eV 1) (eOp dMul (eC (.int 2)) (eOp dIx (eV 0) (eC (.int 2))))) aNil)))))
def wp_reached : List D → (D → Prop) → Prop := wpOf false 4 P_reached
def P_row_of : PSt := (sSeq (sSet 2 (eCall (fun ds k => ds.length = 2 ∧ wp_height_of ds k) (aCons (eV 0) (aCons (eV 1) aNil))))
    (sSeq (sSet 3 (eCall (fun ds k => ds.length = 2 ∧ wp_reached ds k) (aCons (eOp dIx (eV 0) (eOp dIx (eV 1) (eC (.int 0)))) (aCons (eV 2) aNil))))
    (sSeq (sFor (iSeq (eSl (eV 1) (oPart (eC (.int 1))) oNo)) (gtName 4)
    (sSet 3 (eCall (fun ds k => ds.length = 2 ∧ wp_met ds k) (aCons (eV 3) (aCons (eCall (fun ds k => ds.length = 2 ∧ wp_reached ds k) (aCons (eOp dIx (eV 0) (eV 4)) (aCons (eV 2) aNil))) aNil)))))
    (sRet (eTup (aCons (eV 2) (aCons (eV 3) aNil)))))))
def wp_row_of : List D → (D → Prop) → Prop := wpOf false 5 P_row_of
def P_joined : PSt := (sSeq (sAsg (eV 0) (gtTup 2 (gtCons (gtName 2) (gtCons (gtName 3) gtNil))))
    (sSeq (sAsg (eV 1) (gtTup 2 (gtCons (gtName 4) (gtCons (gtName 5) gtNil))))
    (sSeq (sSet 6 (eCall (fun ds k => ds.length = 2 ∧ wp_apart ds k) (aCons (eV 3) (aCons (eV 5) aNil))))
    (sSeq (sSet 7 (eCall gMaxN (aCons (eV 2) (aCons (eV 4) (aCons (eOp dDiv (eOp dAdd (eOp dAdd (eV 2) (eV 4)) (eV 6)) (eC (.int 2))) aNil)))))
    (sSeq (sSet 8 (eOp dSub (eV 7) (eV 2)))
    (sSeq (sSet 9 (eOp dSub (eV 7) (eV 4)))
    (sRet (eTup (aCons (eV 7) (aCons (eCall (fun ds k => ds.length = 2 ∧ wp_met ds k) (aCons (eCall (fun ds k => ds.length = 2 ∧ wp_grown ds k) (aCons (eV 3) (aCons (eV 8) aNil))) (aCons (eCall (fun ds k => ds.length = 2 ∧ wp_grown ds k) (aCons (eV 5) (aCons (eV 9) aNil))) aNil))) (aCons (eV 8) (aCons (eV 9) aNil))))))))))))
def wp_joined : List D → (D → Prop) → Prop := wpOf false 10 P_joined
def P_Knot___init__ : PSt := (sSeq (sFldS 4 0 "name" (eV 0) (mE (eV 1)))
    (sSeq (sFldS 4 0 "end" (eV 0) (mE (eV 2)))
    (sSeq (sFldS 4 0 "sides" (eV 0) (mE (eV 3)))
    (sSeq (sFldS 4 0 "above" (eV 0) (mE (eC .non)))
    (sSeq (sFldS 4 0 "stand" (eV 0) (mE (eC .non)))
    (sFldS 4 0 "weight" (eV 0) (mE (eC (.int 0)))))))))
def wp_Knot___init__ : List D → List Cell → (D → List Cell → Prop) → Prop := wpOfS 5 P_Knot___init__
def P_end_knot : PSt := (sSeq (sSetM 2 (mMakeS 3 4 0 [] wp_Knot___init__ (mA (aCons (eV 0) (aCons (eV 1) (aCons (eTup aNil) aNil))))))
    (sSeq (sFldS 3 0 "stand" (eV 2) (mE (eCall (fun ds k => ds.length = 2 ∧ wp_row_of ds k) (aCons (eTup (aCons (eV 1) aNil)) (aCons (eTup (aCons (eC (.int 0)) aNil)) aNil)))))
    (sSeq (sFldS 3 0 "weight" (eV 2) (mE (eOp dIx (eV 1) (eC (.int 3)))))
    (sRetS (mE (eV 2))))))
def wp_end_knot : List D → List Cell → (D → List Cell → Prop) → Prop := wpOfS 4 P_end_knot
def P__law_path (W : List D → (D → Prop) → Prop) : PSt := (sSeq (sIf (tOf (eCall gIsi (aCons (eV 0) (aCons (eC (.ty "str")) aNil)))) (sRet (eOp dIx (eLst (aCons (eC .non) (aCons (eLst aNil) aNil))) (eCall gInt (aCons (eOp dEq (eV 0) (eV 1)) aNil)))) sNext)
    (sSeq (sFor (iSeq (eTup (aCons (eC (.int 0)) (aCons (eC (.int 1)) aNil)))) (gtName 2)
    (sSeq (sSet 3 (eC .non))
    (sSeq (sIf (tOf (eOp (dEmp true) (eV 0) (eTup aNil))) (sSet 3 (eCall (fun ds k => ds.length = 2 ∧ W ds k) (aCons (eOp dIx (eV 0) (eV 2)) (aCons (eV 1) aNil)))) sNext)
    (sIf (tOf (eOp (dIs true) (eV 3) (eC .non))) (sRet (eOp dAdd (eLst (aCons (eV 2) aNil)) (eV 3))) sNext))))
    (sRet (eC .non))))
def wpR__law_path : Nat → List D → (D → Prop) → Prop
  | 0 => fun _ _ => False
  | m + 1 => wpOf false 4 (P__law_path (wpR__law_path m))
def wp__law_path : List D → (D → Prop) → Prop := wpR__law_path 26
def P__law_knot : PSt := (sSeq (sFor (iSeq (eV 1)) (gtName 2)
    (sSet 0 (eOp dIx (eV 0) (eV 2))))
    (sRet (eV 0)))
def wp__law_knot : List D → (D → Prop) → Prop := wpOf false 3 P__law_knot
def P__law_put (W : List D → (D → Prop) → Prop) : PSt := (sSeq (sIf (tOf (eOp (dEmp false) (eV 1) (eLst aNil))) (sRet (eV 2)) sNext)
    (sSeq (sOwn 3 (eUn dList (eV 0)))
    (sSeq (sPut 3 (eOp dIx (eV 1) (eC (.int 0))) (eCall (fun ds k => ds.length = 3 ∧ W ds k) (aCons (eOp dIx (eV 0) (eOp dIx (eV 1) (eC (.int 0)))) (aCons (eSl (eV 1) (oPart (eC (.int 1))) oNo) (aCons (eV 2) aNil)))))
    (sFrz 3 (sRet (eUn dTuple (eV 3)))))))
def wpR__law_put : Nat → List D → (D → Prop) → Prop
  | 0 => fun _ _ => False
  | m + 1 => wpOf false 4 (P__law_put (wpR__law_put m))
def wp__law_put : List D → (D → Prop) → Prop := wpR__law_put 26
def P__law_names_in (W : List D → (D → Prop) → Prop) : PSt := (sSeq (sIf (tOf (eCall gIsi (aCons (eV 0) (aCons (eC (.ty "str")) aNil)))) (sRet (eLst (aCons (eV 0) aNil))) sNext)
    (sRet (eOp dAdd (eCall (fun ds k => ds.length = 1 ∧ W ds k) (aCons (eOp dIx (eV 0) (eC (.int 0))) aNil)) (eCall (fun ds k => ds.length = 1 ∧ W ds k) (aCons (eOp dIx (eV 0) (eC (.int 1))) aNil)))))
def wpR__law_names_in : Nat → List D → (D → Prop) → Prop
  | 0 => fun _ _ => False
  | m + 1 => wpOf false 1 (P__law_names_in (wpR__law_names_in m))
def wp__law_names_in : List D → (D → Prop) → Prop := wpR__law_names_in 26
def P__law_empty : PSt := (sRetS (mDisp 0 ["tree", "ends", "times"] (mCons (mE (eTup aNil)) (mCons (mNew 0) (mCons (mE (eC (.int 0))) mNil)))))
def wp__law_empty : List D → List Cell → (D → List Cell → Prop) → Prop := wpOfS 1 P__law_empty
def P__law_come : PSt := (sSeq (sIf (tOf (eEmpS 6 false (eSubS 6 (eV 0) (eC (.str (Str.ofString "ends")))))) (sPutS 6 (eV 0) (eC (.str (Str.ofString "tree"))) (mE (eV 1))) (sSeq (sSet 5 (eCall (fun ds k => ds.length = 2 ∧ wp__law_path ds k) (aCons (eSubS 6 (eV 0) (eC (.str (Str.ofString "tree")))) (aCons (eV 3) aNil))))
    (sSeq (sSet 5 (eSl (eV 5) oNo (oPart (eOp dSub (eCall gLen (aCons (eV 5) aNil)) (eV 4)))))
    (sSeq (sPutS 6 (eV 0) (eC (.str (Str.ofString "tree"))) (mE (eCall (fun ds k => ds.length = 3 ∧ wp__law_put ds k) (aCons (eSubS 6 (eV 0) (eC (.str (Str.ofString "tree")))) (aCons (eV 5) (aCons (eTup (aCons (eCall (fun ds k => ds.length = 2 ∧ wp__law_knot ds k) (aCons (eSubS 6 (eV 0) (eC (.str (Str.ofString "tree")))) (aCons (eV 5) aNil))) (aCons (eV 1) aNil))) aNil))))))
    (sPutS 6 (eV 0) (eC (.str (Str.ofString "times"))) (mE (eOp dAdd (eOp dAdd (eSubS 6 (eV 0) (eC (.str (Str.ofString "times")))) (eC (.int 1))) (eCall gLen (aCons (eV 5) aNil)))))))))
    (sPutS 6 (eSubS 6 (eV 0) (eC (.str (Str.ofString "ends")))) (eV 1) (mE (eV 2))))
def wp__law_come : List D → List Cell → (D → List Cell → Prop) → Prop := wpOfS 7 P__law_come
def P__law_go : PSt := (sSeq (sSet 2 (eCall (fun ds k => ds.length = 2 ∧ wp__law_path ds k) (aCons (eSubS 4 (eV 0) (eC (.str (Str.ofString "tree")))) (aCons (eV 1) aNil))))
    (sSeq (sDropM (mPopS 4 (eSubS 4 (eV 0) (eC (.str (Str.ofString "ends")))) (eV 1)))
    (sIf (tOf (eOp (dEmp false) (eV 2) (eLst aNil))) (sPutS 4 (eV 0) (eC (.str (Str.ofString "tree"))) (mE (eTup aNil))) (sSeq (sSet 3 (eCall (fun ds k => ds.length = 2 ∧ wp__law_knot ds k) (aCons (eSubS 4 (eV 0) (eC (.str (Str.ofString "tree")))) (aCons (eOp dAdd (eSl (eV 2) oNo (oPart (eUn dNeg (eC (.int 1))))) (eLst (aCons (eOp dSub (eC (.int 1)) (eOp dIx (eV 2) (eUn dNeg (eC (.int 1))))) aNil))) aNil))))
    (sSeq (sPutS 4 (eV 0) (eC (.str (Str.ofString "tree"))) (mE (eCall (fun ds k => ds.length = 3 ∧ wp__law_put ds k) (aCons (eSubS 4 (eV 0) (eC (.str (Str.ofString "tree")))) (aCons (eSl (eV 2) oNo (oPart (eUn dNeg (eC (.int 1))))) (aCons (eV 3) aNil))))))
    (sPutS 4 (eV 0) (eC (.str (Str.ofString "times"))) (mE (eOp dSub (eOp dAdd (eSubS 4 (eV 0) (eC (.str (Str.ofString "times")))) (eCall gLen (aCons (eV 2) aNil))) (eC (.int 1))))))))))
def wp__law_go : List D → List Cell → (D → List Cell → Prop) → Prop := wpOfS 5 P__law_go
def P__law_pool : PSt := (sSeq (sSet 1 (eC (.str (Str.ofString "abcdefghijklmnopqrstuvwxyz"))))
    (sSeq (sSet 2 (eOp dAdd (eC (.int 1)) (eCall (fun ds k => ds.length = 2 ∧ wp__law_draw ds k) (aCons (eV 0) (aCons (eC (.int 8)) aNil)))))
    (sSeq (sSet 3 (eCall (fun ds k => ds.length = 2 ∧ wp__law_draw ds k) (aCons (eV 0) (aCons (eV 2) aNil))))
    (sSeq (sOwn 4 (eLc [5] (iRange1 (aCons (eV 2) aNil)) (gtName 5) (fun _ k => k true) (eOp dIxS (eV 1) (eCall (fun ds k => ds.length = 2 ∧ wp__law_draw ds k) (aCons (eV 0) (aCons (eC (.int 26)) aNil))))))
    (sSeq (sSet 6 (eCall (fun ds k => ds.length = 2 ∧ wp__law_draw ds k) (aCons (eV 0) (aCons (eC (.int 26)) aNil))))
    (sSeq (sOwn 7 (eLst aNil))
    (sSeq (sFor (iRange1 (aCons (eC (.int 26)) aNil)) (gtName 5)
    (sSeq (sPut 4 (eV 3) (eOp dIxS (eV 1) (eOp dMod (eOp dAdd (eV 6) (eOp dMul (eC (.int 7)) (eV 5))) (eC (.int 26)))))
    (sAppend 7 (eM1 gJoin (eC (.str (Str.ofString ""))) (eO 4)))))
    (sFrz 4 (sRetO 7)))))))))
def wp__law_pool : List D → (D → Prop) → Prop := wpOf false 8 P__law_pool
def P__law_number : PSt := (sSeq (sIf (tOf (eOp dEq (eV 1) (eC (.int 0)))) (sRet (eCall (fun ds k => ds.length = 2 ∧ wp__law_draw ds k) (aCons (eV 0) (aCons (eC (.int 7)) aNil)))) sNext)
    (sSeq (sIf (tOf (eOp dEq (eV 1) (eC (.int 1)))) (sRet (eOp dDiv (eOp dIx (eLst (aCons (eC (.int 1000000)) (aCons (eUn dNeg (eC (.int 1000000))) aNil))) (eCall (fun ds k => ds.length = 2 ∧ wp__law_draw ds k) (aCons (eV 0) (aCons (eC (.int 2)) aNil)))) (eOp dAdd (eC (.int 1)) (eCall (fun ds k => ds.length = 2 ∧ wp__law_draw ds k) (aCons (eV 0) (aCons (eC (.int 3)) aNil)))))) sNext)
    (sRet (eOp dSub (eCall (fun ds k => ds.length = 2 ∧ wp__law_draw ds k) (aCons (eV 0) (aCons (eOp dAdd (eOp dMul (eC (.int 2)) (eC (.int 1000000))) (eC (.int 1))) aNil))) (eC (.int 1000000))))))
def wp__law_number : List D → (D → Prop) → Prop := wpOf false 2 P__law_number
def P__law_end : PSt := (sSeq (sSet 2 (eLst (aCons (eCall (fun ds k => ds.length = 2 ∧ wp__law_number ds k) (aCons (eV 0) (aCons (eV 1) aNil))) (aCons (eCall (fun ds k => ds.length = 2 ∧ wp__law_number ds k) (aCons (eV 0) (aCons (eV 1) aNil))) aNil))))
    (sSeq (sSet 3 (eOp dIx (eLst (aCons (eC (.int 0)) (aCons (eC (.int 0)) (aCons (eCall (fun ds k => ds.length = 2 ∧ wp__law_draw ds k) (aCons (eV 0) (aCons (eC (.int 6)) aNil))) (aCons (eCall (fun ds k => ds.length = 2 ∧ wp__law_draw ds k) (aCons (eV 0) (aCons (eOp dAdd (eC (.int 1000000)) (eC (.int 1))) aNil))) aNil))))) (eCall (fun ds k => ds.length = 2 ∧ wp__law_draw ds k) (aCons (eV 0) (aCons (eC (.int 4)) aNil)))))
    (sRet (eTup (aCons (eOp dIx (eV 2) (eC (.int 0))) (aCons (eOp dIx (eV 2) (eC (.int 1))) (aCons (eV 3) (aCons (eOp dIx (eLst (aCons (eCall (fun ds k => ds.length = 2 ∧ wp__law_draw ds k) (aCons (eV 0) (aCons (eC (.int 10)) aNil))) (aCons (eCall (fun ds k => ds.length = 2 ∧ wp__law_draw ds k) (aCons (eV 0) (aCons (eOp dAdd (eC (.int 1000000)) (eC (.int 1))) aNil))) aNil))) (eCall (fun ds k => ds.length = 2 ∧ wp__law_draw ds k) (aCons (eV 0) (aCons (eC (.int 2)) aNil)))) aNil))))))))
def wp__law_end : List D → (D → Prop) → Prop := wpOf false 4 P__law_end
def P__law_beside : PSt := (sSeq (sSet 2 (gsList 5 (eSubS 5 (eV 1) (eC (.str (Str.ofString "ends"))))))
    (sSeq (sSet 3 (eOp dIx (eV 2) (eCall (fun ds k => ds.length = 2 ∧ wp__law_draw ds k) (aCons (eV 0) (aCons (eCall gLen (aCons (eV 2) aNil)) aNil)))))
    (sSeq (sSet 4 (eCall gLen (aCons (eCall (fun ds k => ds.length = 2 ∧ wp__law_path ds k) (aCons (eSubS 5 (eV 1) (eC (.str (Str.ofString "tree")))) (aCons (eV 3) aNil))) aNil)))
    (sRetS (mE (eTup (aCons (eV 3) (aCons (eOp dIx (eLst (aCons (eCall (fun ds k => ds.length = 2 ∧ wp__law_draw ds k) (aCons (eV 0) (aCons (eOp dAdd (eV 4) (eC (.int 1))) aNil))) (aCons (eV 4) (aCons (eC (.int 0)) aNil)))) (eCall (fun ds k => ds.length = 2 ∧ wp__law_draw ds k) (aCons (eV 0) (aCons (eC (.int 3)) aNil)))) aNil))))))))
def wp__law_beside : List D → List Cell → (D → List Cell → Prop) → Prop := wpOfS 6 P__law_beside
def P__law_row : PSt := (sSeq (sSet 1 (eC (.int 0)))
    (sSeq (sFor (iSeq (eV 0)) (gtName 2)
    (sFor (iSeq (eV 0)) (gtName 3)
    (sSeq (sSet 4 (eOp dAdd (eCall gAbs (aCons (eOp dSub (eOp dIx (eV 2) (eC (.int 0))) (eOp dIx (eV 3) (eC (.int 0)))) aNil)) (eCall gAbs (aCons (eOp dSub (eOp dIx (eV 2) (eC (.int 1))) (eOp dIx (eV 3) (eC (.int 1)))) aNil))))
    (sSet 1 (eCall gMaxN (aCons (eV 1) (aCons (eOp dAdd (eOp dAdd (eV 4) (eOp dIx (eV 2) (eC (.int 2)))) (eOp dIx (eV 3) (eC (.int 2)))) aNil)))))))
    (sSeq (sSet 5 (eTup aNil))
    (sSeq (sFor (iSeq (eTup (aCons (eC (.int 1)) (aCons (eUn dNeg (eC (.int 1))) aNil)))) (gtName 6)
    (sSeq (sSet 7 (eLc [8] (iSeq (eV 0)) (gtName 8) (fun _ k => k true) (eTup (aCons (eOp dMul (eC (.int 2)) (eOp dAdd (eOp dIx (eV 8) (eC (.int 0))) (eOp dMul (eV 6) (eOp dIx (eV 8) (eC (.int 1)))))) (aCons (eOp dSub (eV 1) (eOp dMul (eC (.int 2)) (eOp dIx (eV 8) (eC (.int 2))))) aNil)))))
    (sSeq (sSet 5 (eOp dAdd (eV 5) (eTup (aCons (eCall gMaxL (aCons (eLc [9, 10] (iSeq (eV 7)) (gtTup 2 (gtCons (gtName 9) (gtCons (gtName 10) gtNil))) (fun _ k => k true) (eOp dSub (eV 9) (eV 10))) aNil)) aNil))))
    (sSet 5 (eOp dAdd (eV 5) (eTup (aCons (eCall gMinL (aCons (eLc [9, 10] (iSeq (eV 7)) (gtTup 2 (gtCons (gtName 9) (gtCons (gtName 10) gtNil))) (fun _ k => k true) (eOp dAdd (eV 9) (eV 10))) aNil)) aNil)))))))
    (sRet (eTup (aCons (eV 1) (aCons (eV 5) aNil))))))))
def wp__law_row : List D → (D → Prop) → Prop := wpOf false 11 P__law_row
def P_Grove_knot_at : PSt := (sSeq (sIf (tInS 4 true (eV 1) (eFld 4 1 "knots" (eV 0))) sNever sNext)
    (sSeq (sOwn 3 (eLst (aCons (eSubS 4 (eFld 4 1 "knots" (eV 0)) (eV 1)) aNil)))
    (sSeq (sWhileS (mT (tOf (eOp (dIs true) (eFld 4 0 "above" (eOp dIx (eO 3) (eUn dNeg (eC (.int 1))))) (eC .non))))
    (sAppend 3 (eFld 4 0 "above" (eOp dIx (eO 3) (eUn dNeg (eC (.int 1)))))))
    (sFrz 3 (sSeq (sIf (tNotP (tOf (eChain dLe dLt (eC (.int 0)) (eV 2) (eCall gLen (aCons (eV 3) aNil))))) sNever sNext)
    (sRetS (mE (eOp dIx (eV 3) (eV 2)))))))))
def wp_Grove_knot_at : List D → List Cell → (D → List Cell → Prop) → Prop := wpOfS 5 P_Grove_knot_at
def P_Grove_row : PSt := (sRetS (mFldM 3 0 "stand" (mMethS 3 3 1 "knot_at" [] wp_Grove_knot_at (eV 0) (mA (aCons (eV 1) (aCons (eV 2) aNil))))))
def wp_Grove_row : List D → List Cell → (D → List Cell → Prop) → Prop := wpOfS 4 P_Grove_row
def P_Grove_load : PSt := (sRetS (mFldM 3 0 "weight" (mMethS 3 3 1 "knot_at" [] wp_Grove_knot_at (eV 0) (mA (aCons (eV 1) (aCons (eV 2) aNil))))))
def wp_Grove_load : List D → List Cell → (D → List Cell → Prop) → Prop := wpOfS 4 P_Grove_load
def P__law_is_known : PSt := (sSeq (sSet 4 (eCall (fun ds k => ds.length = 2 ∧ wp__law_path ds k) (aCons (eSubS 11 (eV 1) (eC (.str (Str.ofString "tree")))) (aCons (eV 2) aNil))))
    (sSeq (sSet 4 (eSl (eV 4) oNo (oPart (eOp dSub (eCall gLen (aCons (eV 4) aNil)) (eV 3)))))
    (sSeq (sSet 5 (eCall (fun ds k => ds.length = 1 ∧ wp__law_names_in ds k) (aCons (eCall (fun ds k => ds.length = 2 ∧ wp__law_knot ds k) (aCons (eSubS 11 (eV 1) (eC (.str (Str.ofString "tree")))) (aCons (eV 4) aNil))) aNil)))
    (sSeq (sSet 6 (eLc [7] (iSeq (eV 5)) (gtName 7) (fun _ k => k true) (eSubS 11 (eSubS 11 (eV 1) (eC (.str (Str.ofString "ends")))) (eV 7))))
    (sSeq (sSetM 8 (mMethS 11 3 1 "row" [] wp_Grove_row (eV 0) (mA (aCons (eV 2) (aCons (eV 3) aNil)))))
    (sSeq (sIf (tOrP (tNotP (tOf (eCall gIsi (aCons (eV 8) (aCons (eC (.ty "tuple")) aNil))))) (tOrP (tOf (eOp dNe (eV 8) (eCall (fun ds k => ds.length = 1 ∧ wp__law_row ds k) (aCons (eV 6) aNil)))) (tNotP (tOf (eCall gIsi (aCons (eOp dIx (eV 8) (eC (.int 1))) (aCons (eC (.ty "tuple")) aNil))))))) (sRetS (mE (eC (.bl false)))) sNext)
    (sSeq (sIf (tOf (eOp (dEmp true) (eLc [7] (iSeq (eOp dAdd (eTup (aCons (eOp dIx (eV 8) (eC (.int 0))) aNil)) (eOp dIx (eV 8) (eC (.int 1))))) (gtName 7) (tOf (eCall gIsi (aCons (eV 7) (aCons (eC (.ty "bool")) aNil)))) (eV 7)) (eLst aNil))) (sRetS (mE (eC (.bl false)))) sNext)
    (sSeq (sSetM 9 (mMethS 11 3 1 "load" [] wp_Grove_load (eV 0) (mA (aCons (eV 2) (aCons (eV 3) aNil)))))
    (sRetS (mE (eAnd (eCall gIsi (aCons (eV 9) (aCons (eC (.ty "int")) aNil))) (eAnd (eUn dNot (eCall gIsi (aCons (eV 9) (aCons (eC (.ty "bool")) aNil)))) (eOp dEq (eV 9) (eCall gSum (aCons (eLc [10] (iSeq (eV 6)) (gtName 10) (fun _ k => k true) (eOp dIx (eV 10) (eC (.int 3)))) aNil)))))))))))))))
def wp__law_is_known : List D → List Cell → (D → List Cell → Prop) → Prop := wpOfS 12 P__law_is_known
def P_Grove_place_beside : PSt := (sSeq (sIf (tOrP (tOf (eOp (dIs true) (eV 1) (eC .non))) (tOf (eOp dGt (gsLen 3 (eFld 3 1 "knots" (eV 0))) (eC (.int 0))))) (sRetS (mMethS 3 3 1 "knot_at" [] wp_Grove_knot_at (eV 0) (mA (aCons (eV 1) (aCons (eV 2) aNil))))) sNext)
    (sSeq (sIf (tOf (eOp dNe (eV 2) (eC (.int 0)))) sNever sNext)
    (sRetS (mE (eC .non)))))
def wp_Grove_place_beside : List D → List Cell → (D → List Cell → Prop) → Prop := wpOfS 4 P_Grove_place_beside
def P_Grove_put_in_place : PSt := (sSeq (sSet 3 (eFld 6 0 "above" (eV 1)))
    (sSeq (sFldS 6 0 "above" (eV 2) (mE (eV 3)))
    (sIf (tOf (eOp (dIs false) (eV 3) (eC .non))) (sFldS 6 1 "root" (eV 0) (mE (eV 2))) (sSeq (sAsg (eFld 6 0 "sides" (eV 3)) (gtTup 2 (gtCons (gtName 4) (gtCons (gtName 5) gtNil))))
    (sFldS 6 0 "sides" (eV 3) (mE (eIf (tOf (eEqI 6 0 (eV 4) (eV 1))) (eTup (aCons (eV 2) (aCons (eV 5) aNil))) (eTup (aCons (eV 4) (aCons (eV 2) aNil))))))))))
def wp_Grove_put_in_place : List D → List Cell → (D → List Cell → Prop) → Prop := wpOfS 7 P_Grove_put_in_place
def P_Grove_reckon : PSt := (sWhileS (mT (tOf (eOp (dIs true) (eV 1) (eC .non))))
    (sSeq (sAsg (eFld 4 0 "sides" (eV 1)) (gtTup 2 (gtCons (gtName 2) (gtCons (gtName 3) gtNil))))
    (sSeq (sFldS 4 0 "stand" (eV 1) (mE (eSl (eCall (fun ds k => ds.length = 2 ∧ wp_joined ds k) (aCons (eFld 4 0 "stand" (eV 2)) (aCons (eFld 4 0 "stand" (eV 3)) aNil))) oNo (oPart (eC (.int 2))))))
    (sSeq (sFldS 4 0 "weight" (eV 1) (mE (eOp dAdd (eFld 4 0 "weight" (eV 2)) (eFld 4 0 "weight" (eV 3)))))
    (sSeq (sAugS 4 1 "reckonings" (eV 0) (eC (.int 1)))
    (sSet 1 (eFld 4 0 "above" (eV 1))))))))
def wp_Grove_reckon : List D → List Cell → (D → List Cell → Prop) → Prop := wpOfS 5 P_Grove_reckon
def P_Grove_join_beside : PSt := (sSeq (sSetM 3 (mMakeS 4 4 0 [] wp_Knot___init__ (mA (aCons (eC .non) (aCons (eC .non) (aCons (eTup (aCons (eV 1) (aCons (eV 2) aNil))) aNil))))))
    (sSeq (sDropM (mMethS 4 3 1 "put_in_place" [] wp_Grove_put_in_place (eV 0) (mA (aCons (eV 1) (aCons (eV 3) aNil)))))
    (sSeq (sFldS 4 0 "above" (eV 1) (mE (eV 3)))
    (sSeq (sFldS 4 0 "above" (eV 2) (mE (eV 3)))
    (sDropM (mMethS 4 2 1 "reckon" [] wp_Grove_reckon (eV 0) (mA (aCons (eV 3) aNil))))))))
def wp_Grove_join_beside : List D → List Cell → (D → List Cell → Prop) → Prop := wpOfS 5 P_Grove_join_beside
def P_Grove_come : PSt := (sSeq (sIf (tInS 10 false (eV 1) (eFld 10 1 "knots" (eV 0))) sNever sNext)
    (sSeq (sSetM 8 (mMethS 10 3 1 "place_beside" [] wp_Grove_place_beside (eV 0) (mA (aCons (eV 6) (aCons (eV 7) aNil)))))
    (sSeq (sIf (tOf (eOp dGe (gsLen 10 (eFld 10 1 "knots" (eV 0))) (eC (.int 24)))) sNever sNext)
    (sSeq (sSetM 9 (mCallS 10 2 [] wp_end_knot (mA (aCons (eV 1) (aCons (eTup (aCons (eV 2) (aCons (eV 3) (aCons (eV 4) (aCons (eV 5) aNil))))) aNil)))))
    (sSeq (sPutS 10 (eFld 10 1 "knots" (eV 0)) (eV 1) (mE (eV 9)))
    (sIf (tOf (eOp (dIs false) (eV 8) (eC .non))) (sFldS 10 1 "root" (eV 0) (mE (eV 9))) (sDropM (mMethS 10 3 1 "join_beside" [] wp_Grove_join_beside (eV 0) (mA (aCons (eV 8) (aCons (eV 9) aNil)))))))))))
def wp_Grove_come : List D → List Cell → (D → List Cell → Prop) → Prop := wpOfS 11 P_Grove_come
def P_Grove_go : PSt := (sSeq (sSetM 2 (mMethS 7 3 1 "knot_at" [] wp_Grove_knot_at (eV 0) (mA (aCons (eV 1) (aCons (eC (.int 0)) aNil)))))
    (sSeq (sDelS 7 (eFld 7 1 "knots" (eV 0)) (eV 1))
    (sSeq (sSet 3 (eFld 7 0 "above" (eV 2)))
    (sIf (tOf (eOp (dIs false) (eV 3) (eC .non))) (sFldS 7 1 "root" (eV 0) (mE (eC .non))) (sSeq (sAsg (eFld 7 0 "sides" (eV 3)) (gtTup 2 (gtCons (gtName 4) (gtCons (gtName 5) gtNil))))
    (sSeq (sSet 6 (eIf (tOf (eEqI 7 0 (eV 4) (eV 2))) (eV 5) (eV 4)))
    (sSeq (sDropM (mMethS 7 3 1 "put_in_place" [] wp_Grove_put_in_place (eV 0) (mA (aCons (eV 3) (aCons (eV 6) aNil)))))
    (sDropM (mMethS 7 2 1 "reckon" [] wp_Grove_reckon (eV 0) (mA (aCons (eFld 7 0 "above" (eV 6)) aNil)))))))))))
def wp_Grove_go : List D → List Cell → (D → List Cell → Prop) → Prop := wpOfS 8 P_Grove_go
def P__law_deed : PSt := (sSeq (sSet 5 (gsList 12 (eSubS 12 (eV 2) (eC (.str (Str.ofString "ends"))))))
    (sSeq (sSet 6 (eOp dEq (eCall (fun ds k => ds.length = 2 ∧ wp__law_draw ds k) (aCons (eV 0) (aCons (eC (.int 4)) aNil))) (eC (.int 0))))
    (sSeq (sIf (tAndP (tOf (eOp (dEmp true) (eV 5) (eLst aNil))) (tOrP (tOf (eV 6)) (tOf (eOp dGt (eCall gLen (aCons (eV 5) aNil)) (eC (.int 23)))))) (sSeq (sSet 7 (eOp dIx (eV 5) (eCall (fun ds k => ds.length = 2 ∧ wp__law_draw ds k) (aCons (eV 0) (aCons (eCall gLen (aCons (eV 5) aNil)) aNil)))))
    (sSeq (sDropM (mCallS 12 2 [] wp__law_go (mA (aCons (eV 2) (aCons (eV 7) aNil)))))
    (sRetS (mOp (dIs false) (mMethS 12 2 1 "go" [] wp_Grove_go (eV 1) (mA (aCons (eV 7) aNil))) (mE (eC .non)))))) sNext)
    (sSeq (sSet 8 (eLc [7] (iSeq (eV 3)) (gtName 7) (tOf (eOp (dInS true) (eV 7) (eV 5))) (eV 7)))
    (sSeq (sSet 7 (eOp dIx (eV 8) (eCall (fun ds k => ds.length = 2 ∧ wp__law_draw ds k) (aCons (eV 0) (aCons (eCall gLen (aCons (eV 8) aNil)) aNil)))))
    (sSeq (sSet 9 (eCall (fun ds k => ds.length = 2 ∧ wp__law_end ds k) (aCons (eV 0) (aCons (eV 4) aNil))))
    (sSeq (sIf (tOf (eOp (dEmp false) (eV 5) (eLst aNil))) (sSeq (sDropM (mCallS 12 5 [] wp__law_come (mA (aCons (eV 2) (aCons (eV 7) (aCons (eV 9) (aCons (eC .non) (aCons (eC (.int 0)) aNil))))))))
    (sRetS (mOp (dIs false) (mMethS 12 8 1 "come" [.non, .int 0] wp_Grove_come (eV 1) (mA (aCons (eV 7) (aCons (eOp dIx (eV 9) (eC (.int 0))) (aCons (eOp dIx (eV 9) (eC (.int 1))) (aCons (eOp dIx (eV 9) (eC (.int 2))) (aCons (eOp dIx (eV 9) (eC (.int 3))) aNil))))))) (mE (eC .non))))) sNext)
    (sSeq (sAsgM (mCallS 12 2 [] wp__law_beside (mA (aCons (eV 0) (aCons (eV 2) aNil)))) (gtTup 2 (gtCons (gtName 10) (gtCons (gtName 11) gtNil))))
    (sSeq (sDropM (mCallS 12 5 [] wp__law_come (mA (aCons (eV 2) (aCons (eV 7) (aCons (eV 9) (aCons (eV 10) (aCons (eV 11) aNil))))))))
    (sSeq (sIf (tOf (eOp dEq (eV 11) (eC (.int 0)))) (sRetS (mOp (dIs false) (mMethS 12 8 1 "come" [.int 0] wp_Grove_come (eV 1) (mA (aCons (eV 7) (aCons (eOp dIx (eV 9) (eC (.int 0))) (aCons (eOp dIx (eV 9) (eC (.int 1))) (aCons (eOp dIx (eV 9) (eC (.int 2))) (aCons (eOp dIx (eV 9) (eC (.int 3))) (aCons (eV 10) aNil)))))))) (mE (eC .non)))) sNext)
    (sRetS (mOp (dIs false) (mMethS 12 8 1 "come" [] wp_Grove_come (eV 1) (mA (aCons (eV 7) (aCons (eOp dIx (eV 9) (eC (.int 0))) (aCons (eOp dIx (eV 9) (eC (.int 1))) (aCons (eOp dIx (eV 9) (eC (.int 2))) (aCons (eOp dIx (eV 9) (eC (.int 3))) (aCons (eV 10) (aCons (eV 11) aNil))))))))) (mE (eC .non))))))))))))))
def wp__law_deed : List D → List Cell → (D → List Cell → Prop) → Prop := wpOfS 13 P__law_deed
def P__law_some_known : PSt := (sSeq (sForS (iRange1 (aCons (eCall gMinN (aCons (eC (.int 6)) (aCons (gsLen 7 (eSubS 7 (eV 2) (eC (.str (Str.ofString "ends"))))) aNil))) aNil)) (gtName 3)
    (sSeq (sAsgM (mCallS 7 2 [] wp__law_beside (mA (aCons (eV 0) (aCons (eV 2) aNil)))) (gtTup 2 (gtCons (gtName 4) (gtCons (gtName 5) gtNil))))
    (sForS (iRange1 (aCons (eC (.int 2)) aNil)) (gtName 6)
    (sIfM (mNot (mOf (mCallS 7 4 [] wp__law_is_known (mA (aCons (eV 1) (aCons (eV 2) (aCons (eV 4) (aCons (eV 5) aNil)))))))) (sRetS (mE (eC (.bl false)))) sNext))))
    (sRetS (mE (eC (.bl true)))))
def wp__law_some_known : List D → List Cell → (D → List Cell → Prop) → Prop := wpOfS 8 P__law_some_known
def P_Grove___init__ : PSt := (sSeq (sFldS 1 1 "knots" (eV 0) (mNew 1))
    (sSeq (sFldS 1 1 "root" (eV 0) (mE (eC .non)))
    (sFldS 1 1 "reckonings" (eV 0) (mE (eC (.int 0))))))
def wp_Grove___init__ : List D → List Cell → (D → List Cell → Prop) → Prop := wpOfS 2 P_Grove___init__
def P_law : PSt := (sSeq (sSet 2 (eOp dEq (eCall (fun ds k => ds.length = 2 ∧ wp__law_draw ds k) (aCons (eV 1) (aCons (eC (.int 8)) aNil))) (eC (.int 5))))
    (sSeq (sSet 3 (eOp dIx (eLst (aCons (eOp dAdd (eC (.int 4)) (eCall (fun ds k => ds.length = 2 ∧ wp__law_draw ds k) (aCons (eV 1) (aCons (eC (.int 9)) aNil)))) (aCons (eOp dAdd (eC (.int 24)) (eCall (fun ds k => ds.length = 2 ∧ wp__law_draw ds k) (aCons (eV 1) (aCons (eC (.int 8)) aNil)))) aNil))) (eCall gInt (aCons (eV 2) aNil))))
    (sSeq (sSet 4 (eCall (fun ds k => ds.length = 2 ∧ wp__law_draw ds k) (aCons (eV 1) (aCons (eC (.int 3)) aNil))))
    (sSeq (sSet 5 (eCall (fun ds k => ds.length = 1 ∧ wp__law_pool ds k) (aCons (eV 1) aNil)))
    (sSeq (sIf (tNotP (tOf (eV 2))) (sSet 5 (eSl (eV 5) oNo (oPart (eC (.int 8))))) sNext)
    (sSeq (sSetM 6 (mMakeS0 11 1 1 [] wp_Grove___init__))
    (sSeq (sSetM 7 (mCallS0 11 0 [] wp__law_empty))
    (sSeq (sForS (iRange1 (aCons (eV 3) aNil)) (gtName 8)
    (sSeq (sIf (tOf (eOp dEq (gsLen 11 (eSubS 11 (eV 7) (eC (.str (Str.ofString "ends"))))) (eCall gLen (aCons (eV 5) aNil)))) (sSeq (sSet 9 (eOp dIx (eV 5) (eCall (fun ds k => ds.length = 2 ∧ wp__law_draw ds k) (aCons (eV 1) (aCons (eCall gLen (aCons (eV 5) aNil)) aNil)))))
    (sSeq (sDropM (mCallS 11 2 [] wp__law_go (mA (aCons (eV 7) (aCons (eV 9) aNil)))))
    (sDropM (mMethS 11 2 1 "go" [] wp_Grove_go (eV 6) (mA (aCons (eV 9) aNil)))))) sNext)
    (sIfM (mOr (mNot (mOf (mCallS 11 5 [] wp__law_deed (mA (aCons (eV 1) (aCons (eV 6) (aCons (eV 7) (aCons (eV 5) (aCons (eV 4) aNil))))))))) (mNot (mOf (mCallS 11 3 [] wp__law_some_known (mA (aCons (eV 1) (aCons (eV 6) (aCons (eV 7) aNil)))))))) (sRetS (mE (eC (.bl false)))) sNext)))
    (sSeq (sForS (iSeq (eSl (gsList 11 (eSubS 11 (eV 7) (eC (.str (Str.ofString "ends"))))) oNo (oPart (eC (.int 8))))) (gtName 9)
    (sForS (iRange1 (aCons (eOp dAdd (eCall gLen (aCons (eCall (fun ds k => ds.length = 2 ∧ wp__law_path ds k) (aCons (eSubS 11 (eV 7) (eC (.str (Str.ofString "tree")))) (aCons (eV 9) aNil))) aNil)) (eC (.int 1))) aNil)) (gtName 10)
    (sIfM (mNot (mOf (mCallS 11 4 [] wp__law_is_known (mA (aCons (eV 6) (aCons (eV 7) (aCons (eV 9) (aCons (eV 10) aNil)))))))) (sRetS (mE (eC (.bl false)))) sNext)))
    (sRetS (mE (eC (.bl true)))))))))))))
end Ew
namespace Ew
open PySem PySem.Spec PyProof.Rows L2 Pu
def LawPure : Prop := ∀ [Tbs], P_law (envL 1 12) { nx := fun _ => False, rt := fun _ => False, re := fun _ d => d = .bl true }
end Ew
namespace Ew
open PySem PySem.Spec PyProof.Rows L2
variable [Tbs]
def topS (i : Nat) : Stmt := PySem.Challenge.pw_evenwires_k73_rows_and_loads_kept.main.body.getD i (.Pass ⟨0, 0, 0, 0⟩)
abbrev s_spot_of : Stmt := topS 8
abbrev N_spot_of : List Str := ["grain", "x", "y"]
theorem sc_spot_of : FnScope N_spot_of ["grain", "x", "y"] (defScope s_spot_of) := ⟨rfl, rfl, rfl, by decide +kernel, rfl, by decide +kernel, by decide +kernel⟩
abbrev s_grown : Stmt := topS 9
abbrev N_grown : List Str := ["box", "by", "least_u", "greatest_u", "least_v", "greatest_v"]
theorem sc_grown : FnScope N_grown ["box", "by"] (defScope s_grown) := ⟨rfl, rfl, rfl, by decide +kernel, rfl, by decide +kernel, by decide +kernel⟩
abbrev s_met : Stmt := topS 10
abbrev N_met : List Str := ["box", "other", "least_u", "greatest_u", "least_v", "greatest_v"]
theorem sc_met : FnScope N_met ["box", "other"] (defScope s_met) := ⟨rfl, rfl, rfl, by decide +kernel, rfl, by decide +kernel, by decide +kernel⟩
abbrev s_apart : Stmt := topS 11
abbrev N_apart : List Str := ["box", "other"]
theorem sc_apart : FnScope N_apart ["box", "other"] (defScope s_apart) := ⟨rfl, rfl, rfl, by decide +kernel, rfl, by decide +kernel, by decide +kernel⟩
abbrev s_steps : Stmt := topS 13
abbrev N_steps : List Str := ["one", "other"]
theorem sc_steps : FnScope N_steps ["one", "other"] (defScope s_steps) := ⟨rfl, rfl, rfl, by decide +kernel, rfl, by decide +kernel, by decide +kernel⟩
abbrev s_wanted : Stmt := topS 16
abbrev N_wanted : List Str := ["ends", "one", "other", "first", "second"]
theorem sc_wanted : FnScope N_wanted ["ends", "one", "other"] (defScope s_wanted) := ⟨rfl, rfl, rfl, by decide +kernel, rfl, by decide +kernel, by decide +kernel⟩
abbrev s_height_of : Stmt := topS 17
abbrev N_height_of : List Str := ["ends", "some", "one", "other"]
theorem sc_height_of : FnScope N_height_of ["ends", "some"] (defScope s_height_of) := ⟨rfl, rfl, rfl, by decide +kernel, rfl, by decide +kernel, by decide +kernel⟩
abbrev s_row_of : Stmt := topS 18
abbrev N_row_of : List Str := ["ends", "some", "height", "box", "end"]
theorem sc_row_of : FnScope N_row_of ["ends", "some"] (defScope s_row_of) := ⟨rfl, rfl, rfl, by decide +kernel, rfl, by decide +kernel, by decide +kernel⟩
abbrev s_reached : Stmt := topS 19
abbrev N_reached : List Str := ["end", "height", "u", "v"]
theorem sc_reached : FnScope N_reached ["end", "height"] (defScope s_reached) := ⟨rfl, rfl, rfl, by decide +kernel, rfl, by decide +kernel, by decide +kernel⟩
abbrev s_joined : Stmt := topS 20
abbrev N_joined : List Str := ["one", "other", "first_height", "first_box", "second_height", "second_box", "between", "height", "first", "second"]
theorem sc_joined : FnScope N_joined ["one", "other"] (defScope s_joined) := ⟨rfl, rfl, rfl, by decide +kernel, rfl, by decide +kernel, by decide +kernel⟩
abbrev s_end_knot : Stmt := topS 25
abbrev N_end_knot : List Str := ["name", "end", "knot", "zz"]
theorem sc_end_knot : FnScope N_end_knot ["name", "end"] (defScope s_end_knot) := ⟨rfl, rfl, rfl, by decide +kernel, rfl, by decide +kernel, by decide +kernel⟩
abbrev s__law_deck : Stmt := topS 27
abbrev N__law_deck : List Str := ["_law_script"]
theorem sc__law_deck : FnScope N__law_deck ["_law_script"] (defScope s__law_deck) := ⟨rfl, rfl, rfl, by decide +kernel, rfl, by decide +kernel, by decide +kernel⟩
abbrev s__law_draw : Stmt := topS 28
abbrev N__law_draw : List Str := ["_law_deck_here", "_law_most", "_law_found", "_law_cell", "_law_seed"]
theorem sc__law_draw : FnScope N__law_draw ["_law_deck_here", "_law_most"] (defScope s__law_draw) := ⟨rfl, rfl, rfl, by decide +kernel, rfl, by decide +kernel, by decide +kernel⟩
abbrev s__law_path : Stmt := topS 29
abbrev N__law_path : List Str := ["_law_tree", "_law_name", "_law_side", "_law_found"]
theorem sc__law_path : FnScope N__law_path ["_law_tree", "_law_name"] (defScope s__law_path) := ⟨rfl, rfl, rfl, by decide +kernel, rfl, by decide +kernel, by decide +kernel⟩
abbrev s__law_knot : Stmt := topS 30
abbrev N__law_knot : List Str := ["_law_tree", "_law_path_here", "_law_side"]
theorem sc__law_knot : FnScope N__law_knot ["_law_tree", "_law_path_here"] (defScope s__law_knot) := ⟨rfl, rfl, rfl, by decide +kernel, rfl, by decide +kernel, by decide +kernel⟩
abbrev s__law_put : Stmt := topS 31
abbrev N__law_put : List Str := ["_law_tree", "_law_path_here", "_law_new", "_law_sides"]
theorem sc__law_put : FnScope N__law_put ["_law_tree", "_law_path_here", "_law_new"] (defScope s__law_put) := ⟨rfl, rfl, rfl, by decide +kernel, rfl, by decide +kernel, by decide +kernel⟩
abbrev s__law_names_in : Stmt := topS 32
abbrev N__law_names_in : List Str := ["_law_tree"]
theorem sc__law_names_in : FnScope N__law_names_in ["_law_tree"] (defScope s__law_names_in) := ⟨rfl, rfl, rfl, by decide +kernel, rfl, by decide +kernel, by decide +kernel⟩
abbrev s__law_empty : Stmt := topS 33
abbrev N__law_empty : List Str := ["zz"]
theorem sc__law_empty : FnScope N__law_empty [] (defScope s__law_empty) := ⟨rfl, rfl, rfl, by decide +kernel, rfl, by decide +kernel, by decide +kernel⟩
abbrev s__law_come : Stmt := topS 34
abbrev N__law_come : List Str := ["_law_model", "_law_name", "_law_end_here", "_law_beside_here", "_law_above", "_law_path_here", "zz"]
theorem sc__law_come : FnScope N__law_come ["_law_model", "_law_name", "_law_end_here", "_law_beside_here", "_law_above"] (defScope s__law_come) := ⟨rfl, rfl, rfl, by decide +kernel, rfl, by decide +kernel, by decide +kernel⟩
abbrev s__law_go : Stmt := topS 35
abbrev N__law_go : List Str := ["_law_model", "_law_name", "_law_path_here", "_law_other", "zz"]
theorem sc__law_go : FnScope N__law_go ["_law_model", "_law_name"] (defScope s__law_go) := ⟨rfl, rfl, rfl, by decide +kernel, rfl, by decide +kernel, by decide +kernel⟩
abbrev s__law_pool : Stmt := topS 38
abbrev N__law_pool : List Str := ["_law_deck_here", "_law_letters", "_law_size", "_law_at", "_law_base", "_law_k", "_law_turn", "_law_found"]
theorem sc__law_pool : FnScope N__law_pool ["_law_deck_here"] (defScope s__law_pool) := ⟨rfl, rfl, rfl, by decide +kernel, rfl, by decide +kernel, by decide +kernel⟩
abbrev s__law_number : Stmt := topS 39
abbrev N__law_number : List Str := ["_law_deck_here", "_law_way"]
theorem sc__law_number : FnScope N__law_number ["_law_deck_here", "_law_way"] (defScope s__law_number) := ⟨rfl, rfl, rfl, by decide +kernel, rfl, by decide +kernel, by decide +kernel⟩
abbrev s__law_end : Stmt := topS 40
abbrev N__law_end : List Str := ["_law_deck_here", "_law_way", "_law_place", "_law_start"]
theorem sc__law_end : FnScope N__law_end ["_law_deck_here", "_law_way"] (defScope s__law_end) := ⟨rfl, rfl, rfl, by decide +kernel, rfl, by decide +kernel, by decide +kernel⟩
abbrev s__law_beside : Stmt := topS 41
abbrev N__law_beside : List Str := ["_law_deck_here", "_law_model", "_law_names", "_law_name", "_law_long", "zz"]
theorem sc__law_beside : FnScope N__law_beside ["_law_deck_here", "_law_model"] (defScope s__law_beside) := ⟨rfl, rfl, rfl, by decide +kernel, rfl, by decide +kernel, by decide +kernel⟩
abbrev s__law_row : Stmt := topS 42
abbrev N__law_row : List Str := ["_law_ends", "_law_height", "_law_one", "_law_other", "_law_want", "_law_box", "_law_turn", "_law_spots", "_law_end_here", "_law_spot", "_law_room"]
theorem sc__law_row : FnScope N__law_row ["_law_ends"] (defScope s__law_row) := ⟨rfl, rfl, rfl, by decide +kernel, rfl, by decide +kernel, by decide +kernel⟩
abbrev s__law_is_known : Stmt := topS 43
abbrev N__law_is_known : List Str := ["_law_grove", "_law_model", "_law_name", "_law_above", "_law_path_here", "_law_names", "_law_ends", "_law_one", "_law_found", "_law_load", "_law_end_here", "zz"]
theorem sc__law_is_known : FnScope N__law_is_known ["_law_grove", "_law_model", "_law_name", "_law_above"] (defScope s__law_is_known) := ⟨rfl, rfl, rfl, by decide +kernel, rfl, by decide +kernel, by decide +kernel⟩
abbrev s__law_deed : Stmt := topS 44
abbrev N__law_deed : List Str := ["_law_deck_here", "_law_grove", "_law_model", "_law_pool_here", "_law_way", "_law_names", "_law_goes", "_law_name", "_law_free", "_law_end_here", "_law_beside_here", "_law_above", "zz"]
theorem sc__law_deed : FnScope N__law_deed ["_law_deck_here", "_law_grove", "_law_model", "_law_pool_here", "_law_way"] (defScope s__law_deed) := ⟨rfl, rfl, rfl, by decide +kernel, rfl, by decide +kernel, by decide +kernel⟩
abbrev s__law_some_known : Stmt := topS 45
abbrev N__law_some_known : List Str := ["_law_deck_here", "_law_grove", "_law_model", "_law_k", "_law_name", "_law_above", "_law_turn", "zz"]
theorem sc__law_some_known : FnScope N__law_some_known ["_law_deck_here", "_law_grove", "_law_model"] (defScope s__law_some_known) := ⟨rfl, rfl, rfl, by decide +kernel, rfl, by decide +kernel, by decide +kernel⟩
abbrev s_law : Stmt := topS 46
abbrev N_law : List Str := ["_law_script", "_law_deck_here", "_law_great", "_law_many", "_law_way", "_law_pool_here", "_law_grove", "_law_model", "_law_k", "_law_name", "_law_above", "zz"]
theorem sc_law : FnScope N_law ["_law_script"] (defScope s_law) := ⟨rfl, rfl, rfl, by decide +kernel, rfl, by decide +kernel, by decide +kernel⟩
abbrev s_Knot___init__ : Stmt := inClass (topS 23) 0
abbrev N_Knot___init__ : List Str := ["self", "name", "end", "sides", "zz"]
theorem sc_Knot___init__ : FnScope N_Knot___init__ ["self", "name", "end", "sides"] (defScope s_Knot___init__) := ⟨rfl, rfl, rfl, by decide +kernel, rfl, by decide +kernel, by decide +kernel⟩
abbrev s_Grove___init__ : Stmt := inClass (topS 24) 0
abbrev N_Grove___init__ : List Str := ["self", "zz"]
theorem sc_Grove___init__ : FnScope N_Grove___init__ ["self"] (defScope s_Grove___init__) := ⟨rfl, rfl, rfl, by decide +kernel, rfl, by decide +kernel, by decide +kernel⟩
abbrev s_Grove_come : Stmt := inClass (topS 24) 1
abbrev N_Grove_come : List Str := ["self", "name", "x", "y", "start", "load", "beside", "above", "place", "knot", "zz"]
theorem sc_Grove_come : FnScope N_Grove_come ["self", "name", "x", "y", "start", "load", "beside", "above"] (defScope s_Grove_come) := ⟨rfl, rfl, rfl, by decide +kernel, rfl, by decide +kernel, by decide +kernel⟩
abbrev s_Grove_go : Stmt := inClass (topS 24) 2
abbrev N_Grove_go : List Str := ["self", "name", "knot", "joint", "first", "second", "other", "zz"]
theorem sc_Grove_go : FnScope N_Grove_go ["self", "name"] (defScope s_Grove_go) := ⟨rfl, rfl, rfl, by decide +kernel, rfl, by decide +kernel, by decide +kernel⟩
abbrev s_Grove_row : Stmt := inClass (topS 24) 5
abbrev N_Grove_row : List Str := ["self", "name", "above", "zz"]
theorem sc_Grove_row : FnScope N_Grove_row ["self", "name", "above"] (defScope s_Grove_row) := ⟨rfl, rfl, rfl, by decide +kernel, rfl, by decide +kernel, by decide +kernel⟩
abbrev s_Grove_load : Stmt := inClass (topS 24) 6
abbrev N_Grove_load : List Str := ["self", "name", "above", "zz"]
theorem sc_Grove_load : FnScope N_Grove_load ["self", "name", "above"] (defScope s_Grove_load) := ⟨rfl, rfl, rfl, by decide +kernel, rfl, by decide +kernel, by decide +kernel⟩
abbrev s_Grove_place_beside : Stmt := inClass (topS 24) 8
abbrev N_Grove_place_beside : List Str := ["self", "beside", "above", "zz"]
theorem sc_Grove_place_beside : FnScope N_Grove_place_beside ["self", "beside", "above"] (defScope s_Grove_place_beside) := ⟨rfl, rfl, rfl, by decide +kernel, rfl, by decide +kernel, by decide +kernel⟩
abbrev s_Grove_knot_at : Stmt := inClass (topS 24) 9
abbrev N_Grove_knot_at : List Str := ["self", "name", "above", "knots", "zz"]
theorem sc_Grove_knot_at : FnScope N_Grove_knot_at ["self", "name", "above"] (defScope s_Grove_knot_at) := ⟨rfl, rfl, rfl, by decide +kernel, rfl, by decide +kernel, by decide +kernel⟩
abbrev s_Grove_join_beside : Stmt := inClass (topS 24) 10
abbrev N_Grove_join_beside : List Str := ["self", "place", "knot", "joint", "zz"]
theorem sc_Grove_join_beside : FnScope N_Grove_join_beside ["self", "place", "knot"] (defScope s_Grove_join_beside) := ⟨rfl, rfl, rfl, by decide +kernel, rfl, by decide +kernel, by decide +kernel⟩
abbrev s_Grove_put_in_place : Stmt := inClass (topS 24) 11
abbrev N_Grove_put_in_place : List Str := ["self", "old", "new", "above", "first", "second", "zz"]
theorem sc_Grove_put_in_place : FnScope N_Grove_put_in_place ["self", "old", "new"] (defScope s_Grove_put_in_place) := ⟨rfl, rfl, rfl, by decide +kernel, rfl, by decide +kernel, by decide +kernel⟩
abbrev s_Grove_reckon : Stmt := inClass (topS 24) 12
abbrev N_Grove_reckon : List Str := ["self", "joint", "first", "second", "zz"]
theorem sc_Grove_reckon : FnScope N_Grove_reckon ["self", "joint"] (defScope s_Grove_reckon) := ⟨rfl, rfl, rfl, by decide +kernel, rfl, by decide +kernel, by decide +kernel⟩
-- what the top has left: the defs, and the built-ins that are not bound anew
set_option maxHeartbeats 0 in
structure Tx1 (K : PySem.W.Frag) (mg : Str → Option Value) where
  a_spot_of : Addr
  d_spot_of : FuncData
  F_spot_of : Fun K "spot_of" "spot_of" s_spot_of a_spot_of d_spot_of
  b_spot_of : Binds K d_spot_of ["grain", "x", "y"] []
  g_spot_of : mg "spot_of" = some (.ref a_spot_of)
  a_grown : Addr
  d_grown : FuncData
  F_grown : Fun K "grown" "grown" s_grown a_grown d_grown
  b_grown : Binds K d_grown ["box", "by"] []
  g_grown : mg "grown" = some (.ref a_grown)
  a_met : Addr
  d_met : FuncData
  F_met : Fun K "met" "met" s_met a_met d_met
  b_met : Binds K d_met ["box", "other"] []
  g_met : mg "met" = some (.ref a_met)
  a_apart : Addr
  d_apart : FuncData
  F_apart : Fun K "apart" "apart" s_apart a_apart d_apart
  b_apart : Binds K d_apart ["box", "other"] []
  g_apart : mg "apart" = some (.ref a_apart)
  a_steps : Addr
  d_steps : FuncData
  F_steps : Fun K "steps" "steps" s_steps a_steps d_steps
  b_steps : Binds K d_steps ["one", "other"] []
  g_steps : mg "steps" = some (.ref a_steps)
set_option maxHeartbeats 0 in
structure Tx2 (K : PySem.W.Frag) (mg : Str → Option Value) where
  a_wanted : Addr
  d_wanted : FuncData
  F_wanted : Fun K "wanted" "wanted" s_wanted a_wanted d_wanted
  b_wanted : Binds K d_wanted ["ends", "one", "other"] []
  g_wanted : mg "wanted" = some (.ref a_wanted)
  a_height_of : Addr
  d_height_of : FuncData
  F_height_of : Fun K "height_of" "height_of" s_height_of a_height_of d_height_of
  b_height_of : Binds K d_height_of ["ends", "some"] []
  g_height_of : mg "height_of" = some (.ref a_height_of)
  a_row_of : Addr
  d_row_of : FuncData
  F_row_of : Fun K "row_of" "row_of" s_row_of a_row_of d_row_of
  b_row_of : Binds K d_row_of ["ends", "some"] []
  g_row_of : mg "row_of" = some (.ref a_row_of)
  a_reached : Addr
  d_reached : FuncData
  F_reached : Fun K "reached" "reached" s_reached a_reached d_reached
  b_reached : Binds K d_reached ["end", "height"] []
  g_reached : mg "reached" = some (.ref a_reached)
  a_joined : Addr
  d_joined : FuncData
  F_joined : Fun K "joined" "joined" s_joined a_joined d_joined
  b_joined : Binds K d_joined ["one", "other"] []
  g_joined : mg "joined" = some (.ref a_joined)
set_option maxHeartbeats 0 in
structure Tx3 (K : PySem.W.Frag) (mg : Str → Option Value) where
  a_end_knot : Addr
  d_end_knot : FuncData
  F_end_knot : Fun K "end_knot" "end_knot" s_end_knot a_end_knot d_end_knot
  b_end_knot : Binds K d_end_knot ["name", "end"] []
  g_end_knot : mg "end_knot" = some (.ref a_end_knot)
  a__law_deck : Addr
  d__law_deck : FuncData
  F__law_deck : Fun K "_law_deck" "_law_deck" s__law_deck a__law_deck d__law_deck
  b__law_deck : Binds K d__law_deck ["_law_script"] []
  g__law_deck : mg "_law_deck" = some (.ref a__law_deck)
  a__law_draw : Addr
  d__law_draw : FuncData
  F__law_draw : Fun K "_law_draw" "_law_draw" s__law_draw a__law_draw d__law_draw
  b__law_draw : Binds K d__law_draw ["_law_deck_here", "_law_most"] []
  g__law_draw : mg "_law_draw" = some (.ref a__law_draw)
  a__law_path : Addr
  d__law_path : FuncData
  F__law_path : Fun K "_law_path" "_law_path" s__law_path a__law_path d__law_path
  b__law_path : Binds K d__law_path ["_law_tree", "_law_name"] []
  g__law_path : mg "_law_path" = some (.ref a__law_path)
  a__law_knot : Addr
  d__law_knot : FuncData
  F__law_knot : Fun K "_law_knot" "_law_knot" s__law_knot a__law_knot d__law_knot
  b__law_knot : Binds K d__law_knot ["_law_tree", "_law_path_here"] []
  g__law_knot : mg "_law_knot" = some (.ref a__law_knot)
set_option maxHeartbeats 0 in
structure Tx4 (K : PySem.W.Frag) (mg : Str → Option Value) where
  a__law_put : Addr
  d__law_put : FuncData
  F__law_put : Fun K "_law_put" "_law_put" s__law_put a__law_put d__law_put
  b__law_put : Binds K d__law_put ["_law_tree", "_law_path_here", "_law_new"] []
  g__law_put : mg "_law_put" = some (.ref a__law_put)
  a__law_names_in : Addr
  d__law_names_in : FuncData
  F__law_names_in : Fun K "_law_names_in" "_law_names_in" s__law_names_in a__law_names_in d__law_names_in
  b__law_names_in : Binds K d__law_names_in ["_law_tree"] []
  g__law_names_in : mg "_law_names_in" = some (.ref a__law_names_in)
  a__law_empty : Addr
  d__law_empty : FuncData
  F__law_empty : Fun K "_law_empty" "_law_empty" s__law_empty a__law_empty d__law_empty
  b__law_empty : Binds K d__law_empty [] []
  g__law_empty : mg "_law_empty" = some (.ref a__law_empty)
  a__law_come : Addr
  d__law_come : FuncData
  F__law_come : Fun K "_law_come" "_law_come" s__law_come a__law_come d__law_come
  b__law_come : Binds K d__law_come ["_law_model", "_law_name", "_law_end_here", "_law_beside_here", "_law_above"] []
  g__law_come : mg "_law_come" = some (.ref a__law_come)
  a__law_go : Addr
  d__law_go : FuncData
  F__law_go : Fun K "_law_go" "_law_go" s__law_go a__law_go d__law_go
  b__law_go : Binds K d__law_go ["_law_model", "_law_name"] []
  g__law_go : mg "_law_go" = some (.ref a__law_go)
set_option maxHeartbeats 0 in
structure Tx5 (K : PySem.W.Frag) (mg : Str → Option Value) where
  a__law_pool : Addr
  d__law_pool : FuncData
  F__law_pool : Fun K "_law_pool" "_law_pool" s__law_pool a__law_pool d__law_pool
  b__law_pool : Binds K d__law_pool ["_law_deck_here"] []
  g__law_pool : mg "_law_pool" = some (.ref a__law_pool)
  a__law_number : Addr
  d__law_number : FuncData
  F__law_number : Fun K "_law_number" "_law_number" s__law_number a__law_number d__law_number
  b__law_number : Binds K d__law_number ["_law_deck_here", "_law_way"] []
  g__law_number : mg "_law_number" = some (.ref a__law_number)
  a__law_end : Addr
  d__law_end : FuncData
  F__law_end : Fun K "_law_end" "_law_end" s__law_end a__law_end d__law_end
  b__law_end : Binds K d__law_end ["_law_deck_here", "_law_way"] []
  g__law_end : mg "_law_end" = some (.ref a__law_end)
  a__law_beside : Addr
  d__law_beside : FuncData
  F__law_beside : Fun K "_law_beside" "_law_beside" s__law_beside a__law_beside d__law_beside
  b__law_beside : Binds K d__law_beside ["_law_deck_here", "_law_model"] []
  g__law_beside : mg "_law_beside" = some (.ref a__law_beside)
  a__law_row : Addr
  d__law_row : FuncData
  F__law_row : Fun K "_law_row" "_law_row" s__law_row a__law_row d__law_row
  b__law_row : Binds K d__law_row ["_law_ends"] []
  g__law_row : mg "_law_row" = some (.ref a__law_row)
set_option maxHeartbeats 0 in
structure Tx6 (K : PySem.W.Frag) (mg : Str → Option Value) where
  a__law_is_known : Addr
  d__law_is_known : FuncData
  F__law_is_known : Fun K "_law_is_known" "_law_is_known" s__law_is_known a__law_is_known d__law_is_known
  b__law_is_known : Binds K d__law_is_known ["_law_grove", "_law_model", "_law_name", "_law_above"] []
  g__law_is_known : mg "_law_is_known" = some (.ref a__law_is_known)
  a__law_deed : Addr
  d__law_deed : FuncData
  F__law_deed : Fun K "_law_deed" "_law_deed" s__law_deed a__law_deed d__law_deed
  b__law_deed : Binds K d__law_deed ["_law_deck_here", "_law_grove", "_law_model", "_law_pool_here", "_law_way"] []
  g__law_deed : mg "_law_deed" = some (.ref a__law_deed)
  a__law_some_known : Addr
  d__law_some_known : FuncData
  F__law_some_known : Fun K "_law_some_known" "_law_some_known" s__law_some_known a__law_some_known d__law_some_known
  b__law_some_known : Binds K d__law_some_known ["_law_deck_here", "_law_grove", "_law_model"] []
  g__law_some_known : mg "_law_some_known" = some (.ref a__law_some_known)
  a_law : Addr
  d_law : FuncData
  F_law : Fun K "law" "law" s_law a_law d_law
  b_law : Binds K d_law ["_law_script"] []
  g_law : mg "law" = some (.ref a_law)
  a_Knot___init__ : Addr
  d_Knot___init__ : FuncData
  F_Knot___init__ : Fun K "__init__" "Knot.__init__" s_Knot___init__ a_Knot___init__ d_Knot___init__
  b_Knot___init__ : Binds K d_Knot___init__ ["self", "name", "end", "sides"] []
set_option maxHeartbeats 0 in
structure Tx7 (K : PySem.W.Frag) (mg : Str → Option Value) where
  a_Grove___init__ : Addr
  d_Grove___init__ : FuncData
  F_Grove___init__ : Fun K "__init__" "Grove.__init__" s_Grove___init__ a_Grove___init__ d_Grove___init__
  b_Grove___init__ : Binds K d_Grove___init__ ["self"] []
  a_Grove_come : Addr
  d_Grove_come : FuncData
  F_Grove_come : FunD K "come" "Grove.come" (defArgs s_Grove_come) (defBody s_Grove_come) (defScope s_Grove_come) [.non, .int 0] [] a_Grove_come d_Grove_come
  ds0_Grove_come : List Value
  v0_Grove_come : Vals [.non, .int 0] ds0_Grove_come
  b0_Grove_come : Binds K d_Grove_come ["self", "name", "x", "y", "start", "load", "beside", "above"] ds0_Grove_come
  ds1_Grove_come : List Value
  v1_Grove_come : Vals [.int 0] ds1_Grove_come
  b1_Grove_come : Binds K d_Grove_come ["self", "name", "x", "y", "start", "load", "beside", "above"] ds1_Grove_come
  ds2_Grove_come : List Value
  v2_Grove_come : Vals [] ds2_Grove_come
  b2_Grove_come : Binds K d_Grove_come ["self", "name", "x", "y", "start", "load", "beside", "above"] ds2_Grove_come
  a_Grove_go : Addr
  d_Grove_go : FuncData
  F_Grove_go : Fun K "go" "Grove.go" s_Grove_go a_Grove_go d_Grove_go
  b_Grove_go : Binds K d_Grove_go ["self", "name"] []
  a_Grove_row : Addr
  d_Grove_row : FuncData
  F_Grove_row : Fun K "row" "Grove.row" s_Grove_row a_Grove_row d_Grove_row
  b_Grove_row : Binds K d_Grove_row ["self", "name", "above"] []
  a_Grove_load : Addr
  d_Grove_load : FuncData
  F_Grove_load : Fun K "load" "Grove.load" s_Grove_load a_Grove_load d_Grove_load
  b_Grove_load : Binds K d_Grove_load ["self", "name", "above"] []
set_option maxHeartbeats 0 in
structure Tx8 (K : PySem.W.Frag) (mg : Str → Option Value) where
  a_Grove_place_beside : Addr
  d_Grove_place_beside : FuncData
  F_Grove_place_beside : Fun K "place_beside" "Grove.place_beside" s_Grove_place_beside a_Grove_place_beside d_Grove_place_beside
  b_Grove_place_beside : Binds K d_Grove_place_beside ["self", "beside", "above"] []
  a_Grove_knot_at : Addr
  d_Grove_knot_at : FuncData
  F_Grove_knot_at : Fun K "knot_at" "Grove.knot_at" s_Grove_knot_at a_Grove_knot_at d_Grove_knot_at
  b_Grove_knot_at : Binds K d_Grove_knot_at ["self", "name", "above"] []
  a_Grove_join_beside : Addr
  d_Grove_join_beside : FuncData
  F_Grove_join_beside : Fun K "join_beside" "Grove.join_beside" s_Grove_join_beside a_Grove_join_beside d_Grove_join_beside
  b_Grove_join_beside : Binds K d_Grove_join_beside ["self", "place", "knot"] []
  a_Grove_put_in_place : Addr
  d_Grove_put_in_place : FuncData
  F_Grove_put_in_place : Fun K "put_in_place" "Grove.put_in_place" s_Grove_put_in_place a_Grove_put_in_place d_Grove_put_in_place
  b_Grove_put_in_place : Binds K d_Grove_put_in_place ["self", "old", "new"] []
  a_Grove_reckon : Addr
  d_Grove_reckon : FuncData
  F_Grove_reckon : Fun K "reckon" "Grove.reckon" s_Grove_reckon a_Grove_reckon d_Grove_reckon
  b_Grove_reckon : Binds K d_Grove_reckon ["self", "joint"] []
set_option maxHeartbeats 0 in
structure Tx (K : PySem.W.Frag) (mg : Str → Option Value) extends Tx1 K mg, Tx2 K mg, Tx3 K mg, Tx4 K mg, Tx5 K mg, Tx6 K mg, Tx7 K mg, Tx8 K mg where
  t_GRAIN : Tok
  c_GRAIN : mg "GRAIN" = some (.int 2 t_GRAIN)
  t_MOST_ENDS : Tok
  c_MOST_ENDS : mg "MOST_ENDS" = some (.int 24 t_MOST_ENDS)
  n_sum : mg "sum" = none
  n_list : mg "list" = none
  n_max : mg "max" = none
  n_min : mg "min" = none
  n_abs : mg "abs" = none
  n_str : mg "str" = none
  n_isinstance : mg "isinstance" = none
  n_int : mg "int" = none
  n_tuple : mg "tuple" = none
  n_len : mg "len" = none
  n_range : mg "range" = none
  n_bool : mg "bool" = none
  cl_Knot : Addr
  gc_Knot : mg "Knot" = some (.ref cl_Knot)
  kc_Knot : PySem.W.keepIn K (.ref cl_Knot) = true
  cl_Grove : Addr
  gc_Grove : mg "Grove" = some (.ref cl_Grove)
  kc_Grove : PySem.W.keepIn K (.ref cl_Grove) = true
  cv_Knot : Tbs.cv 0 = .ref cl_Knot
  cv_Grove : Tbs.cv 1 = .ref cl_Grove
  cls_Knot : Cls K cl_Knot
  mk_Knot : Mk K cl_Knot a_Knot___init__
  na_Knot_name : NoAttr K cl_Knot "name"
  na_Knot_end : NoAttr K cl_Knot "end"
  na_Knot_sides : NoAttr K cl_Knot "sides"
  na_Knot_above : NoAttr K cl_Knot "above"
  na_Knot_stand : NoAttr K cl_Knot "stand"
  na_Knot_weight : NoAttr K cl_Knot "weight"
  eq_Knot : Pu.EqC K cl_Knot
  cls_Grove : Cls K cl_Grove
  mk_Grove : Mk K cl_Grove a_Grove___init__
  na_Grove_knots : NoAttr K cl_Grove "knots"
  na_Grove_root : NoAttr K cl_Grove "root"
  na_Grove_reckonings : NoAttr K cl_Grove "reckonings"
  eq_Grove : Pu.EqC K cl_Grove
  me_Grove_come : Meth K cl_Grove "come" a_Grove_come
  me_Grove_go : Meth K cl_Grove "go" a_Grove_go
  me_Grove_row : Meth K cl_Grove "row" a_Grove_row
  me_Grove_load : Meth K cl_Grove "load" a_Grove_load
  me_Grove_place_beside : Meth K cl_Grove "place_beside" a_Grove_place_beside
  me_Grove_knot_at : Meth K cl_Grove "knot_at" a_Grove_knot_at
  me_Grove_join_beside : Meth K cl_Grove "join_beside" a_Grove_join_beside
  me_Grove_put_in_place : Meth K cl_Grove "put_in_place" a_Grove_put_in_place
  me_Grove_reckon : Meth K cl_Grove "reckon" a_Grove_reckon
section
local macro_rules | `(tactic| walk_at "ewc") => `(tactic| first
  | (show (0 : Int) < _; omega)
  | (show (0 : Int) < _; decide)
  | (refine ⟨?_, ?_⟩ <;> omega)
  | exact Or.inl ⟨by omega, by omega⟩
  | exact Or.inr ⟨by omega, by omega⟩)
def dkv (c : Addr) (L s n : Int) : List (Key × V) := [(.inr "cells", .ref c), (.inr "left", .int L), (.inr "seed", .int s), (.inr "count", .int n)]
theorem dkv_pl {c : Addr} {L s n L' : Int} : putK (dkv c L s n) (.inr "left") (.int L') = dkv c L' s n := rfl
theorem dkv_ps {c : Addr} {L s n L' : Int} : putK (dkv c L s n) (.inr "seed") (.int L') = dkv c L L' n := rfl
theorem dkv_pn {c : Addr} {L s n L' : Int} : putK (dkv c L s n) (.inr "count") (.int L') = dkv c L s L' := rfl
/-- a deck stands at dk, its cells at c -/
structure Deck (H : Hp) (dk c : Addr) : Prop where
  ex : ∃ (L s n : Int) (cs : List Int), H dk = some (.dK (dkv c L s n)) ∧ H c = some (.lst (cs.map V.int)) ∧ 0 ≤ s ∧ s < 4294967296
theorem Deck.new {H : Hp} {dk c p : Addr} {o : HO} (h : Deck H dk c) (hp : H p = none) : Deck (upd H p o) dk c := by
  obtain ⟨L, s, n, cs, h1, h2, h3⟩ := h
  exact ⟨L, s, n, cs, get_new hp h1, get_new hp h2, h3⟩
theorem Deck.mut {H : Hp} {dk c p : Addr} {o : HO} (h : Deck H dk c) (hp : p ∉ [dk, c]) : Deck (upd H p o) dk c := by
  obtain ⟨L, s, n, cs, h1, h2, h3⟩ := h
  exact ⟨L, s, n, cs, get_ne (fun e => hp (e ▸ List.mem_cons_self)) h1, get_ne (fun e => hp (e ▸ List.mem_cons_of_mem _ List.mem_cons_self)) h2, h3⟩
theorem Deck.off' {H : Hp} {dk c p : Addr} (hp : H p = none) (h : Deck H dk c) : p ∉ [dk, c] := by
  obtain ⟨L, s, n, cs, h1, h2, h3⟩ := h
  intro m
  rcases List.mem_cons.mp m with e | m
  · rw [e, h1] at hp; cases hp
  · rcases List.mem_cons.mp m with e | m
    · rw [e, h2] at hp; cases hp
    · cases m
theorem Deck.off {H : Hp} {dk c p : Addr} (h : Deck H dk c) (hp : H p = none) : p ∉ [dk, c] := Deck.off' hp h
section
variable {P : Program} {w : World} {K : PySem.W.Frag} {mg : Str → Option Value} {base : Heap}
theorem tabs_evo {H H' : Hp} (h : Pu.Tabs H) (e : Evo [] H H') : Pu.Tabs H' := h.keep (fun P ps q _ => e.get List.not_mem_nil q) fun c o u q => e.get List.not_mem_nil q
inductive sp__law_deck (K : PySem.W.Frag) : List V → Hp → VK → XK → Prop
  | mk {H : Hp} {Q : VK} {E : XK} {a : Addr} {ns : List Int} (hS : SqL K H a (ns.map V.int)) (hn : ns.length ≤ 63) (hT : Pu.Tabs H) (k : ∀ H' dk c, Deck H' dk c → Pu.Tabs H' → True → True → Q (.ref dk) H') : sp__law_deck K [.ref a] H Q E
theorem ok__law_deck (T : Tx K mg) : FnOk P w K mg base CX0 1 T.a__law_deck T.d__law_deck ["_law_script"] (sp__law_deck K) := by
  refine T.F__law_deck.ok sc__law_deck (fun vs H Q E h => ?_) (fun cdv A outer s H vs Q E hr h => ?_)
  · cases h
    rfl
  · obtain @⟨_, _, _, a, ns, hS, hn, hT, k⟩ := h
    have hlen : (ns.map V.int).length ≤ 63 := by rw [List.length_map]; exact hn
    refine ⟨_, (pss_one (ps_ret (pe_disp (pps_cons pe_str (pe_callTy call_list_of (by rfl) T.n_list (by decide +kernel) (pa_cons (pe_slice (r := Ew.rSlE K) Ew.sl_listE (pv 0) po_none (po_some pe_int)) pa_nil)) (pps_cons pe_str pe_int (pps_cons pe_str (pe_op op_add pe_int (pe_op op_mod (pe_callB (cr_sum rfl) (by rfl) T.n_sum (by decide +kernel) (pa_cons (pe_slice (r := Ew.rSlE K) Ew.sl_listE (pv 0) po_none (po_some pe_int)) pa_nil)) pe_int)) (pps_cons pe_str pe_int pps_nil)))) (by rfl) (by rfl) (fun z => by cases z) (by decide)))), ?_⟩
    intro dk hdk
    -- list(script[:63])
    refine ⟨_, rfl, _, rfl, _, _, _, rfl, sqL_new hdk hS, cut63 hlen, fun q hq => ?_⟩
    refine ⟨_, _, rfl, .inl (SqL.of upd_same), fun c hc => ?_⟩
    -- sum
    refine ⟨_, rfl, _, rfl, _, _, _, rfl, sqL_new hc (sqL_new hq (sqL_new hdk hS)), cut63 hlen, fun r hr' => ?_⟩
    refine ⟨_, ns, rfl, SqL.of upd_same, ?_⟩
    refine ⟨_, _, rfl, rfl, by walk_at "ewc", ?_⟩
    refine ⟨_, _, rfl, rfl, ?_⟩
    have hq' := hq
    have g1 : H q = none := by
      have := hq'; unfold upd at this
      by_cases e : q = dk
      · rw [if_pos e] at this; cases this
      · rw [if_neg e] at this; exact this
    have e0 : Evo [] H (upd H dk (.dK [])) := (Evo.refl [] H).new hdk
    have e1 := e0.new (o := .lst (ns.map V.int)) hq
    have e2 := e1.new (o := .lst (ns.map V.int)) hc
    have e3 := e2.new (o := .lst (ns.map V.int)) hr'
    refine ⟨get_new hr' (get_new hc (get_new hq upd_same)), [(.inr "cells", .ref c), (.inr "left", .int 0), (.inr "seed", .int (48271 + ns.sum % 2147483629)), (.inr "count", .int 0)], rfl, by show 4 ≤ 15; decide, ?_⟩
    have ncd : c ≠ dk := fun e => by rw [e, get_new hq upd_same] at hc; cases hc
    refine k _ dk c ⟨0, 48271 + ns.sum % 2147483629, 0, ns, upd_same, get_ne ncd (get_new hr' upd_same), ?_, ?_⟩ (tabs_evo hT (e3.mut hdk)) trivial trivial
    · omega
    · omega
inductive sp__law_draw : List V → Hp → VK → XK → Prop
  | mk {H : Hp} {Q : VK} {E : XK} {dk c : Addr} {m : Int} (hD : Deck H dk c) (m0 : 0 < m) (m1 : m < 1073741824) (k : ∀ H' r, 0 ≤ r → r < m → Deck H' dk c → Evo [dk, c] H H' → Q (.int r) H') : sp__law_draw [.ref dk, .int m] H Q E
theorem ok__law_draw (T : Tx K mg) : FnOk P w K mg base CX0 1 T.a__law_draw T.d__law_draw ["_law_deck_here", "_law_most"] sp__law_draw := by
  refine T.F__law_draw.ok sc__law_draw (fun vs H Q E h => ?_) (fun cdv A outer s H vs Q E hr h => ?_)
  · cases h
    rfl
  · obtain @⟨_, _, _, dk, c, m, ⟨L, s, n, cs, hd, hc, hs0, hs1⟩, m0, m1, k⟩ := h
    have hu := hu_of hr
    have ncd : c ≠ dk := ne_of hc hd (by intro z; cases z)
    have hmd : ∀ ys, H dk ≠ some (.tup ys) := fun ys e => by rw [hd] at e; cases e
    have hfd : ∀ u v, H dk ≠ some (.frz u v) := fun ys _ e => by rw [hd] at e; cases e
    have hmc : ∀ ys, H c ≠ some (.tup ys) := fun ys e => by rw [hc] at e; cases e
    have hfc : ∀ u v, H c ≠ some (.frz u v) := fun ys _ e => by rw [hc] at e; cases e
    have i1 : dk ∈ [dk, c] := List.mem_cons_self
    have i2 : c ∈ [dk, c] := List.mem_cons_of_mem _ List.mem_cons_self
    refine ⟨_, (pss_cons (ps_if (pt_cmpR op_gt (pe_dget hu (pv 0) pe_str (fun _ _ => rfl)) pe_int (nomark _)) (pss_cons (ps_set (i := 2) sc__law_draw.nd rfl (Or.inl rfl) (pe_op op_mod (pe_dget hu (pv 0) pe_str (fun _ _ => rfl)) (pv 1)))
      (pss_cons (ps_dput hu (pv 0) pe_str (pe_op op_fdiv (pe_dget hu (pv 0) pe_str (fun _ _ => rfl)) (pv 1)) rfl)
      (pss_one (ps_ret (pv 2))))) pss_nil)
      (pss_cons (ps_set (i := 3) sc__law_draw.nd rfl (Or.inl rfl) pe_int)
      (pss_cons (ps_dput hu (pv 0) pe_str (pe_op op_add (pe_dget hu (pv 0) pe_str (fun _ _ => rfl)) pe_int) rfl)
      (pss_cons (ps_if (pt_cmpR (r := Ew.rNeX K) (Ew.op_neX hr.units) (pe_dget hu (pv 0) pe_str (fun _ _ => rfl)) (pe_lst pa_nil) (nomark _)) (pss_one (ps_set (i := 3) sc__law_draw.nd rfl (Or.inl rfl) (pe_bm PySem.F.plainAttrs_list PySem.F.slot_list_pop PySem.F.type_list_pop mt_popAt (pe_dget hu (pv 0) pe_str (fun _ _ => rfl)) (pa_cons pe_int pa_nil)))) pss_nil)
      (pss_cons (ps_if (pt_cmpR op_ge (pv 3) (pe_op (Ew.op_powC 10 18 1000000000000000000) pe_int pe_int) (nomark _)) (pss_cons (ps_dput hu (pv 0) pe_str (pe_op op_fdiv (pv 3) (pv 1)) rfl)
      (pss_one (ps_ret (pe_op op_mod (pv 3) (pv 1))))) pss_nil)
      (pss_cons (ps_set (i := 4) sc__law_draw.nd rfl (Or.inl rfl) (pe_op op_add (pe_op op_mul (pe_dget hu (pv 0) pe_str (fun _ _ => rfl)) pe_int) (pe_op op_mul (pe_op op_mod (pv 3) pe_int) pe_int)))
      (pss_cons (ps_set (i := 4) sc__law_draw.nd rfl (Or.inl rfl) (pe_op op_mod (pe_op op_add (pv 4) (pe_op op_mul pe_int (pe_dget hu (pv 0) pe_str (fun _ _ => rfl)))) pe_int))
      (pss_cons (ps_dput hu (pv 0) pe_str (pe_op op_mod (pe_op op_mul (pv 4) (pe_op op_add (pe_op op_fdiv (pv 4) pe_int) pe_int)) pe_int) rfl)
      (pss_one (ps_ret (pe_op op_mod (pe_op op_fdiv (pe_op op_mod (pe_op op_add (pe_op op_mul (pe_dget hu (pv 0) pe_str (fun _ _ => rfl)) pe_int) (pe_dget hu (pv 0) pe_str (fun _ _ => rfl))) pe_int) pe_int) (pv 1)))))))))))), ?_⟩
    refine ⟨_, rfl, dgetE hd rfl ⟨_, _, rfl, rfl, _, rfl, iteD (fun hL => ?_) (fun hL => ?_)⟩⟩
    · refine ⟨_, rfl, dgetE hd rfl ⟨_, rfl, ⟨_, _, rfl, rfl, by walk_at "ewc", ?_⟩⟩⟩
      refine ⟨_, rfl, dgetE hd rfl ⟨_, rfl, ⟨_, _, rfl, rfl, by walk_at "ewc", ?_⟩⟩⟩
      refine ⟨_, rfl, dputE hd dkv_pl ?_ (by show 4 ≤ 1000; decide)⟩
      refine ⟨_, rfl, ?_⟩
      refine k _ _ (Int.emod_nonneg _ (by omega)) (Int.emod_lt_of_pos _ m0) ⟨_, _, _, _, upd_same, get_ne ncd hc, hs0, hs1⟩ ((Evo.refl _ H).set i1 hmd hfd)
    · refine ⟨_, rfl, dgetE hd rfl ⟨_, _, rfl, rfl, ?_⟩⟩
      refine ⟨_, rfl, dputE hd dkv_pn ?_ (by show 4 ≤ 1000; decide)⟩
      have E1 : Evo [dk, c] H (upd H dk (.dK (dkv c L s (n + 1)))) := (Evo.refl _ H).set i1 hmd hfd
      have hc1 : upd H dk (.dK (dkv c L s (n + 1))) c = some (.lst (cs.map V.int)) := get_ne ncd hc
      refine ⟨_, rfl, dgetE upd_same rfl ⟨sz (by decide), fun p hp => ?_⟩⟩
      have E2 := E1.new (o := .lst []) hp
      have hd2 : upd (upd H dk (.dK (dkv c L s (n + 1)))) p (.lst []) dk = some (.dK (dkv c L s (n + 1))) := get_new hp upd_same
      have hc2 : upd (upd H dk (.dK (dkv c L s (n + 1)))) p (.lst []) c = some (.lst (cs.map V.int)) := get_new hp hc1
      refine ⟨_, eqL hc2 upd_same (intsOf_of cs) (xs := cs) (ys := []) rfl, ?_⟩
      refine ⟨_, rfl, iteN (fun hne => ?_) (fun he => ?_)⟩
      · obtain ⟨z, cs', rfl⟩ : ∃ z cs', cs = z :: cs' := by
          cases cs with
          | nil => exact absurd rfl hne
          | cons z cs' => exact ⟨z, cs', rfl⟩
        refine ⟨_, rfl, dgetE hd2 rfl ⟨.inl ⟨rfl, _, SqL.of hc2⟩, ?_⟩⟩
        refine ⟨c, _, 0, 0, .int z, rfl, rfl, hc2, by decide, by decide, ?_, rfl, ?_⟩
        · show (if 0 ≤ (0 : Int) && (0 : Int) < ((cs'.map V.int).length + 1 : Nat) then some 0 else none) = some 0
          rw [if_pos (by simp)]
        have hd3 := get_ne (o := .lst (cs'.map V.int)) ncd.symm hd2
        have hc3 : upd (upd (upd H dk (.dK (dkv c L s (n + 1)))) p (.lst [])) c (.lst (cs'.map V.int)) c = some (.lst (cs'.map V.int)) := upd_same
        have E3 := E2.set (o := .lst (cs'.map V.int)) i2 hmc hfc
        -- if cell >= 10 ** 18
        refine ⟨_, rfl, rfl, rfl, _, _, rfl, rfl, _, rfl, iteD (fun hz => ?_) (fun hz => ?_)⟩
        · refine ⟨_, rfl, _, rfl, ⟨_, _, rfl, rfl, by walk_at "ewc", ?_⟩⟩
          refine ⟨_, rfl, dputE hd3 dkv_pl ?_ (by show 4 ≤ 1000; decide)⟩
          refine ⟨_, rfl, _, rfl, ⟨_, _, rfl, rfl, by walk_at "ewc", ?_⟩⟩
          exact k _ _ (Int.emod_nonneg _ (by omega)) (Int.emod_lt_of_pos _ m0) ⟨_, _, _, _, upd_same, get_ne ncd hc3, hs0, hs1⟩ (E3.set i1 hmd hfd)
        · refine ⟨_, rfl, dgetE hd3 rfl ⟨_, _, rfl, rfl, by walk_at "ewc", ?_⟩⟩
          refine ⟨_, rfl, ⟨_, _, rfl, rfl, by walk_at "ewc", ⟨_, _, rfl, rfl, by walk_at "ewc", ⟨_, _, rfl, rfl, ?_⟩⟩⟩⟩
          refine ⟨_, rfl, _, rfl, dgetE hd3 rfl ⟨_, _, rfl, rfl, by walk_at "ewc", ⟨_, _, rfl, rfl, ⟨_, _, rfl, rfl, by walk_at "ewc", ?_⟩⟩⟩⟩
          generalize hsd : (s * 48271 + z % 2147483629 * 69621 + 7919 * (n + 1)) % 2147483587 = sd
          have sd0 : 0 ≤ sd := by omega
          have sd1 : sd < 2147483587 := by omega
          refine ⟨_, rfl, _, rfl, ⟨_, _, rfl, rfl, by walk_at "ewc", ⟨_, _, rfl, rfl, ⟨_, _, rfl, rfl, by walk_at "ewc", ⟨_, _, rfl, rfl, by walk_at "ewc", ?_⟩⟩⟩⟩⟩
          refine ⟨_, rfl, dputE hd3 dkv_ps ?_ (by show 4 ≤ 1000; decide)⟩
          refine ⟨_, rfl, dgetE upd_same rfl ⟨_, _, rfl, rfl, by walk_at "ewc", ?_⟩⟩
          refine ⟨_, rfl, dgetE upd_same rfl ⟨_, _, rfl, rfl, ?_⟩⟩
          refine ⟨_, _, rfl, rfl, by walk_at "ewc", ⟨_, _, rfl, rfl, by walk_at "ewc", ⟨_, rfl, ⟨_, _, rfl, rfl, by walk_at "ewc", ?_⟩⟩⟩⟩
          exact k _ _ (Int.emod_nonneg _ (by omega)) (Int.emod_lt_of_pos _ m0) ⟨_, _, _, _, upd_same, get_ne ncd hc3, Int.emod_nonneg _ (by decide), Int.lt_trans (Int.emod_lt_of_pos _ (by decide)) (by decide)⟩ (E3.set i1 hmd hfd)
      · have hd3 := hd2
        have hc3 := hc2
        have E3 := E2
        -- if cell >= 10 ** 18
        refine ⟨_, rfl, rfl, rfl, _, _, rfl, rfl, _, rfl, iteD (fun hz => ?_) (fun hz => ?_)⟩
        · refine ⟨_, rfl, _, rfl, ⟨_, _, rfl, rfl, by walk_at "ewc", ?_⟩⟩
          refine ⟨_, rfl, dputE hd3 dkv_pl ?_ (by show 4 ≤ 1000; decide)⟩
          refine ⟨_, rfl, _, rfl, ⟨_, _, rfl, rfl, by walk_at "ewc", ?_⟩⟩
          exact k _ _ (Int.emod_nonneg _ (by omega)) (Int.emod_lt_of_pos _ m0) ⟨_, _, _, _, upd_same, get_ne ncd hc3, hs0, hs1⟩ (E3.set i1 hmd hfd)
        · refine ⟨_, rfl, dgetE hd3 rfl ⟨_, _, rfl, rfl, by walk_at "ewc", ?_⟩⟩
          refine ⟨_, rfl, ⟨_, _, rfl, rfl, by walk_at "ewc", ⟨_, _, rfl, rfl, by walk_at "ewc", ⟨_, _, rfl, rfl, ?_⟩⟩⟩⟩
          refine ⟨_, rfl, _, rfl, dgetE hd3 rfl ⟨_, _, rfl, rfl, by walk_at "ewc", ⟨_, _, rfl, rfl, ⟨_, _, rfl, rfl, by walk_at "ewc", ?_⟩⟩⟩⟩
          generalize hsd : (s * 48271 + 0 % 2147483629 * 69621 + 7919 * (n + 1)) % 2147483587 = sd
          have sd0 : 0 ≤ sd := by omega
          have sd1 : sd < 2147483587 := by omega
          refine ⟨_, rfl, _, rfl, ⟨_, _, rfl, rfl, by walk_at "ewc", ⟨_, _, rfl, rfl, ⟨_, _, rfl, rfl, by walk_at "ewc", ⟨_, _, rfl, rfl, by walk_at "ewc", ?_⟩⟩⟩⟩⟩
          refine ⟨_, rfl, dputE hd3 dkv_ps ?_ (by show 4 ≤ 1000; decide)⟩
          refine ⟨_, rfl, dgetE upd_same rfl ⟨_, _, rfl, rfl, by walk_at "ewc", ?_⟩⟩
          refine ⟨_, rfl, dgetE upd_same rfl ⟨_, _, rfl, rfl, ?_⟩⟩
          refine ⟨_, _, rfl, rfl, by walk_at "ewc", ⟨_, _, rfl, rfl, by walk_at "ewc", ⟨_, rfl, ⟨_, _, rfl, rfl, by walk_at "ewc", ?_⟩⟩⟩⟩
          exact k _ _ (Int.emod_nonneg _ (by omega)) (Int.emod_lt_of_pos _ m0) ⟨_, _, _, _, upd_same, get_ne ncd hc3, Int.emod_nonneg _ (by decide), Int.lt_trans (Int.emod_lt_of_pos _ (by decide)) (by decide)⟩ (E3.set i1 hmd hfd)
end
end
end Ew
namespace Ew
open PySem PySem.Spec PyProof.Rows L2 Pu
variable [Tbs]
section
variable {P : Program} {w : World} {K : PySem.W.Frag} {mg : Str → Option Value} {base : Heap}
theorem deck_dkF {H : Hp} {dk c : Addr} (h : Deck H dk c) : DkF 1 H dk c := by
  obtain ⟨a, r, s, cs, h1, h2, h3⟩ := h
  exact ⟨a, r, s, cs, h1, h2, h3⟩
theorem CsF.off {z : Zn} {H H' : Hp} (h : CsF z H) (ev : ∀ b o, H b = some o → b ∉ [z.dk, z.c] → H' b = some o) : CsF z H' := ⟨h.1, fun p hp => let ⟨a, b, c, d⟩ := h.2 p hp; ⟨ev _ _ a (fun m => (List.mem_cons.mp m).elim b (fun w => c (List.mem_singleton.mp w))), b, c, d⟩⟩
theorem okS__law_draw (T : Tx K mg) : FnOk P w K mg base CX0 1 T.a__law_draw T.d__law_draw ["_law_deck_here", "_law_most"] (Sf false 2 wp__law_draw) := by
  refine (ok__law_draw T).imp fun vs H Q E h => ?_
  obtain ⟨z, X, ds, k, hl, hz, hx, hA, hw, c⟩ := h
  unfold wp__law_draw at hw
  split at hw
  · obtain ⟨v, u, rfl, hv, hu⟩ := hA.two
    cases hu
    obtain ⟨⟨m0, m1⟩, hk⟩ := hw
    generalize hd : D.deck 1 = d at hv
    cases hv with
    | deck ho =>
      obtain ⟨e1, e2, e3, -⟩ := ho
      injection hd with hd
      rw [← hd] at e3
      have e3' := e3
      obtain ⟨a, r, s, cs, h1, h2, h3⟩ := e3
      rw [e1]
      refine sp__law_draw.mk (c := z.c) ⟨a, r, s, cs, h1, h2, h3⟩ m0 m1 fun H' t t0 t1 hD ev => ?_
      obtain ⟨a', r', s', cs', g1, g2, g3⟩ := hD
      refine c (.int t) (.int t) H' ⟨fun b o q n => ev.old b o q fun m => ?_, fun b q => ?_, fun b q => ?_, tab_deck e3' ev.old⟩ (.int t) (fun q => Bool.noConfusion q) (hk t t0 t1)
      · rcases List.mem_cons.mp m with w | w
        · exact n (.inl ⟨e2, .inl w⟩)
        · exact n (.inl ⟨e2, .inr (.inl (List.mem_singleton.mp w))⟩)
      · by_cases hb : b ∈ [z.dk, z.c]
        · rcases List.mem_cons.mp hb with w | w
          · rw [w, g1]; intro q; cases q
          · rw [List.mem_singleton.mp w, g2]; intro q; cases q
        · cases hq : H b with
          | none => exact absurd hq q
          | some o => rw [ev.old b o hq hb]; intro q; cases q
      · obtain ⟨q1, q2, q3, q4, q5⟩ := q
        exact ⟨q1, q2, (by rw [← hd]; exact ⟨a', r', s', cs', g1, g2, g3⟩), (by rw [← hd]; trivial), CsF.off q5 ev.old⟩
    | _ => cases hd
  · exact hw.elim
end
end Ew
namespace Ew
open PySem PySem.Spec PyProof.Rows L2 Pu
variable [Tbs]
section
variable {P : Program} {w : World} {K : PySem.W.Frag} {mg : Str → Option Value} {base : Heap}
theorem ok_spot_of (T : Tx K mg) : FnOk P w K mg base CX0 1 T.a_spot_of T.d_spot_of ["grain", "x", "y"] (Sf false 3 wp_spot_of) :=
  fn_ok (p := P_spot_of) (k := 0) T.F_spot_of sc_spot_of (fun _ _ _ _ _ _ hr => (b_one (s_ret (E.toB (e_tup (a_cons (l := true) (e_op op_mul opd_mul (E.toB (e_v 0)) (E.toB (e_op op_addA opd_add (E.ec (e_v 1)) (E.ec (e_v 2))))) (a_cons (l := true) (e_op op_mul opd_mul (E.toB (e_v 0)) (E.toB (e_op op_sub opd_sub (E.toB (e_v 1)) (E.toB (e_v 2))))) a_nil)))))))
theorem ok_grown (T : Tx K mg) : FnOk P w K mg base CX0 1 T.a_grown T.d_grown ["box", "by"] (Sf false 2 wp_grown) :=
  fn_ok (p := P_grown) (k := 0) T.F_grown sc_grown (fun _ _ _ _ _ _ hr => (b_cons (s_asg (e_v 0) (g_tup (by rfl) (gs_cons (g_name (i := 2) sc_grown.nd rfl (.inl rfl)) (gs_cons (g_name (i := 3) sc_grown.nd rfl (.inl rfl)) (gs_cons (g_name (i := 4) sc_grown.nd rfl (.inl rfl)) (gs_cons (g_name (i := 5) sc_grown.nd rfl (.inl rfl)) gs_nil))))))
    (b_one (s_ret (E.toB (e_tup (a_cons (l := true) (e_op op_sub opd_sub (E.toB (e_v 2)) (E.toB (e_v 1))) (a_cons (l := true) (e_op op_addA opd_add (E.ec (e_v 3)) (E.ec (e_v 1))) (a_cons (l := true) (e_op op_sub opd_sub (E.toB (e_v 4)) (E.toB (e_v 1))) (a_cons (l := true) (e_op op_addA opd_add (E.ec (e_v 5)) (E.ec (e_v 1))) a_nil))))))))))
theorem ok_met (T : Tx K mg) : FnOk P w K mg base CX0 1 T.a_met T.d_met ["box", "other"] (Sf false 2 wp_met) :=
  fn_ok (p := P_met) (k := 0) T.F_met sc_met (fun _ _ _ _ _ _ hr => (b_cons (s_set (i := 2) (e_callB (call_maxN rfl) cd_maxN (by rfl) T.n_max (by decide +kernel) (a_cons (l := false) (E.toB (e_ix (E.ec (e_v 0)) (E.ec e_int))) (a_cons (l := false) (E.toB (e_ix (E.ec (e_v 1)) (E.ec e_int))) a_nil))) sc_met.nd rfl (Or.inl rfl))
    (b_cons (s_set (i := 3) (e_callB (call_minN rfl) cd_minN (by rfl) T.n_min (by decide +kernel) (a_cons (l := false) (E.toB (e_ix (E.ec (e_v 0)) (E.ec e_int))) (a_cons (l := false) (E.toB (e_ix (E.ec (e_v 1)) (E.ec e_int))) a_nil))) sc_met.nd rfl (Or.inl rfl))
    (b_cons (s_set (i := 4) (e_callB (call_maxN rfl) cd_maxN (by rfl) T.n_max (by decide +kernel) (a_cons (l := false) (E.toB (e_ix (E.ec (e_v 0)) (E.ec e_int))) (a_cons (l := false) (E.toB (e_ix (E.ec (e_v 1)) (E.ec e_int))) a_nil))) sc_met.nd rfl (Or.inl rfl))
    (b_cons (s_set (i := 5) (e_callB (call_minN rfl) cd_minN (by rfl) T.n_min (by decide +kernel) (a_cons (l := false) (E.toB (e_ix (E.ec (e_v 0)) (E.ec e_int))) (a_cons (l := false) (E.toB (e_ix (E.ec (e_v 1)) (E.ec e_int))) a_nil))) sc_met.nd rfl (Or.inl rfl))
    (b_cons (s_if (w_t (w_or (t_cmp op_gt (OpD.eb opd_gt) (E.toB (e_v 2)) (E.toB (e_v 3)) (nomark _)) (w_or1 (t_cmp op_gt (OpD.eb opd_gt) (E.toB (e_v 4)) (E.toB (e_v 5)) (nomark _))))) (b_one (s_ret (E.toB e_non))) b_nil)
    (b_one (s_ret (E.toB (e_tup (a_cons (l := true) (e_v 2) (a_cons (l := true) (e_v 3) (a_cons (l := true) (e_v 4) (a_cons (l := true) (e_v 5) a_nil))))))))))))))
theorem ok_apart (T : Tx K mg) : FnOk P w K mg base CX0 1 T.a_apart T.d_apart ["box", "other"] (Sf false 2 wp_apart) :=
  fn_ok (p := P_apart) (k := 0) T.F_apart sc_apart (fun _ _ _ _ _ _ hr => (b_one (s_ret (E.toB (e_callB (call_maxN rfl) cd_maxN (by rfl) T.n_max (by decide +kernel) (a_cons (l := false) (E.toB e_int) (a_cons (l := false) (E.toB (e_op op_sub opd_sub (E.toB (e_ix (E.ec (e_v 0)) (E.ec e_int))) (E.toB (e_ix (E.ec (e_v 1)) (E.ec e_int))))) (a_cons (l := false) (E.toB (e_op op_sub opd_sub (E.toB (e_ix (E.ec (e_v 1)) (E.ec e_int))) (E.toB (e_ix (E.ec (e_v 0)) (E.ec e_int))))) (a_cons (l := false) (E.toB (e_op op_sub opd_sub (E.toB (e_ix (E.ec (e_v 0)) (E.ec e_int))) (E.toB (e_ix (E.ec (e_v 1)) (E.ec e_int))))) (a_cons (l := false) (E.toB (e_op op_sub opd_sub (E.toB (e_ix (E.ec (e_v 1)) (E.ec e_int))) (E.toB (e_ix (E.ec (e_v 0)) (E.ec e_int))))) a_nil))))))))))
theorem ok_steps (T : Tx K mg) : FnOk P w K mg base CX0 1 T.a_steps T.d_steps ["one", "other"] (Sf false 2 wp_steps) :=
  fn_ok (p := P_steps) (k := 0) T.F_steps sc_steps (fun _ _ _ _ _ _ hr => (b_one (s_ret (E.toB (e_op op_addA opd_add (E.ec (e_callB call_abs cd_abs (by rfl) T.n_abs (by decide +kernel) (a_cons (l := false) (E.toB (e_op op_sub opd_sub (E.toB (e_ix (E.ec (e_v 0)) (E.ec e_int))) (E.toB (e_ix (E.ec (e_v 1)) (E.ec e_int))))) a_nil))) (E.ec (e_callB call_abs cd_abs (by rfl) T.n_abs (by decide +kernel) (a_cons (l := false) (E.toB (e_op op_sub opd_sub (E.toB (e_ix (E.ec (e_v 0)) (E.ec e_int))) (E.toB (e_ix (E.ec (e_v 1)) (E.ec e_int))))) a_nil))))))))
theorem ok_wanted (T : Tx K mg) : FnOk P w K mg base CX0 2 T.a_wanted T.d_wanted ["ends", "one", "other"] (Sf false 3 wp_wanted) :=
  fn_ok (p := P_wanted) (k := 1) T.F_wanted sc_wanted (fun _ _ _ _ _ _ hr => (b_cons (s_set (i := 3) (e_ix (E.ec (e_v 0)) (E.ec (e_v 1))) sc_wanted.nd rfl (Or.inl rfl))
    (b_cons (s_set (i := 4) (e_ix (E.ec (e_v 0)) (E.ec (e_v 2))) sc_wanted.nd rfl (Or.inl rfl))
    (b_one (s_ret (E.toB (e_op op_addA opd_add (E.ec (e_op op_addA opd_add (E.ec (e_ix (E.ec (e_v 3)) (E.ec e_int))) (E.ec (e_ix (E.ec (e_v 4)) (E.ec e_int))))) (E.ec (e_call (mo := .e) (ok_steps T) (hr.mono (by decide)) rfl T.g_steps T.F_steps.kp T.b_steps (a_cons (l := true) (e_slice (E.ec (e_v 3)) o_none (o_some (E.toB e_int))) (a_cons (l := true) (e_slice (E.ec (e_v 4)) o_none (o_some (E.toB e_int))) a_nil)) (.inl rfl))))))))))
theorem ok_height_of (T : Tx K mg) : FnOk P w K mg base CX0 3 T.a_height_of T.d_height_of ["ends", "some"] (Sf false 2 wp_height_of) :=
  fn_ok (p := P_height_of) (k := 2) T.F_height_of sc_height_of (fun _ _ _ _ _ _ hr => (b_one (s_ret (E.toB (e_callB (cr_max rfl) cd_maxL (by rfl) T.n_max (by decide +kernel) (a_cons (l := false) (E.toB (e_lc2 (own := [("one", 2), ("other", 3)]) (vs1 := [3]) (i_seq (e_v 1)) (fun _ _ _ _ _ => (g_name (i := 2) sc_height_of.nd rfl (.inl rfl))) (fun _ _ _ _ _ => ts_nil) (fun _ _ _ _ _ => (i_seq (e_v 1))) (fun _ _ _ _ _ => (g_name (i := 3) sc_height_of.nd rfl (.inl rfl))) (fun _ _ _ _ _ => ts_nil) (fun _ _ _ _ _ => (e_call (mo := .e) (ok_wanted T) (hr.mono (by decide)) rfl T.g_wanted T.F_wanted.kp T.b_wanted (a_cons (l := true) (e_v 0) (a_cons (l := true) (e_v 2) (a_cons (l := true) (e_v 3) a_nil))) (.inl rfl))) rfl sc_height_of.nd (blkOk_by (N := N_height_of) (sc := defScope s_height_of) (by decide +kernel)) (by decide) (fun _ h => h) (by decide) rg_name rg_name)) a_nil))))))
theorem ok_reached (T : Tx K mg) : FnOk P w K mg base CX0 2 T.a_reached T.d_reached ["end", "height"] (Sf false 2 wp_reached) :=
  fn_ok (p := P_reached) (k := 1) T.F_reached sc_reached (fun _ _ _ _ _ _ hr => (b_cons (s_asg (e_call (mo := .e) (ok_spot_of T) (hr.mono (by decide)) rfl T.g_spot_of T.F_spot_of.kp T.b_spot_of (a_cons (l := true) (e_gint (by rfl) T.c_GRAIN) (a_cons (l := true) (e_ix (E.ec (e_v 0)) (E.ec e_int)) (a_cons (l := true) (e_ix (E.ec (e_v 0)) (E.ec e_int)) a_nil))) (.inl rfl)) (g_tup (by rfl) (gs_cons (g_name (i := 2) sc_reached.nd rfl (.inl rfl)) (gs_cons (g_name (i := 3) sc_reached.nd rfl (.inl rfl)) gs_nil))))
    (b_one (s_ret (E.toB (e_call (mo := .e) (ok_grown T) (hr.mono (by decide)) rfl T.g_grown T.F_grown.kp T.b_grown (a_cons (l := true) (e_tup (a_cons (l := true) (e_v 2) (a_cons (l := true) (e_v 2) (a_cons (l := true) (e_v 3) (a_cons (l := true) (e_v 3) a_nil))))) (a_cons (l := true) (e_op op_sub opd_sub (E.toB (e_v 1)) (E.toB (e_op op_mul opd_mul (E.toB (e_gint (by rfl) T.c_GRAIN)) (E.toB (e_ix (E.ec (e_v 0)) (E.ec e_int)))))) a_nil)) (.inl rfl)))))))
theorem ok_row_of (T : Tx K mg) : FnOk P w K mg base CX0 4 T.a_row_of T.d_row_of ["ends", "some"] (Sf false 2 wp_row_of) :=
  fn_ok (p := P_row_of) (k := 3) T.F_row_of sc_row_of (fun _ _ _ _ _ _ hr => (b_cons (s_set (i := 2) (e_call (mo := .e) (ok_height_of T) (hr.mono (by decide)) rfl T.g_height_of T.F_height_of.kp T.b_height_of (a_cons (l := true) (e_v 0) (a_cons (l := true) (e_v 1) a_nil)) (.inl rfl)) sc_row_of.nd rfl (Or.inl rfl))
    (b_cons (s_set (i := 3) (e_call (mo := .e) (ok_reached T) (hr.mono (by decide)) rfl T.g_reached T.F_reached.kp T.b_reached (a_cons (l := true) (e_ix (E.ec (e_v 0)) (E.ec (e_ix (E.ec (e_v 1)) (E.ec e_int)))) (a_cons (l := true) (e_v 2) a_nil)) (.inl rfl)) sc_row_of.nd rfl (Or.inl rfl))
    (b_cons (s_for (i_seq (e_slice (E.ec (e_v 1)) (o_some (E.toB e_int)) o_none)) (g_name (i := 4) sc_row_of.nd rfl (.inl rfl))
    (b_one (s_set (i := 3) (e_call (mo := .e) (ok_met T) (hr.mono (by decide)) rfl T.g_met T.F_met.kp T.b_met (a_cons (l := true) (e_v 3) (a_cons (l := true) (e_call (mo := .e) (ok_reached T) (hr.mono (by decide)) rfl T.g_reached T.F_reached.kp T.b_reached (a_cons (l := true) (e_ix (E.ec (e_v 0)) (E.ec (e_v 4))) (a_cons (l := true) (e_v 2) a_nil)) (.inl rfl)) a_nil)) (.inl rfl)) sc_row_of.nd rfl (Or.inl rfl))) PassesOwn.never rfl)
    (b_one (s_ret (E.toB (e_tup (a_cons (l := true) (e_v 2) (a_cons (l := true) (e_v 3) a_nil))))))))))
theorem ok_joined (T : Tx K mg) : FnOk P w K mg base CX0 2 T.a_joined T.d_joined ["one", "other"] (Sf false 2 wp_joined) :=
  fn_ok (p := P_joined) (k := 1) T.F_joined sc_joined (fun _ _ _ _ _ _ hr => (b_cons (s_asg (e_v 0) (g_tup (by rfl) (gs_cons (g_name (i := 2) sc_joined.nd rfl (.inl rfl)) (gs_cons (g_name (i := 3) sc_joined.nd rfl (.inl rfl)) gs_nil))))
    (b_cons (s_asg (e_v 1) (g_tup (by rfl) (gs_cons (g_name (i := 4) sc_joined.nd rfl (.inl rfl)) (gs_cons (g_name (i := 5) sc_joined.nd rfl (.inl rfl)) gs_nil))))
    (b_cons (s_set (i := 6) (e_call (mo := .e) (ok_apart T) (hr.mono (by decide)) rfl T.g_apart T.F_apart.kp T.b_apart (a_cons (l := true) (e_v 3) (a_cons (l := true) (e_v 5) a_nil)) (.inl rfl)) sc_joined.nd rfl (Or.inl rfl))
    (b_cons (s_set (i := 7) (e_callB (call_maxN rfl) cd_maxN (by rfl) T.n_max (by decide +kernel) (a_cons (l := false) (E.toB (e_v 2)) (a_cons (l := false) (E.toB (e_v 4)) (a_cons (l := false) (E.toB (e_op op_fdiv opd_div (E.toB (e_op op_addA opd_add (E.ec (e_op op_addA opd_add (E.ec (e_v 2)) (E.ec (e_v 4)))) (E.ec (e_v 6)))) (E.toB e_int))) a_nil)))) sc_joined.nd rfl (Or.inl rfl))
    (b_cons (s_set (i := 8) (e_op op_sub opd_sub (E.toB (e_v 7)) (E.toB (e_v 2))) sc_joined.nd rfl (Or.inl rfl))
    (b_cons (s_set (i := 9) (e_op op_sub opd_sub (E.toB (e_v 7)) (E.toB (e_v 4))) sc_joined.nd rfl (Or.inl rfl))
    (b_one (s_ret (E.toB (e_tup (a_cons (l := true) (e_v 7) (a_cons (l := true) (e_call (mo := .e) (ok_met T) (hr.mono (by decide)) rfl T.g_met T.F_met.kp T.b_met (a_cons (l := true) (e_call (mo := .e) (ok_grown T) (hr.mono (by decide)) rfl T.g_grown T.F_grown.kp T.b_grown (a_cons (l := true) (e_v 3) (a_cons (l := true) (e_v 8) a_nil)) (.inl rfl)) (a_cons (l := true) (e_call (mo := .e) (ok_grown T) (hr.mono (by decide)) rfl T.g_grown T.F_grown.kp T.b_grown (a_cons (l := true) (e_v 5) (a_cons (l := true) (e_v 9) a_nil)) (.inl rfl)) a_nil)) (.inl rfl)) (a_cons (l := true) (e_v 8) (a_cons (l := true) (e_v 9) a_nil)))))))))))))))
theorem ok_Knot___init__ (T : Tx K mg) : FnOk P w K mg base CX0 1 T.a_Knot___init__ T.d_Knot___init__ ["self", "name", "end", "sides"] (SfS 4 wp_Knot___init__) :=
  fn_okS (p := P_Knot___init__) (k := 0) T.F_Knot___init__ sc_Knot___init__ (by decide) (fun _ _ _ _ _ _ hr => (bs_cons (ss_fld 4 T.cv_Knot T.cls_Knot T.na_Knot_name (e_v 0) (ms_e (e_v 1)))
    (bs_cons (ss_fld 4 T.cv_Knot T.cls_Knot T.na_Knot_end (e_v 0) (ms_e (e_v 2)))
    (bs_cons (ss_fld 4 T.cv_Knot T.cls_Knot T.na_Knot_sides (e_v 0) (ms_e (e_v 3)))
    (bs_cons (ss_fld 4 T.cv_Knot T.cls_Knot T.na_Knot_above (e_v 0) (ms_e e_non))
    (bs_cons (ss_fld 4 T.cv_Knot T.cls_Knot T.na_Knot_stand (e_v 0) (ms_e e_non))
    (bs_one (ss_fld 4 T.cv_Knot T.cls_Knot T.na_Knot_weight (e_v 0) (ms_e e_int)))))))))
theorem ok_end_knot (T : Tx K mg) : FnOk P w K mg base CX0 5 T.a_end_knot T.d_end_knot ["name", "end"] (SfS 2 wp_end_knot) :=
  fn_okS (p := P_end_knot) (k := 4) T.F_end_knot sc_end_knot (by decide) (fun _ _ _ _ _ _ hr => (bs_cons (ss_setM (i := 2) (ms_make 3 T.cv_Knot T.mk_Knot (ok_Knot___init__ T) (hr.mono (by decide)) rfl T.gc_Knot T.b_Knot___init__ .nil dflt0 (mas_A (a_cons (l := true) (e_v 0) (a_cons (l := true) (e_v 1) (a_cons (l := true) (e_tup a_nil) a_nil))))) sc_end_knot.nd rfl (Or.inl rfl))
    (bs_cons (ss_fld 3 T.cv_Knot T.cls_Knot T.na_Knot_stand (e_v 2) (ms_e (e_call (mo := .e) (ok_row_of T) (hr.mono (by decide)) rfl T.g_row_of T.F_row_of.kp T.b_row_of (a_cons (l := true) (e_tup (a_cons (l := true) (e_v 1) a_nil)) (a_cons (l := true) (e_tup (a_cons (l := true) e_int a_nil)) a_nil)) (.inl rfl))))
    (bs_cons (ss_fld 3 T.cv_Knot T.cls_Knot T.na_Knot_weight (e_v 2) (ms_e (e_ix (E.ec (e_v 1)) (E.ec e_int))))
    (bs_one (ss_ret (ms_e (e_v 2))))))))
theorem ok__law_path (T : Tx K mg) : FnOk P w K mg base CX0 26 T.a__law_path T.d__law_path ["_law_tree", "_law_name"] (Sf false 2 wp__law_path) :=
  fn_rec (fun m => Sf false 2 (wpR__law_path m)) 0 (fun vs H Q E h => let ⟨_, _, _, _, _, _, _, _, h, _⟩ := h; h) (fun m IH => fn_ok (p := P__law_path (wpR__law_path m)) (k := 0 + m) T.F__law_path sc__law_path (fun _ _ _ _ _ _ hr => (b_cons (s_if (t_val (E.toB (e_callB call_isi cd_isi (by rfl) T.n_isinstance (by decide +kernel) (a_cons (l := false) (E.toB (e_v 0)) (a_cons (l := false) (E.toB (e_ty (n := "str") (by rfl) T.n_str (by decide +kernel))) a_nil))))) (b_one (s_ret (E.toB (e_ix (E.ec (E.fe (e_lst (a_cons (l := true) e_non (a_cons (l := true) (E.fe (e_lst a_nil)) a_nil))))) (E.ec (e_callTy call_int1 cd_int (by rfl) T.n_int (by decide +kernel) (a_cons (l := false) (E.toB (e_cmp (op_eqD hr.units) opd_eq (E.toB (e_v 0)) (E.toB (e_v 1)) (nomark _))) a_nil))))))) b_nil)
    (b_cons (s_for (i_seq (e_tup (a_cons (l := true) e_int (a_cons (l := true) e_int a_nil)))) (g_name (i := 2) sc__law_path.nd rfl (.inl rfl))
    (b_cons (s_set (i := 3) e_non sc__law_path.nd rfl (Or.inl rfl))
    (b_cons (s_if (t_cmp (op_neE hr.units) (OpD.eb opd_emp) (E.toB (e_v 0)) (E.toB (e_tup a_nil)) (nomark _)) (b_one (s_set (i := 3) (e_call (mo := .e) IH hr rfl T.g__law_path T.F__law_path.kp T.b__law_path (a_cons (l := true) (e_ix (E.ec (e_v 0)) (E.ec (e_v 2))) (a_cons (l := true) (e_v 1) a_nil)) (.inl rfl)) sc__law_path.nd rfl (Or.inl rfl))) b_nil)
    (b_one (s_if (t_cmp op_isNA (OpD.eb opd_isN) (E.toB (e_v 3)) (E.toB e_non) (nomark _)) (b_one (s_ret (E.toB (e_op op_addA opd_add (E.ec (E.fe (e_lst (a_cons (l := true) (e_v 2) a_nil)))) (E.ec (e_v 3)))))) b_nil)))) PassesOwn.never rfl)
    (b_one (s_ret (E.toB e_non))))))) 26
theorem ok__law_knot (T : Tx K mg) : FnOk P w K mg base CX0 1 T.a__law_knot T.d__law_knot ["_law_tree", "_law_path_here"] (Sf false 2 wp__law_knot) :=
  fn_ok (p := P__law_knot) (k := 0) T.F__law_knot sc__law_knot (fun _ _ _ _ _ _ hr => (b_cons (s_for (i_seq (e_v 1)) (g_name (i := 2) sc__law_knot.nd rfl (.inl rfl))
    (b_one (s_set (i := 0) (e_ix (E.ec (e_v 0)) (E.ec (e_v 2))) sc__law_knot.nd rfl (Or.inl rfl))) PassesOwn.never rfl)
    (b_one (s_ret (E.toB (e_v 0))))))
theorem ok__law_put (T : Tx K mg) : FnOk P w K mg base CX0 26 T.a__law_put T.d__law_put ["_law_tree", "_law_path_here", "_law_new"] (Sf false 3 wp__law_put) :=
  fn_rec (fun m => Sf false 3 (wpR__law_put m)) 0 (fun vs H Q E h => let ⟨_, _, _, _, _, _, _, _, h, _⟩ := h; h) (fun m IH => fn_ok (p := P__law_put (wpR__law_put m)) (k := 0 + m) T.F__law_put sc__law_put (fun _ _ _ _ _ _ hr => (b_cons (s_if (t_cmp (op_eqE hr.units) (OpD.eb opd_emp) (E.toB (e_v 1)) (E.toB (e_lst a_nil)) (nomark _)) (b_one (s_ret (E.toB (e_v 2)))) b_nil)
    (b_cons (s_own (i := 3) (e_list (E.ec (e_v 0)) (by rfl) T.n_list (by decide +kernel)) sc__law_put.nd rfl (Or.inl rfl))
    (b_cons (s_put 3 (e_call (mo := .e) IH hr rfl T.g__law_put T.F__law_put.kp T.b__law_put (a_cons (l := true) (e_ix (E.ec (e_v 0)) (E.ec (e_ix (E.ec (e_v 1)) (E.ec e_int)))) (a_cons (l := true) (e_slice (E.ec (e_v 1)) (o_some (E.toB e_int)) o_none) (a_cons (l := true) (e_v 2) a_nil))) (.inl rfl)) (E.toB (e_ix (E.ec (e_v 1)) (E.ec e_int))))
    (b_frz 3 (b_one (s_ret (E.toB (e_tuple (E.ec (e_v 3)) (by rfl) T.n_tuple (by decide +kernel))))))))))) 26
theorem ok__law_names_in (T : Tx K mg) : FnOk P w K mg base CX0 26 T.a__law_names_in T.d__law_names_in ["_law_tree"] (Sf false 1 wp__law_names_in) :=
  fn_rec (fun m => Sf false 1 (wpR__law_names_in m)) 0 (fun vs H Q E h => let ⟨_, _, _, _, _, _, _, _, h, _⟩ := h; h) (fun m IH => fn_ok (p := P__law_names_in (wpR__law_names_in m)) (k := 0 + m) T.F__law_names_in sc__law_names_in (fun _ _ _ _ _ _ hr => (b_cons (s_if (t_val (E.toB (e_callB call_isi cd_isi (by rfl) T.n_isinstance (by decide +kernel) (a_cons (l := false) (E.toB (e_v 0)) (a_cons (l := false) (E.toB (e_ty (n := "str") (by rfl) T.n_str (by decide +kernel))) a_nil))))) (b_one (s_ret (E.toB (e_lst (a_cons (l := true) (e_v 0) a_nil))))) b_nil)
    (b_one (s_ret (E.toB (e_op op_addA opd_add (E.ec (e_call (mo := .e) IH hr rfl T.g__law_names_in T.F__law_names_in.kp T.b__law_names_in (a_cons (l := true) (e_ix (E.ec (e_v 0)) (E.ec e_int)) a_nil) (.inl rfl))) (E.ec (e_call (mo := .e) IH hr rfl T.g__law_names_in T.F__law_names_in.kp T.b__law_names_in (a_cons (l := true) (e_ix (E.ec (e_v 0)) (E.ec e_int)) a_nil) (.inl rfl)))))))))) 26
theorem ok__law_empty (T : Tx K mg) : FnOk P w K mg base CX0 1 T.a__law_empty T.d__law_empty [] (SfS 0 wp__law_empty) :=
  fn_okS (p := P__law_empty) (k := 0) T.F__law_empty sc__law_empty (by decide) (fun _ _ _ _ _ _ hr => (bs_one (ss_ret (ms_disp 0 (ks := ["tree", "ends", "times"]) (mps_e (e_tup a_nil) (mps_d 0 (mps_e e_int mps_nil))) (by decide) (Nat.le_of_ble_eq_true rfl) (by rfl) (by rfl) (fun q => nomatch q) (Nat.le_of_ble_eq_true rfl)))))
theorem ok__law_come (T : Tx K mg) : FnOk P w K mg base CX0 27 T.a__law_come T.d__law_come ["_law_model", "_law_name", "_law_end_here", "_law_beside_here", "_law_above"] (SfS 5 wp__law_come) :=
  fn_okS (p := P__law_come) (k := 26) T.F__law_come sc__law_come (by decide) (fun _ _ _ _ _ _ hr => (bs_cons (ss_if (t_eqEmp 6 hr.units0 (e_subS 6 (hu_of hr) (e_v 0) e_str)) (bs_one (ss_put 6 (hu_of hr) (e_v 0) e_str (ms_e (e_v 1)))) (bs_cons (s_st (fr := false) (s_set (i := 5) (e_call (mo := .e) (ok__law_path T) (hr.mono (by decide)) rfl T.g__law_path T.F__law_path.kp T.b__law_path (a_cons (l := true) (e_subS 6 (hu_of hr) (e_v 0) e_str) (a_cons (l := true) (e_v 3) a_nil)) (.inl rfl)) sc__law_come.nd rfl (Or.inl rfl)))
    (bs_cons (s_st (fr := false) (s_set (i := 5) (e_slice (E.ec (e_v 5)) o_none (o_some (E.toB (e_op op_sub opd_sub (E.toB (e_callB call_lenA cd_len (by rfl) T.n_len (by decide +kernel) (a_cons (l := false) (E.toB (e_v 5)) a_nil))) (E.toB (e_v 4)))))) sc__law_come.nd rfl (Or.inl rfl)))
    (bs_cons (ss_put 6 (hu_of hr) (e_v 0) e_str (ms_e (e_call (mo := .e) (ok__law_put T) (hr.mono (by decide)) rfl T.g__law_put T.F__law_put.kp T.b__law_put (a_cons (l := true) (e_subS 6 (hu_of hr) (e_v 0) e_str) (a_cons (l := true) (e_v 5) (a_cons (l := true) (e_tup (a_cons (l := true) (e_call (mo := .e) (ok__law_knot T) (hr.mono (by decide)) rfl T.g__law_knot T.F__law_knot.kp T.b__law_knot (a_cons (l := true) (e_subS 6 (hu_of hr) (e_v 0) e_str) (a_cons (l := true) (e_v 5) a_nil)) (.inl rfl)) (a_cons (l := true) (e_v 1) a_nil))) a_nil))) (.inl rfl))))
    (bs_one (ss_put 6 (hu_of hr) (e_v 0) e_str (ms_e (e_op op_addA opd_add (E.ec (e_op op_addA opd_add (E.ec (e_subS 6 (hu_of hr) (e_v 0) e_str)) (E.ec e_int))) (E.ec (e_callB call_lenA cd_len (by rfl) T.n_len (by decide +kernel) (a_cons (l := false) (E.toB (e_v 5)) a_nil)))))))))))
    (bs_one (ss_put 6 (hu_of hr) (e_subS 6 (hu_of hr) (e_v 0) e_str) (e_v 1) (ms_e (e_v 2))))))
theorem ok__law_go (T : Tx K mg) : FnOk P w K mg base CX0 27 T.a__law_go T.d__law_go ["_law_model", "_law_name"] (SfS 2 wp__law_go) :=
  fn_okS (p := P__law_go) (k := 26) T.F__law_go sc__law_go (by decide) (fun _ _ _ _ _ _ hr => (bs_cons (s_st (fr := false) (s_set (i := 2) (e_call (mo := .e) (ok__law_path T) (hr.mono (by decide)) rfl T.g__law_path T.F__law_path.kp T.b__law_path (a_cons (l := true) (e_subS 4 (hu_of hr) (e_v 0) e_str) (a_cons (l := true) (e_v 1) a_nil)) (.inl rfl)) sc__law_go.nd rfl (Or.inl rfl)))
    (bs_cons (ss_exprM (ms_pop 4 (e_subS 4 (hu_of hr) (e_v 0) e_str) (e_v 1) ⟨by rfl, by rfl, by rfl, by rfl⟩))
    (bs_one (ss_if (t_cmp (op_eqE hr.units) (OpD.eb opd_emp) (E.toB (e_v 2)) (E.toB (e_lst a_nil)) (nomark _)) (bs_one (ss_put 4 (hu_of hr) (e_v 0) e_str (ms_e (e_tup a_nil)))) (bs_cons (s_st (fr := false) (s_set (i := 3) (e_call (mo := .e) (ok__law_knot T) (hr.mono (by decide)) rfl T.g__law_knot T.F__law_knot.kp T.b__law_knot (a_cons (l := true) (e_subS 4 (hu_of hr) (e_v 0) e_str) (a_cons (l := true) (e_op op_addA opd_add (E.ec (e_slice (E.ec (e_v 2)) o_none (o_some (E.toB (e_neg (E.toB e_int)))))) (E.ec (E.fe (e_lst (a_cons (l := true) (e_op op_sub opd_sub (E.toB e_int) (E.toB (e_ix (E.ec (e_v 2)) (E.ec (e_neg (E.toB e_int)))))) a_nil))))) a_nil)) (.inl rfl)) sc__law_go.nd rfl (Or.inl rfl)))
    (bs_cons (ss_put 4 (hu_of hr) (e_v 0) e_str (ms_e (e_call (mo := .e) (ok__law_put T) (hr.mono (by decide)) rfl T.g__law_put T.F__law_put.kp T.b__law_put (a_cons (l := true) (e_subS 4 (hu_of hr) (e_v 0) e_str) (a_cons (l := true) (e_slice (E.ec (e_v 2)) o_none (o_some (E.toB (e_neg (E.toB e_int))))) (a_cons (l := true) (e_v 3) a_nil))) (.inl rfl))))
    (bs_one (ss_put 4 (hu_of hr) (e_v 0) e_str (ms_e (e_op op_sub opd_sub (E.toB (e_op op_addA opd_add (E.ec (e_subS 4 (hu_of hr) (e_v 0) e_str)) (E.ec (e_callB call_lenA cd_len (by rfl) T.n_len (by decide +kernel) (a_cons (l := false) (E.toB (e_v 2)) a_nil))))) (E.toB e_int))))))))))))
theorem ok__law_pool (T : Tx K mg) : FnOk P w K mg base CX0 2 T.a__law_pool T.d__law_pool ["_law_deck_here"] (Sf false 1 wp__law_pool) :=
  fn_ok (p := P__law_pool) (k := 1) T.F__law_pool sc__law_pool (fun _ _ _ _ _ _ hr => (b_cons (s_set (i := 1) e_str sc__law_pool.nd rfl (Or.inr rfl))
    (b_cons (s_set (i := 2) (e_op op_addA opd_add (E.ec e_int) (E.ec (e_call (mo := .e) (okS__law_draw T) (hr.mono (by decide)) rfl T.g__law_draw T.F__law_draw.kp T.b__law_draw (a_cons (l := true) (e_v 0) (a_cons (l := true) e_int a_nil)) (.inl rfl)))) sc__law_pool.nd rfl (Or.inl rfl))
    (b_cons (s_set (i := 3) (e_call (mo := .e) (okS__law_draw T) (hr.mono (by decide)) rfl T.g__law_draw T.F__law_draw.kp T.b__law_draw (a_cons (l := true) (e_v 0) (a_cons (l := true) (e_v 2) a_nil)) (.inl rfl)) sc__law_pool.nd rfl (Or.inl rfl))
    (b_cons (s_ownLc (i := 4) (own := [("_law_k", 5)]) (i_range1 (a_cons (l := false) (E.toB (e_v 2)) a_nil) (by rfl) T.n_range) (fun _ _ _ _ _ => (g_name (i := 5) sc__law_pool.nd rfl (.inl rfl))) (fun _ _ _ _ _ => ts_nil) (fun _ _ _ _ _ => (e_ixS (E.ec (e_v 1)) (E.ec (e_call (mo := .e) (okS__law_draw T) (hr.mono (by decide)) rfl T.g__law_draw T.F__law_draw.kp T.b__law_draw (a_cons (l := true) (e_v 0) (a_cons (l := true) e_int a_nil)) (.inl rfl))))) rfl sc__law_pool.nd rfl rfl (sw_true rfl rfl rfl (by decide +kernel)) (blkOk_by (N := N__law_pool) (sc := defScope s__law_pool) (by decide +kernel)) (fun _ h => h) rg_name)
    (b_cons (s_set (i := 6) (e_call (mo := .e) (okS__law_draw T) (hr.mono (by decide)) rfl T.g__law_draw T.F__law_draw.kp T.b__law_draw (a_cons (l := true) (e_v 0) (a_cons (l := true) e_int a_nil)) (.inl rfl)) sc__law_pool.nd rfl (Or.inl rfl))
    (b_cons (s_own (i := 7) (e_lst a_nil) sc__law_pool.nd rfl (Or.inl rfl))
    (b_cons (s_for (i_range1 (a_cons (l := false) (E.toB e_int) a_nil) (by rfl) T.n_range) (g_name (i := 5) sc__law_pool.nd rfl (.inl rfl))
    (b_cons (s_put 4 (e_ixS (E.ec (e_v 1)) (E.ec (e_op op_mod opd_mod (E.toB (e_op op_addA opd_add (E.ec (e_v 6)) (E.ec (e_op op_mul opd_mul (E.toB e_int) (E.toB (e_v 5)))))) (E.toB e_int)))) (E.toB (e_v 3)))
    (b_one (s_append 7 (e_m1 PySem.F.slot_str_join PySem.F.type_str_join mt_join md_join e_str (e_o 4)) (hb := fun _ _ ho he => pe_bm PySem.F.plainAttrs_list PySem.F.slot_list_append PySem.F.type_list_append mt_append ho (pa_cons he pa_nil))))) PassesOwn.never rfl)
    (b_frz 4 (b_one (s_retO 7)))))))))))
theorem ok__law_number (T : Tx K mg) : FnOk P w K mg base CX0 2 T.a__law_number T.d__law_number ["_law_deck_here", "_law_way"] (Sf false 2 wp__law_number) :=
  fn_ok (p := P__law_number) (k := 1) T.F__law_number sc__law_number (fun _ _ _ _ _ _ hr => (b_cons (s_if (t_cmp (op_eqD hr.units) (OpD.eb opd_eq) (E.toB (e_v 1)) (E.toB e_int) (nomark _)) (b_one (s_ret (E.toB (e_call (mo := .e) (okS__law_draw T) (hr.mono (by decide)) rfl T.g__law_draw T.F__law_draw.kp T.b__law_draw (a_cons (l := true) (e_v 0) (a_cons (l := true) e_int a_nil)) (.inl rfl))))) b_nil)
    (b_cons (s_if (t_cmp (op_eqD hr.units) (OpD.eb opd_eq) (E.toB (e_v 1)) (E.toB e_int) (nomark _)) (b_one (s_ret (E.toB (e_op op_fdiv opd_div (E.toB (e_ix (E.ec (E.fe (e_lst (a_cons (l := true) (e_powC 10 6 1000000) (a_cons (l := true) (e_neg (E.toB (e_powC 10 6 1000000))) a_nil))))) (E.ec (e_call (mo := .e) (okS__law_draw T) (hr.mono (by decide)) rfl T.g__law_draw T.F__law_draw.kp T.b__law_draw (a_cons (l := true) (e_v 0) (a_cons (l := true) e_int a_nil)) (.inl rfl))))) (E.toB (e_op op_addA opd_add (E.ec e_int) (E.ec (e_call (mo := .e) (okS__law_draw T) (hr.mono (by decide)) rfl T.g__law_draw T.F__law_draw.kp T.b__law_draw (a_cons (l := true) (e_v 0) (a_cons (l := true) e_int a_nil)) (.inl rfl))))))))) b_nil)
    (b_one (s_ret (E.toB (e_op op_sub opd_sub (E.toB (e_call (mo := .e) (okS__law_draw T) (hr.mono (by decide)) rfl T.g__law_draw T.F__law_draw.kp T.b__law_draw (a_cons (l := true) (e_v 0) (a_cons (l := true) (e_op op_addA opd_add (E.ec (e_op op_mul opd_mul (E.toB e_int) (E.toB (e_powC 10 6 1000000)))) (E.ec e_int)) a_nil)) (.inl rfl))) (E.toB (e_powC 10 6 1000000)))))))))
theorem ok__law_end (T : Tx K mg) : FnOk P w K mg base CX0 3 T.a__law_end T.d__law_end ["_law_deck_here", "_law_way"] (Sf false 2 wp__law_end) :=
  fn_ok (p := P__law_end) (k := 2) T.F__law_end sc__law_end (fun _ _ _ _ _ _ hr => (b_cons (s_set (i := 2) (E.fe (e_lst (a_cons (l := true) (e_call (mo := .e) (ok__law_number T) (hr.mono (by decide)) rfl T.g__law_number T.F__law_number.kp T.b__law_number (a_cons (l := true) (e_v 0) (a_cons (l := true) (e_v 1) a_nil)) (.inl rfl)) (a_cons (l := true) (e_call (mo := .e) (ok__law_number T) (hr.mono (by decide)) rfl T.g__law_number T.F__law_number.kp T.b__law_number (a_cons (l := true) (e_v 0) (a_cons (l := true) (e_v 1) a_nil)) (.inl rfl)) a_nil)))) sc__law_end.nd rfl (Or.inl rfl))
    (b_cons (s_set (i := 3) (e_ix (E.ec (E.fe (e_lst (a_cons (l := true) e_int (a_cons (l := true) e_int (a_cons (l := true) (e_call (mo := .e) (okS__law_draw T) (hr.mono (by decide)) rfl T.g__law_draw T.F__law_draw.kp T.b__law_draw (a_cons (l := true) (e_v 0) (a_cons (l := true) e_int a_nil)) (.inl rfl)) (a_cons (l := true) (e_call (mo := .e) (okS__law_draw T) (hr.mono (by decide)) rfl T.g__law_draw T.F__law_draw.kp T.b__law_draw (a_cons (l := true) (e_v 0) (a_cons (l := true) (e_op op_addA opd_add (E.ec (e_powC 10 6 1000000)) (E.ec e_int)) a_nil)) (.inl rfl)) a_nil))))))) (E.ec (e_call (mo := .e) (okS__law_draw T) (hr.mono (by decide)) rfl T.g__law_draw T.F__law_draw.kp T.b__law_draw (a_cons (l := true) (e_v 0) (a_cons (l := true) e_int a_nil)) (.inl rfl)))) sc__law_end.nd rfl (Or.inl rfl))
    (b_one (s_ret (E.toB (e_tup (a_cons (l := true) (e_ix (E.ec (e_v 2)) (E.ec e_int)) (a_cons (l := true) (e_ix (E.ec (e_v 2)) (E.ec e_int)) (a_cons (l := true) (e_v 3) (a_cons (l := true) (e_ix (E.ec (E.fe (e_lst (a_cons (l := true) (e_call (mo := .e) (okS__law_draw T) (hr.mono (by decide)) rfl T.g__law_draw T.F__law_draw.kp T.b__law_draw (a_cons (l := true) (e_v 0) (a_cons (l := true) e_int a_nil)) (.inl rfl)) (a_cons (l := true) (e_call (mo := .e) (okS__law_draw T) (hr.mono (by decide)) rfl T.g__law_draw T.F__law_draw.kp T.b__law_draw (a_cons (l := true) (e_v 0) (a_cons (l := true) (e_op op_addA opd_add (E.ec (e_powC 10 6 1000000)) (E.ec e_int)) a_nil)) (.inl rfl)) a_nil))))) (E.ec (e_call (mo := .e) (okS__law_draw T) (hr.mono (by decide)) rfl T.g__law_draw T.F__law_draw.kp T.b__law_draw (a_cons (l := true) (e_v 0) (a_cons (l := true) e_int a_nil)) (.inl rfl)))) a_nil)))))))))))
theorem ok__law_beside (T : Tx K mg) : FnOk P w K mg base CX0 27 T.a__law_beside T.d__law_beside ["_law_deck_here", "_law_model"] (SfS 2 wp__law_beside) :=
  fn_okS (p := P__law_beside) (k := 26) T.F__law_beside sc__law_beside (by decide) (fun _ _ _ _ _ _ hr => (bs_cons (s_st (fr := false) (s_set (i := 2) (E.fe (e_listS 5 (e_subS 5 (hu_of hr) (e_v 1) e_str) rfl (by rfl) T.n_list)) sc__law_beside.nd rfl (Or.inl rfl)))
    (bs_cons (s_st (fr := false) (s_set (i := 3) (e_ix (E.ec (e_v 2)) (E.ec (e_call (mo := .e) (okS__law_draw T) (hr.mono (by decide)) rfl T.g__law_draw T.F__law_draw.kp T.b__law_draw (a_cons (l := true) (e_v 0) (a_cons (l := true) (e_callB call_lenA cd_len (by rfl) T.n_len (by decide +kernel) (a_cons (l := false) (E.toB (e_v 2)) a_nil)) a_nil)) (.inl rfl)))) sc__law_beside.nd rfl (Or.inl rfl)))
    (bs_cons (s_st (fr := false) (s_set (i := 4) (e_callB call_lenA cd_len (by rfl) T.n_len (by decide +kernel) (a_cons (l := false) (E.toB (e_call (mo := .e) (ok__law_path T) (hr.mono (by decide)) rfl T.g__law_path T.F__law_path.kp T.b__law_path (a_cons (l := true) (e_subS 5 (hu_of hr) (e_v 1) e_str) (a_cons (l := true) (e_v 3) a_nil)) (.inl rfl))) a_nil)) sc__law_beside.nd rfl (Or.inl rfl)))
    (bs_one (ss_ret (ms_e (e_tup (a_cons (l := true) (e_v 3) (a_cons (l := true) (e_ix (E.ec (E.fe (e_lst (a_cons (l := true) (e_call (mo := .e) (okS__law_draw T) (hr.mono (by decide)) rfl T.g__law_draw T.F__law_draw.kp T.b__law_draw (a_cons (l := true) (e_v 0) (a_cons (l := true) (e_op op_addA opd_add (E.ec (e_v 4)) (E.ec e_int)) a_nil)) (.inl rfl)) (a_cons (l := true) (e_v 4) (a_cons (l := true) e_int a_nil)))))) (E.ec (e_call (mo := .e) (okS__law_draw T) (hr.mono (by decide)) rfl T.g__law_draw T.F__law_draw.kp T.b__law_draw (a_cons (l := true) (e_v 0) (a_cons (l := true) e_int a_nil)) (.inl rfl)))) a_nil))))))))))
theorem ok__law_row (T : Tx K mg) : FnOk P w K mg base CX0 1 T.a__law_row T.d__law_row ["_law_ends"] (Sf false 1 wp__law_row) :=
  fn_ok (p := P__law_row) (k := 0) T.F__law_row sc__law_row (fun _ _ _ _ _ _ hr => (b_cons (s_set (i := 1) e_int sc__law_row.nd rfl (Or.inr rfl))
    (b_cons (s_for (i_seq (e_v 0)) (g_name (i := 2) sc__law_row.nd rfl (.inl rfl))
    (b_one (s_for (i_seq (e_v 0)) (g_name (i := 3) sc__law_row.nd rfl (.inl rfl))
    (b_cons (s_set (i := 4) (e_op op_addA opd_add (E.ec (e_callB call_abs cd_abs (by rfl) T.n_abs (by decide +kernel) (a_cons (l := false) (E.toB (e_op op_sub opd_sub (E.toB (e_ix (E.ec (e_v 2)) (E.ec e_int))) (E.toB (e_ix (E.ec (e_v 3)) (E.ec e_int))))) a_nil))) (E.ec (e_callB call_abs cd_abs (by rfl) T.n_abs (by decide +kernel) (a_cons (l := false) (E.toB (e_op op_sub opd_sub (E.toB (e_ix (E.ec (e_v 2)) (E.ec e_int))) (E.toB (e_ix (E.ec (e_v 3)) (E.ec e_int))))) a_nil)))) sc__law_row.nd rfl (Or.inl rfl))
    (b_one (s_set (i := 1) (e_callB (call_maxN rfl) cd_maxN (by rfl) T.n_max (by decide +kernel) (a_cons (l := false) (E.toB (e_v 1)) (a_cons (l := false) (E.toB (e_op op_addA opd_add (E.ec (e_op op_addA opd_add (E.ec (e_v 4)) (E.ec (e_ix (E.ec (e_v 2)) (E.ec e_int))))) (E.ec (e_ix (E.ec (e_v 3)) (E.ec e_int))))) a_nil))) sc__law_row.nd rfl (Or.inr rfl)))) PassesOwn.never rfl)) PassesOwn.never rfl)
    (b_cons (s_set (i := 5) (e_tup a_nil) sc__law_row.nd rfl (Or.inl rfl))
    (b_cons (s_for (i_seq (e_tup (a_cons (l := true) e_int (a_cons (l := true) (e_neg (E.toB e_int)) a_nil)))) (g_name (i := 6) sc__law_row.nd rfl (.inr rfl))
    (b_cons (s_setLc (i := 7) (own := [("_law_end_here", 8)]) (i_seq (e_v 0)) (fun _ _ _ _ _ => (g_name (i := 8) sc__law_row.nd rfl (.inl rfl))) (fun _ _ _ _ _ => ts_nil) (fun _ _ _ _ _ => (e_tup (a_cons (l := true) (e_op op_mul opd_mul (E.toB e_int) (E.toB (e_op op_addA opd_add (E.ec (e_ix (E.ec (e_v 8)) (E.ec e_int))) (E.ec (e_op op_mul opd_mul (E.toB (e_v 6)) (E.toB (e_ix (E.ec (e_v 8)) (E.ec e_int)))))))) (a_cons (l := true) (e_op op_sub opd_sub (E.toB (e_v 1)) (E.toB (e_op op_mul opd_mul (E.toB e_int) (E.toB (e_ix (E.ec (e_v 8)) (E.ec e_int)))))) a_nil)))) rfl sc__law_row.nd rfl rfl (sw_true rfl rfl rfl (by decide +kernel)) (blkOk_by (N := N__law_row) (sc := defScope s__law_row) (by decide +kernel)) (fun _ h => h) rg_name)
    (b_cons (s_set (i := 5) (e_op op_addA opd_add (E.ec (e_v 5)) (E.ec (e_tup (a_cons (l := true) (e_callB (cr_max rfl) cd_maxL (by rfl) T.n_max (by decide +kernel) (a_cons (l := false) (E.toB (e_lc (own := [("_law_spot", 9), ("_law_room", 10)]) (i_seq (e_v 7)) (fun _ _ _ _ _ => (g_tup (by rfl) (gs_cons (g_name (i := 9) sc__law_row.nd rfl (.inl rfl)) (gs_cons (g_name (i := 10) sc__law_row.nd rfl (.inl rfl)) gs_nil)))) (fun _ _ _ _ _ => ts_nil) (fun _ _ _ _ _ => (e_op op_sub opd_sub (E.toB (e_v 9)) (E.toB (e_v 10)))) rfl sc__law_row.nd (blkOk_by (N := N__law_row) (sc := defScope s__law_row) (by decide +kernel)) (fun _ h => h) (rg_tup (rgs_cons rg_name (rgs_cons rg_name rgs_nil))))) a_nil)) a_nil)))) sc__law_row.nd rfl (Or.inl rfl))
    (b_one (s_set (i := 5) (e_op op_addA opd_add (E.ec (e_v 5)) (E.ec (e_tup (a_cons (l := true) (e_callB (cr_min rfl) cd_minL (by rfl) T.n_min (by decide +kernel) (a_cons (l := false) (E.toB (e_lc (own := [("_law_spot", 9), ("_law_room", 10)]) (i_seq (e_v 7)) (fun _ _ _ _ _ => (g_tup (by rfl) (gs_cons (g_name (i := 9) sc__law_row.nd rfl (.inl rfl)) (gs_cons (g_name (i := 10) sc__law_row.nd rfl (.inl rfl)) gs_nil)))) (fun _ _ _ _ _ => ts_nil) (fun _ _ _ _ _ => (e_op op_addA opd_add (E.ec (e_v 9)) (E.ec (e_v 10)))) rfl sc__law_row.nd (blkOk_by (N := N__law_row) (sc := defScope s__law_row) (by decide +kernel)) (fun _ h => h) (rg_tup (rgs_cons rg_name (rgs_cons rg_name rgs_nil))))) a_nil)) a_nil)))) sc__law_row.nd rfl (Or.inl rfl))))) PassesOwn.never rfl)
    (b_one (s_ret (E.toB (e_tup (a_cons (l := true) (e_v 1) (a_cons (l := true) (e_v 5) a_nil)))))))))))
theorem ok_Grove_knot_at (T : Tx K mg) : FnOk P w K mg base CX0 1 T.a_Grove_knot_at T.d_Grove_knot_at ["self", "name", "above"] (SfS 3 wp_Grove_knot_at) :=
  fn_okS (p := P_Grove_knot_at) (k := 0) T.F_Grove_knot_at sc_Grove_knot_at (by decide) (fun _ _ _ _ _ _ hr => (bs_cons (ss_if (t_ninS 4 (hu_of hr) (e_v 1) (e_fld 4 T.cv_Grove T.cls_Grove T.na_Grove_knots (e_v 0))) (bs_one (s_st (fr := false) s_never)) bs_nil)
    (bs_cons (s_st (fr := false) (s_own (i := 3) (e_lst (a_cons (l := true) (e_subS 4 (hu_of hr) (e_fld 4 T.cv_Grove T.cls_Grove T.na_Grove_knots (e_v 0)) (e_v 1)) a_nil)) sc_Grove_knot_at.nd rfl (Or.inl rfl)))
    (bs_cons (ss_while (mt_t (t_cmp op_isNA (OpD.eb opd_isN) (E.toB (e_fld 4 T.cv_Knot T.cls_Knot T.na_Knot_above (e_ix (e_o 3) (E.ec (e_neg (E.toB e_int)))))) (E.toB e_non) (nomark _)))
    (bs_one (s_st (fr := false) (s_append 3 (e_fld 4 T.cv_Knot T.cls_Knot T.na_Knot_above (e_ix (e_o 3) (E.ec (e_neg (E.toB e_int))))) (hb := fun _ _ ho he => pe_bm PySem.F.plainAttrs_list PySem.F.slot_list_append PySem.F.type_list_append mt_append ho (pa_cons he pa_nil))))) PassesOwn.never)
    (bs_frz 3 (bs_cons (ss_if (t_not (t_chain op_le op_lt (OpD.eb opd_le) opd_lt (E.toB e_int) (E.toB (e_v 2)) (E.toB (e_callB call_lenA cd_len (by rfl) T.n_len (by decide +kernel) (a_cons (l := false) (E.toB (e_v 3)) a_nil))))) (bs_one (s_st (fr := false) s_never)) bs_nil)
    (bs_one (ss_ret (ms_e (e_ix (E.ec (e_v 3)) (E.ec (e_v 2))))))))))))
theorem ok_Grove_row (T : Tx K mg) : FnOk P w K mg base CX0 2 T.a_Grove_row T.d_Grove_row ["self", "name", "above"] (SfS 3 wp_Grove_row) :=
  fn_okS (p := P_Grove_row) (k := 1) T.F_Grove_row sc_Grove_row (by decide) (fun _ _ _ _ _ _ hr => (bs_one (ss_ret (ms_fld 3 T.cv_Knot T.cls_Knot T.na_Knot_stand (ms_meth 3 T.cv_Grove (e_v 0) T.cls_Grove T.me_Grove_knot_at (ok_Grove_knot_at T) (hr.mono (by decide)) T.b_Grove_knot_at .nil dflt0 (mas_A (a_cons (l := true) (e_v 1) (a_cons (l := true) (e_v 2) a_nil))))))))
theorem ok_Grove_load (T : Tx K mg) : FnOk P w K mg base CX0 2 T.a_Grove_load T.d_Grove_load ["self", "name", "above"] (SfS 3 wp_Grove_load) :=
  fn_okS (p := P_Grove_load) (k := 1) T.F_Grove_load sc_Grove_load (by decide) (fun _ _ _ _ _ _ hr => (bs_one (ss_ret (ms_fld 3 T.cv_Knot T.cls_Knot T.na_Knot_weight (ms_meth 3 T.cv_Grove (e_v 0) T.cls_Grove T.me_Grove_knot_at (ok_Grove_knot_at T) (hr.mono (by decide)) T.b_Grove_knot_at .nil dflt0 (mas_A (a_cons (l := true) (e_v 1) (a_cons (l := true) (e_v 2) a_nil))))))))
theorem ok__law_is_known (T : Tx K mg) : FnOk P w K mg base CX0 27 T.a__law_is_known T.d__law_is_known ["_law_grove", "_law_model", "_law_name", "_law_above"] (SfS 4 wp__law_is_known) :=
  fn_okS (p := P__law_is_known) (k := 26) T.F__law_is_known sc__law_is_known (by decide) (fun _ _ _ _ _ _ hr => (bs_cons (s_st (fr := false) (s_set (i := 4) (e_call (mo := .e) (ok__law_path T) (hr.mono (by decide)) rfl T.g__law_path T.F__law_path.kp T.b__law_path (a_cons (l := true) (e_subS 11 (hu_of hr) (e_v 1) e_str) (a_cons (l := true) (e_v 2) a_nil)) (.inl rfl)) sc__law_is_known.nd rfl (Or.inl rfl)))
    (bs_cons (s_st (fr := false) (s_set (i := 4) (e_slice (E.ec (e_v 4)) o_none (o_some (E.toB (e_op op_sub opd_sub (E.toB (e_callB call_lenA cd_len (by rfl) T.n_len (by decide +kernel) (a_cons (l := false) (E.toB (e_v 4)) a_nil))) (E.toB (e_v 3)))))) sc__law_is_known.nd rfl (Or.inl rfl)))
    (bs_cons (s_st (fr := false) (s_set (i := 5) (e_call (mo := .e) (ok__law_names_in T) (hr.mono (by decide)) rfl T.g__law_names_in T.F__law_names_in.kp T.b__law_names_in (a_cons (l := true) (e_call (mo := .e) (ok__law_knot T) (hr.mono (by decide)) rfl T.g__law_knot T.F__law_knot.kp T.b__law_knot (a_cons (l := true) (e_subS 11 (hu_of hr) (e_v 1) e_str) (a_cons (l := true) (e_v 4) a_nil)) (.inl rfl)) a_nil) (.inl rfl)) sc__law_is_known.nd rfl (Or.inl rfl)))
    (bs_cons (s_st (fr := false) (s_setLc (i := 6) (own := [("_law_one", 7)]) (i_seq (e_v 5)) (fun _ _ _ _ _ => (g_name (i := 7) sc__law_is_known.nd rfl (.inl rfl))) (fun _ _ _ _ _ => ts_nil) (fun _ _ _ _ _ => (e_subS 11 (hu_of hr) (e_subS 11 (hu_of hr) (e_v 1) e_str) (e_v 7))) rfl sc__law_is_known.nd rfl rfl (sw_true rfl rfl rfl (by decide +kernel)) (blkOk_by (N := N__law_is_known) (sc := defScope s__law_is_known) (by decide +kernel)) (fun _ h => h) rg_name))
    (bs_cons (ss_setM (i := 8) (ms_meth 11 T.cv_Grove (e_v 0) T.cls_Grove T.me_Grove_row (ok_Grove_row T) (hr.mono (by decide)) T.b_Grove_row .nil dflt0 (mas_A (a_cons (l := true) (e_v 2) (a_cons (l := true) (e_v 3) a_nil)))) sc__law_is_known.nd rfl (Or.inl rfl))
    (bs_cons (ss_if (w_t (w_or (t_not (t_val (E.toB (e_callB call_isi cd_isi (by rfl) T.n_isinstance (by decide +kernel) (a_cons (l := false) (E.toB (e_v 8)) (a_cons (l := false) (E.toB (e_ty (n := "tuple") (by rfl) T.n_tuple (by decide +kernel))) a_nil)))))) (w_or (t_cmp (op_neD hr.units) (OpD.eb opd_ne) (E.toB (e_v 8)) (E.toB (e_call (mo := .e) (ok__law_row T) (hr.mono (by decide)) rfl T.g__law_row T.F__law_row.kp T.b__law_row (a_cons (l := true) (e_v 6) a_nil) (.inl rfl))) (nomark _)) (w_or1 (t_not (t_val (E.toB (e_callB call_isi cd_isi (by rfl) T.n_isinstance (by decide +kernel) (a_cons (l := false) (E.toB (e_ix (E.ec (e_v 8)) (E.ec e_int))) (a_cons (l := false) (E.toB (e_ty (n := "tuple") (by rfl) T.n_tuple (by decide +kernel))) a_nil)))))))))) (bs_one (ss_ret (ms_e e_bl))) bs_nil)
    (bs_cons (ss_if (t_cmp (op_neE hr.units) (OpD.eb opd_emp) (E.toB (e_lc (own := [("_law_one", 7)]) (i_seq (e_op op_addA opd_add (E.ec (e_tup (a_cons (l := true) (e_ix (E.ec (e_v 8)) (E.ec e_int)) a_nil))) (E.ec (e_ix (E.ec (e_v 8)) (E.ec e_int))))) (fun _ _ _ _ _ => (g_name (i := 7) sc__law_is_known.nd rfl (.inl rfl))) (fun _ _ _ _ _ => (ts_one (t_val (E.toB (e_callB call_isi cd_isi (by rfl) T.n_isinstance (by decide +kernel) (a_cons (l := false) (E.toB (e_v 7)) (a_cons (l := false) (E.toB (e_ty (n := "bool") (by rfl) T.n_bool (by decide +kernel))) a_nil))))))) (fun _ _ _ _ _ => (e_v 7)) rfl sc__law_is_known.nd (blkOk_by (N := N__law_is_known) (sc := defScope s__law_is_known) (by decide +kernel)) (fun _ h => h) rg_name)) (E.toB (e_lst a_nil)) (nomark _)) (bs_one (ss_ret (ms_e e_bl))) bs_nil)
    (bs_cons (ss_setM (i := 9) (ms_meth 11 T.cv_Grove (e_v 0) T.cls_Grove T.me_Grove_load (ok_Grove_load T) (hr.mono (by decide)) T.b_Grove_load .nil dflt0 (mas_A (a_cons (l := true) (e_v 2) (a_cons (l := true) (e_v 3) a_nil)))) sc__law_is_known.nd rfl (Or.inl rfl))
    (bs_one (ss_ret (ms_e (e_and (E.toB (e_callB call_isi cd_isi (by rfl) T.n_isinstance (by decide +kernel) (a_cons (l := false) (E.toB (e_v 9)) (a_cons (l := false) (E.toB (e_ty (n := "int") (by rfl) T.n_int (by decide +kernel))) a_nil)))) (e_and (E.toB (e_not (E.toB (e_callB call_isi cd_isi (by rfl) T.n_isinstance (by decide +kernel) (a_cons (l := false) (E.toB (e_v 9)) (a_cons (l := false) (E.toB (e_ty (n := "bool") (by rfl) T.n_bool (by decide +kernel))) a_nil)))))) (e_one (e_cmp (op_eqD hr.units) opd_eq (E.toB (e_v 9)) (E.toB (e_callB (cr_sum rfl) cd_sum (by rfl) T.n_sum (by decide +kernel) (a_cons (l := false) (E.toB (e_lc (own := [("_law_end_here", 10)]) (i_seq (e_v 6)) (fun _ _ _ _ _ => (g_name (i := 10) sc__law_is_known.nd rfl (.inl rfl))) (fun _ _ _ _ _ => ts_nil) (fun _ _ _ _ _ => (e_ix (E.ec (e_v 10)) (E.ec e_int))) rfl sc__law_is_known.nd (blkOk_by (N := N__law_is_known) (sc := defScope s__law_is_known) (by decide +kernel)) (fun _ h => h) rg_name)) a_nil))) (nomark _)))))))))))))))))
theorem ok_Grove_place_beside (T : Tx K mg) : FnOk P w K mg base CX0 2 T.a_Grove_place_beside T.d_Grove_place_beside ["self", "beside", "above"] (SfS 3 wp_Grove_place_beside) :=
  fn_okS (p := P_Grove_place_beside) (k := 1) T.F_Grove_place_beside sc_Grove_place_beside (by decide) (fun _ _ _ _ _ _ hr => (bs_cons (ss_if (w_t (w_or (t_cmp op_isNA (OpD.eb opd_isN) (E.toB (e_v 1)) (E.toB e_non) (nomark _)) (w_or1 (t_cmp op_gt (OpD.eb opd_gt) (E.toB (e_lenS 3 (e_fld 3 T.cv_Grove T.cls_Grove T.na_Grove_knots (e_v 0)) (by rfl) T.n_len)) (E.toB e_int) (nomark _))))) (bs_one (ss_ret (ms_meth 3 T.cv_Grove (e_v 0) T.cls_Grove T.me_Grove_knot_at (ok_Grove_knot_at T) (hr.mono (by decide)) T.b_Grove_knot_at .nil dflt0 (mas_A (a_cons (l := true) (e_v 1) (a_cons (l := true) (e_v 2) a_nil)))))) bs_nil)
    (bs_cons (ss_if (t_cmp (op_neD hr.units) (OpD.eb opd_ne) (E.toB (e_v 2)) (E.toB e_int) (nomark _)) (bs_one (s_st (fr := false) s_never)) bs_nil)
    (bs_one (ss_ret (ms_e e_non))))))
theorem ok_Grove_put_in_place (T : Tx K mg) : FnOk P w K mg base CX0 1 T.a_Grove_put_in_place T.d_Grove_put_in_place ["self", "old", "new"] (SfS 3 wp_Grove_put_in_place) :=
  fn_okS (p := P_Grove_put_in_place) (k := 0) T.F_Grove_put_in_place sc_Grove_put_in_place (by decide) (fun _ _ _ _ _ _ hr => (bs_cons (s_st (fr := false) (s_set (i := 3) (e_fld 6 T.cv_Knot T.cls_Knot T.na_Knot_above (e_v 1)) sc_Grove_put_in_place.nd rfl (Or.inl rfl)))
    (bs_cons (ss_fld 6 T.cv_Knot T.cls_Knot T.na_Knot_above (e_v 2) (ms_e (e_v 3)))
    (bs_one (ss_if (t_cmp op_isA (OpD.eb opd_is) (E.toB (e_v 3)) (E.toB e_non) (nomark _)) (bs_one (ss_fld 6 T.cv_Grove T.cls_Grove T.na_Grove_root (e_v 0) (ms_e (e_v 2)))) (bs_cons (s_st (fr := false) (s_asg (e_fld 6 T.cv_Knot T.cls_Knot T.na_Knot_sides (e_v 3)) (g_tup (by rfl) (gs_cons (g_name (i := 4) sc_Grove_put_in_place.nd rfl (.inl rfl)) (gs_cons (g_name (i := 5) sc_Grove_put_in_place.nd rfl (.inl rfl)) gs_nil)))))
    (bs_one (ss_fld 6 T.cv_Knot T.cls_Knot T.na_Knot_sides (e_v 3) (ms_e (e_if (t_eqI 6 T.cv_Knot hr.units0 T.eq_Knot (e_v 4) (e_v 1)) (e_tup (a_cons (l := true) (e_v 2) (a_cons (l := true) (e_v 5) a_nil))) (e_tup (a_cons (l := true) (e_v 4) (a_cons (l := true) (e_v 2) a_nil)))))))))))))
theorem ok_Grove_reckon (T : Tx K mg) : FnOk P w K mg base CX0 3 T.a_Grove_reckon T.d_Grove_reckon ["self", "joint"] (SfS 2 wp_Grove_reckon) :=
  fn_okS (p := P_Grove_reckon) (k := 2) T.F_Grove_reckon sc_Grove_reckon (by decide) (fun _ _ _ _ _ _ hr => (bs_one (ss_while (mt_t (t_cmp op_isNA (OpD.eb opd_isN) (E.toB (e_v 1)) (E.toB e_non) (nomark _)))
    (bs_cons (s_st (fr := false) (s_asg (e_fld 4 T.cv_Knot T.cls_Knot T.na_Knot_sides (e_v 1)) (g_tup (by rfl) (gs_cons (g_name (i := 2) sc_Grove_reckon.nd rfl (.inl rfl)) (gs_cons (g_name (i := 3) sc_Grove_reckon.nd rfl (.inl rfl)) gs_nil)))))
    (bs_cons (ss_fld 4 T.cv_Knot T.cls_Knot T.na_Knot_stand (e_v 1) (ms_e (e_slice (E.ec (e_call (mo := .e) (ok_joined T) (hr.mono (by decide)) rfl T.g_joined T.F_joined.kp T.b_joined (a_cons (l := true) (e_fld 4 T.cv_Knot T.cls_Knot T.na_Knot_stand (e_v 2)) (a_cons (l := true) (e_fld 4 T.cv_Knot T.cls_Knot T.na_Knot_stand (e_v 3)) a_nil)) (.inl rfl))) o_none (o_some (E.toB e_int)))))
    (bs_cons (ss_fld 4 T.cv_Knot T.cls_Knot T.na_Knot_weight (e_v 1) (ms_e (e_op op_addA opd_add (E.ec (e_fld 4 T.cv_Knot T.cls_Knot T.na_Knot_weight (e_v 2))) (E.ec (e_fld 4 T.cv_Knot T.cls_Knot T.na_Knot_weight (e_v 3))))))
    (bs_cons (ss_aug 4 T.cv_Grove T.cls_Grove T.na_Grove_reckonings (e_v 0) e_int)
    (bs_one (s_st (fr := false) (s_set (i := 1) (e_fld 4 T.cv_Knot T.cls_Knot T.na_Knot_above (e_v 1)) sc_Grove_reckon.nd rfl (Or.inl rfl)))))))) PassesOwn.never)))
theorem ok_Grove_join_beside (T : Tx K mg) : FnOk P w K mg base CX0 4 T.a_Grove_join_beside T.d_Grove_join_beside ["self", "place", "knot"] (SfS 3 wp_Grove_join_beside) :=
  fn_okS (p := P_Grove_join_beside) (k := 3) T.F_Grove_join_beside sc_Grove_join_beside (by decide) (fun _ _ _ _ _ _ hr => (bs_cons (ss_setM (i := 3) (ms_make 4 T.cv_Knot T.mk_Knot (ok_Knot___init__ T) (hr.mono (by decide)) rfl T.gc_Knot T.b_Knot___init__ .nil dflt0 (mas_A (a_cons (l := true) e_non (a_cons (l := true) e_non (a_cons (l := true) (e_tup (a_cons (l := true) (e_v 1) (a_cons (l := true) (e_v 2) a_nil))) a_nil))))) sc_Grove_join_beside.nd rfl (Or.inl rfl))
    (bs_cons (ss_exprM (ms_meth 4 T.cv_Grove (e_v 0) T.cls_Grove T.me_Grove_put_in_place (ok_Grove_put_in_place T) (hr.mono (by decide)) T.b_Grove_put_in_place .nil dflt0 (mas_A (a_cons (l := true) (e_v 1) (a_cons (l := true) (e_v 3) a_nil)))))
    (bs_cons (ss_fld 4 T.cv_Knot T.cls_Knot T.na_Knot_above (e_v 1) (ms_e (e_v 3)))
    (bs_cons (ss_fld 4 T.cv_Knot T.cls_Knot T.na_Knot_above (e_v 2) (ms_e (e_v 3)))
    (bs_one (ss_exprM (ms_meth 4 T.cv_Grove (e_v 0) T.cls_Grove T.me_Grove_reckon (ok_Grove_reckon T) (hr.mono (by decide)) T.b_Grove_reckon .nil dflt0 (mas_A (a_cons (l := true) (e_v 3) a_nil))))))))))
theorem ok_Grove_come (T : Tx K mg) : FnOk P w K mg base CX0 6 T.a_Grove_come T.d_Grove_come ["self", "name", "x", "y", "start", "load", "beside", "above"] (SfS 8 wp_Grove_come) :=
  fn_okSD (p := P_Grove_come) (k := 5) T.F_Grove_come sc_Grove_come (by decide) (fun _ _ _ _ _ _ hr => (bs_cons (ss_if (t_inS 10 (hu_of hr) (e_v 1) (e_fld 10 T.cv_Grove T.cls_Grove T.na_Grove_knots (e_v 0))) (bs_one (s_st (fr := false) s_never)) bs_nil)
    (bs_cons (ss_setM (i := 8) (ms_meth 10 T.cv_Grove (e_v 0) T.cls_Grove T.me_Grove_place_beside (ok_Grove_place_beside T) (hr.mono (by decide)) T.b_Grove_place_beside .nil dflt0 (mas_A (a_cons (l := true) (e_v 6) (a_cons (l := true) (e_v 7) a_nil)))) sc_Grove_come.nd rfl (Or.inl rfl))
    (bs_cons (ss_if (t_cmp op_ge (OpD.eb opd_ge) (E.toB (e_lenS 10 (e_fld 10 T.cv_Grove T.cls_Grove T.na_Grove_knots (e_v 0)) (by rfl) T.n_len)) (E.toB (e_gint (by rfl) T.c_MOST_ENDS)) (nomark _)) (bs_one (s_st (fr := false) s_never)) bs_nil)
    (bs_cons (ss_setM (i := 9) (ms_call 10 (ok_end_knot T) (hr.mono (by decide)) rfl T.g_end_knot T.F_end_knot.kp T.b_end_knot .nil dflt0 (mas_A (a_cons (l := true) (e_v 1) (a_cons (l := true) (e_tup (a_cons (l := true) (e_v 2) (a_cons (l := true) (e_v 3) (a_cons (l := true) (e_v 4) (a_cons (l := true) (e_v 5) a_nil))))) a_nil)))) sc_Grove_come.nd rfl (Or.inl rfl))
    (bs_cons (ss_put 10 (hu_of hr) (e_fld 10 T.cv_Grove T.cls_Grove T.na_Grove_knots (e_v 0)) (e_v 1) (ms_e (e_v 9)))
    (bs_one (ss_if (t_cmp op_isA (OpD.eb opd_is) (E.toB (e_v 8)) (E.toB e_non) (nomark _)) (bs_one (ss_fld 10 T.cv_Grove T.cls_Grove T.na_Grove_root (e_v 0) (ms_e (e_v 9)))) (bs_one (ss_exprM (ms_meth 10 T.cv_Grove (e_v 0) T.cls_Grove T.me_Grove_join_beside (ok_Grove_join_beside T) (hr.mono (by decide)) T.b_Grove_join_beside .nil dflt0 (mas_A (a_cons (l := true) (e_v 8) (a_cons (l := true) (e_v 9) a_nil))))))))))))))
theorem ok_Grove_go (T : Tx K mg) : FnOk P w K mg base CX0 4 T.a_Grove_go T.d_Grove_go ["self", "name"] (SfS 2 wp_Grove_go) :=
  fn_okS (p := P_Grove_go) (k := 3) T.F_Grove_go sc_Grove_go (by decide) (fun _ _ _ _ _ _ hr => (bs_cons (ss_setM (i := 2) (ms_meth 7 T.cv_Grove (e_v 0) T.cls_Grove T.me_Grove_knot_at (ok_Grove_knot_at T) (hr.mono (by decide)) T.b_Grove_knot_at .nil dflt0 (mas_A (a_cons (l := true) (e_v 1) (a_cons (l := true) e_int a_nil)))) sc_Grove_go.nd rfl (Or.inl rfl))
    (bs_cons (ss_del 7 (e_fld 7 T.cv_Grove T.cls_Grove T.na_Grove_knots (e_v 0)) (e_v 1))
    (bs_cons (s_st (fr := false) (s_set (i := 3) (e_fld 7 T.cv_Knot T.cls_Knot T.na_Knot_above (e_v 2)) sc_Grove_go.nd rfl (Or.inl rfl)))
    (bs_one (ss_if (t_cmp op_isA (OpD.eb opd_is) (E.toB (e_v 3)) (E.toB e_non) (nomark _)) (bs_one (ss_fld 7 T.cv_Grove T.cls_Grove T.na_Grove_root (e_v 0) (ms_e e_non))) (bs_cons (s_st (fr := false) (s_asg (e_fld 7 T.cv_Knot T.cls_Knot T.na_Knot_sides (e_v 3)) (g_tup (by rfl) (gs_cons (g_name (i := 4) sc_Grove_go.nd rfl (.inl rfl)) (gs_cons (g_name (i := 5) sc_Grove_go.nd rfl (.inl rfl)) gs_nil)))))
    (bs_cons (s_st (fr := false) (s_set (i := 6) (e_if (t_eqI 7 T.cv_Knot hr.units0 T.eq_Knot (e_v 4) (e_v 2)) (e_v 5) (e_v 4)) sc_Grove_go.nd rfl (Or.inl rfl)))
    (bs_cons (ss_exprM (ms_meth 7 T.cv_Grove (e_v 0) T.cls_Grove T.me_Grove_put_in_place (ok_Grove_put_in_place T) (hr.mono (by decide)) T.b_Grove_put_in_place .nil dflt0 (mas_A (a_cons (l := true) (e_v 3) (a_cons (l := true) (e_v 6) a_nil)))))
    (bs_one (ss_exprM (ms_meth 7 T.cv_Grove (e_v 0) T.cls_Grove T.me_Grove_reckon (ok_Grove_reckon T) (hr.mono (by decide)) T.b_Grove_reckon .nil dflt0 (mas_A (a_cons (l := true) (e_fld 7 T.cv_Knot T.cls_Knot T.na_Knot_above (e_v 6)) a_nil))))))))))))))
theorem ok__law_deed (T : Tx K mg) : FnOk P w K mg base CX0 28 T.a__law_deed T.d__law_deed ["_law_deck_here", "_law_grove", "_law_model", "_law_pool_here", "_law_way"] (SfS 5 wp__law_deed) :=
  fn_okS (p := P__law_deed) (k := 27) T.F__law_deed sc__law_deed (by decide) (fun _ _ _ _ _ _ hr => (bs_cons (s_st (fr := false) (s_set (i := 5) (E.fe (e_listS 12 (e_subS 12 (hu_of hr) (e_v 2) e_str) rfl (by rfl) T.n_list)) sc__law_deed.nd rfl (Or.inr rfl)))
    (bs_cons (s_st (fr := false) (s_set (i := 6) (e_cmp (op_eqD hr.units) opd_eq (E.toB (e_call (mo := .e) (okS__law_draw T) (hr.mono (by decide)) rfl T.g__law_draw T.F__law_draw.kp T.b__law_draw (a_cons (l := true) (e_v 0) (a_cons (l := true) e_int a_nil)) (.inl rfl))) (E.toB e_int) (nomark _)) sc__law_deed.nd rfl (Or.inl rfl)))
    (bs_cons (ss_if (w_t (w_and (t_cmp (op_neE hr.units) (OpD.eb opd_emp) (E.toB (e_v 5)) (E.toB (e_lst a_nil)) (nomark _)) (w_and1 (w_t (w_or (t_val (E.toB (e_v 6))) (w_or1 (t_cmp op_gt (OpD.eb opd_gt) (E.toB (e_callB call_lenA cd_len (by rfl) T.n_len (by decide +kernel) (a_cons (l := false) (E.toB (e_v 5)) a_nil))) (E.toB e_int) (nomark _)))))))) (bs_cons (s_st (fr := false) (s_set (i := 7) (e_ix (E.ec (e_v 5)) (E.ec (e_call (mo := .e) (okS__law_draw T) (hr.mono (by decide)) rfl T.g__law_draw T.F__law_draw.kp T.b__law_draw (a_cons (l := true) (e_v 0) (a_cons (l := true) (e_callB call_lenA cd_len (by rfl) T.n_len (by decide +kernel) (a_cons (l := false) (E.toB (e_v 5)) a_nil)) a_nil)) (.inl rfl)))) sc__law_deed.nd rfl (Or.inl rfl)))
    (bs_cons (ss_exprM (ms_call 12 (ok__law_go T) (hr.mono (by decide)) rfl T.g__law_go T.F__law_go.kp T.b__law_go .nil dflt0 (mas_A (a_cons (l := true) (e_v 2) (a_cons (l := true) (e_v 7) a_nil)))))
    (bs_one (ss_ret (ms_cmp op_isA opd_is (ms_meth 12 T.cv_Grove (e_v 1) T.cls_Grove T.me_Grove_go (ok_Grove_go T) (hr.mono (by decide)) T.b_Grove_go .nil dflt0 (mas_A (a_cons (l := true) (e_v 7) a_nil))) (ms_e e_non) (nomark _)))))) bs_nil)
    (bs_cons (s_st (fr := false) (s_setLc (i := 8) (own := [("_law_name", 7)]) (i_seq (e_v 3)) (fun _ _ _ _ _ => (g_name (i := 7) sc__law_deed.nd rfl (.inl rfl))) (fun _ _ _ _ _ => (ts_one (t_cmp op_notIn_seq (OpD.eb (opd_inS (neg := true))) (E.toB (e_v 7)) (E.toB (e_v 5)) (by rfl)))) (fun _ _ _ _ _ => (e_v 7)) rfl sc__law_deed.nd rfl rfl (sw_true rfl rfl rfl (by decide +kernel)) (blkOk_by (N := N__law_deed) (sc := defScope s__law_deed) (by decide +kernel)) (fun _ h => h) rg_name))
    (bs_cons (s_st (fr := false) (s_set (i := 7) (e_ix (E.ec (e_v 8)) (E.ec (e_call (mo := .e) (okS__law_draw T) (hr.mono (by decide)) rfl T.g__law_draw T.F__law_draw.kp T.b__law_draw (a_cons (l := true) (e_v 0) (a_cons (l := true) (e_callB call_lenA cd_len (by rfl) T.n_len (by decide +kernel) (a_cons (l := false) (E.toB (e_v 8)) a_nil)) a_nil)) (.inl rfl)))) sc__law_deed.nd rfl (Or.inl rfl)))
    (bs_cons (s_st (fr := false) (s_set (i := 9) (e_call (mo := .e) (ok__law_end T) (hr.mono (by decide)) rfl T.g__law_end T.F__law_end.kp T.b__law_end (a_cons (l := true) (e_v 0) (a_cons (l := true) (e_v 4) a_nil)) (.inl rfl)) sc__law_deed.nd rfl (Or.inl rfl)))
    (bs_cons (ss_if (t_cmp (op_eqE hr.units) (OpD.eb opd_emp) (E.toB (e_v 5)) (E.toB (e_lst a_nil)) (nomark _)) (bs_cons (ss_exprM (ms_call 12 (ok__law_come T) (hr.mono (by decide)) rfl T.g__law_come T.F__law_come.kp T.b__law_come .nil dflt0 (mas_A (a_cons (l := true) (e_v 2) (a_cons (l := true) (e_v 7) (a_cons (l := true) (e_v 9) (a_cons (l := true) e_non (a_cons (l := true) e_int a_nil))))))))
    (bs_one (ss_ret (ms_cmp op_isA opd_is (ms_meth 12 T.cv_Grove (e_v 1) T.cls_Grove T.me_Grove_come (ok_Grove_come T) (hr.mono (by decide)) T.b0_Grove_come T.v0_Grove_come (fun _ _ _ => (.cons .non (.cons (.int 0) .nil))) (mas_A (a_cons (l := true) (e_v 7) (a_cons (l := true) (e_ix (E.ec (e_v 9)) (E.ec e_int)) (a_cons (l := true) (e_ix (E.ec (e_v 9)) (E.ec e_int)) (a_cons (l := true) (e_ix (E.ec (e_v 9)) (E.ec e_int)) (a_cons (l := true) (e_ix (E.ec (e_v 9)) (E.ec e_int)) a_nil))))))) (ms_e e_non) (nomark _))))) bs_nil)
    (bs_cons (ss_asgM (ms_call 12 (ok__law_beside T) (hr.mono (by decide)) rfl T.g__law_beside T.F__law_beside.kp T.b__law_beside .nil dflt0 (mas_A (a_cons (l := true) (e_v 0) (a_cons (l := true) (e_v 2) a_nil)))) (g_tup (by rfl) (gs_cons (g_name (i := 10) sc__law_deed.nd rfl (.inl rfl)) (gs_cons (g_name (i := 11) sc__law_deed.nd rfl (.inl rfl)) gs_nil))))
    (bs_cons (ss_exprM (ms_call 12 (ok__law_come T) (hr.mono (by decide)) rfl T.g__law_come T.F__law_come.kp T.b__law_come .nil dflt0 (mas_A (a_cons (l := true) (e_v 2) (a_cons (l := true) (e_v 7) (a_cons (l := true) (e_v 9) (a_cons (l := true) (e_v 10) (a_cons (l := true) (e_v 11) a_nil))))))))
    (bs_cons (ss_if (t_cmp (op_eqD hr.units) (OpD.eb opd_eq) (E.toB (e_v 11)) (E.toB e_int) (nomark _)) (bs_one (ss_ret (ms_cmp op_isA opd_is (ms_meth 12 T.cv_Grove (e_v 1) T.cls_Grove T.me_Grove_come (ok_Grove_come T) (hr.mono (by decide)) T.b1_Grove_come T.v1_Grove_come (fun _ _ _ => (.cons (.int 0) .nil)) (mas_A (a_cons (l := true) (e_v 7) (a_cons (l := true) (e_ix (E.ec (e_v 9)) (E.ec e_int)) (a_cons (l := true) (e_ix (E.ec (e_v 9)) (E.ec e_int)) (a_cons (l := true) (e_ix (E.ec (e_v 9)) (E.ec e_int)) (a_cons (l := true) (e_ix (E.ec (e_v 9)) (E.ec e_int)) (a_cons (l := true) (e_v 10) a_nil)))))))) (ms_e e_non) (nomark _)))) bs_nil)
    (bs_one (ss_ret (ms_cmp op_isA opd_is (ms_meth 12 T.cv_Grove (e_v 1) T.cls_Grove T.me_Grove_come (ok_Grove_come T) (hr.mono (by decide)) T.b2_Grove_come T.v2_Grove_come (fun _ _ _ => .nil) (mas_A (a_cons (l := true) (e_v 7) (a_cons (l := true) (e_ix (E.ec (e_v 9)) (E.ec e_int)) (a_cons (l := true) (e_ix (E.ec (e_v 9)) (E.ec e_int)) (a_cons (l := true) (e_ix (E.ec (e_v 9)) (E.ec e_int)) (a_cons (l := true) (e_ix (E.ec (e_v 9)) (E.ec e_int)) (a_cons (l := true) (e_v 10) (a_cons (l := true) (e_v 11) a_nil))))))))) (ms_e e_non) (nomark _)))))))))))))))
theorem ok__law_some_known (T : Tx K mg) : FnOk P w K mg base CX0 28 T.a__law_some_known T.d__law_some_known ["_law_deck_here", "_law_grove", "_law_model"] (SfS 3 wp__law_some_known) :=
  fn_okS (p := P__law_some_known) (k := 27) T.F__law_some_known sc__law_some_known (by decide) (fun _ _ _ _ _ _ hr => (bs_cons (ss_for (is_range1 (a_cons (l := false) (E.toB (e_callB (call_minN rfl) cd_minN (by rfl) T.n_min (by decide +kernel) (a_cons (l := false) (E.toB e_int) (a_cons (l := false) (E.toB (e_lenS 7 (e_subS 7 (hu_of hr) (e_v 2) e_str) (by rfl) T.n_len)) a_nil)))) a_nil) (by rfl) T.n_range) (g_name (i := 3) sc__law_some_known.nd rfl (.inl rfl))
    (bs_cons (ss_asgM (ms_call 7 (ok__law_beside T) (hr.mono (by decide)) rfl T.g__law_beside T.F__law_beside.kp T.b__law_beside .nil dflt0 (mas_A (a_cons (l := true) (e_v 0) (a_cons (l := true) (e_v 2) a_nil)))) (g_tup (by rfl) (gs_cons (g_name (i := 4) sc__law_some_known.nd rfl (.inl rfl)) (gs_cons (g_name (i := 5) sc__law_some_known.nd rfl (.inl rfl)) gs_nil))))
    (bs_one (ss_for (is_range1 (a_cons (l := false) (E.toB e_int) a_nil) (by rfl) T.n_range) (g_name (i := 6) sc__law_some_known.nd rfl (.inl rfl))
    (bs_one (ss_ifM (mt_not (mt_val (ms_call 7 (ok__law_is_known T) (hr.mono (by decide)) rfl T.g__law_is_known T.F__law_is_known.kp T.b__law_is_known .nil dflt0 (mas_A (a_cons (l := true) (e_v 1) (a_cons (l := true) (e_v 2) (a_cons (l := true) (e_v 4) (a_cons (l := true) (e_v 5) a_nil)))))))) (bs_one (ss_ret (ms_e e_bl))) bs_nil)) PassesOwn.never rfl))) PassesOwn.never rfl)
    (bs_one (ss_ret (ms_e e_bl)))))
theorem ok_Grove___init__ (T : Tx K mg) : FnOk P w K mg base CX0 1 T.a_Grove___init__ T.d_Grove___init__ ["self"] (SfS 1 wp_Grove___init__) :=
  fn_okS (p := P_Grove___init__) (k := 0) T.F_Grove___init__ sc_Grove___init__ (by decide) (fun _ _ _ _ _ _ hr => (bs_cons (ss_fld 1 T.cv_Grove T.cls_Grove T.na_Grove_knots (e_v 0) (ms_new 1))
    (bs_cons (ss_fld 1 T.cv_Grove T.cls_Grove T.na_Grove_root (e_v 0) (ms_e e_non))
    (bs_one (ss_fld 1 T.cv_Grove T.cls_Grove T.na_Grove_reckonings (e_v 0) (ms_e e_int))))))
end
end Ew
namespace Ew
open PySem PySem.Spec PyProof.Rows L2 Pu
variable [Tbs]
section
variable {P : Program} {w : World} {K : PySem.W.Frag} {mg : Str → Option Value} {base : Heap}
theorem ok_law (hp : LawPure) (T : Tx K mg) : FnOk P w K mg base CX0 29 T.a_law T.d_law ["_law_script"] (sp_lawT K tbAll) := by
  refine T.F_law.ok sc_law (fun vs H Q _ h => ?_) (fun _ _ _ _ H vs Q _ hr h => ?_)
  · obtain ⟨a, ns, rfl, _⟩ := h
    rfl
  obtain ⟨a, ns, rfl, hS, hn, hT, k⟩ := h
  have hT := Tabs.of0 hT
  refine ⟨_, pss_cons (ps_set (i := 1) sc_law.nd rfl (Or.inl rfl) (pe_call (ok__law_deck T) (hr.mono (by decide)) rfl T.g__law_deck T.F__law_deck.kp T.b__law_deck .nil pass0 (pa_cons (pv 0) pa_nil))) (BS.pss (p := P_law) (bs_cons (s_st (fr := false) (s_set (i := 2) (e_cmp (op_eqD hr.units) opd_eq (E.toB (e_call (mo := .e) (okS__law_draw T) (hr.mono (by decide)) rfl T.g__law_draw T.F__law_draw.kp T.b__law_draw (a_cons (l := true) (e_v 1) (a_cons (l := true) e_int a_nil)) (.inl rfl))) (E.toB e_int) (nomark _)) sc_law.nd rfl (Or.inl rfl)))
    (bs_cons (s_st (fr := false) (s_set (i := 3) (e_ix (E.ec (E.fe (e_lst (a_cons (l := true) (e_op op_addA opd_add (E.ec e_int) (E.ec (e_call (mo := .e) (okS__law_draw T) (hr.mono (by decide)) rfl T.g__law_draw T.F__law_draw.kp T.b__law_draw (a_cons (l := true) (e_v 1) (a_cons (l := true) e_int a_nil)) (.inl rfl)))) (a_cons (l := true) (e_op op_addA opd_add (E.ec e_int) (E.ec (e_call (mo := .e) (okS__law_draw T) (hr.mono (by decide)) rfl T.g__law_draw T.F__law_draw.kp T.b__law_draw (a_cons (l := true) (e_v 1) (a_cons (l := true) e_int a_nil)) (.inl rfl)))) a_nil))))) (E.ec (e_callTy call_int1 cd_int (by rfl) T.n_int (by decide +kernel) (a_cons (l := false) (E.toB (e_v 2)) a_nil)))) sc_law.nd rfl (Or.inl rfl)))
    (bs_cons (s_st (fr := false) (s_set (i := 4) (e_call (mo := .e) (okS__law_draw T) (hr.mono (by decide)) rfl T.g__law_draw T.F__law_draw.kp T.b__law_draw (a_cons (l := true) (e_v 1) (a_cons (l := true) e_int a_nil)) (.inl rfl)) sc_law.nd rfl (Or.inl rfl)))
    (bs_cons (s_st (fr := false) (s_set (i := 5) (e_call (mo := .e) (ok__law_pool T) (hr.mono (by decide)) rfl T.g__law_pool T.F__law_pool.kp T.b__law_pool (a_cons (l := true) (e_v 1) a_nil) (.inl rfl)) sc_law.nd rfl (Or.inl rfl)))
    (bs_cons (ss_if (t_not (t_val (E.toB (e_v 2)))) (bs_one (s_st (fr := false) (s_set (i := 5) (e_slice (E.ec (e_v 5)) o_none (o_some (E.toB e_int))) sc_law.nd rfl (Or.inl rfl)))) bs_nil)
    (bs_cons (ss_setM (i := 6) (ms_make0 11 T.cv_Grove T.mk_Grove (ok_Grove___init__ T) (hr.mono (by decide)) rfl T.gc_Grove T.b_Grove___init__ .nil dflt0) sc_law.nd rfl (Or.inl rfl))
    (bs_cons (ss_setM (i := 7) (ms_call0 11 (ok__law_empty T) (hr.mono (by decide)) rfl T.g__law_empty T.F__law_empty.kp T.b__law_empty .nil dflt0) sc_law.nd rfl (Or.inl rfl))
    (bs_cons (ss_for (is_range1 (a_cons (l := false) (E.toB (e_v 3)) a_nil) (by rfl) T.n_range) (g_name (i := 8) sc_law.nd rfl (.inl rfl))
    (bs_cons (ss_if (t_cmp (op_eqD hr.units) (OpD.eb opd_eq) (E.toB (e_lenS 11 (e_subS 11 (hu_of hr) (e_v 7) e_str) (by rfl) T.n_len)) (E.toB (e_callB call_lenA cd_len (by rfl) T.n_len (by decide +kernel) (a_cons (l := false) (E.toB (e_v 5)) a_nil))) (nomark _)) (bs_cons (s_st (fr := false) (s_set (i := 9) (e_ix (E.ec (e_v 5)) (E.ec (e_call (mo := .e) (okS__law_draw T) (hr.mono (by decide)) rfl T.g__law_draw T.F__law_draw.kp T.b__law_draw (a_cons (l := true) (e_v 1) (a_cons (l := true) (e_callB call_lenA cd_len (by rfl) T.n_len (by decide +kernel) (a_cons (l := false) (E.toB (e_v 5)) a_nil)) a_nil)) (.inl rfl)))) sc_law.nd rfl (Or.inl rfl)))
    (bs_cons (ss_exprM (ms_call 11 (ok__law_go T) (hr.mono (by decide)) rfl T.g__law_go T.F__law_go.kp T.b__law_go .nil dflt0 (mas_A (a_cons (l := true) (e_v 7) (a_cons (l := true) (e_v 9) a_nil)))))
    (bs_one (ss_exprM (ms_meth 11 T.cv_Grove (e_v 6) T.cls_Grove T.me_Grove_go (ok_Grove_go T) (hr.mono (by decide)) T.b_Grove_go .nil dflt0 (mas_A (a_cons (l := true) (e_v 9) a_nil))))))) bs_nil)
    (bs_one (ss_ifM (mw_t (mw_or (mt_not (mt_val (ms_call 11 (ok__law_deed T) (hr.mono (by decide)) rfl T.g__law_deed T.F__law_deed.kp T.b__law_deed .nil dflt0 (mas_A (a_cons (l := true) (e_v 1) (a_cons (l := true) (e_v 6) (a_cons (l := true) (e_v 7) (a_cons (l := true) (e_v 5) (a_cons (l := true) (e_v 4) a_nil))))))))) (mw_or1 (mt_not (mt_val (ms_call 11 (ok__law_some_known T) (hr.mono (by decide)) rfl T.g__law_some_known T.F__law_some_known.kp T.b__law_some_known .nil dflt0 (mas_A (a_cons (l := true) (e_v 1) (a_cons (l := true) (e_v 6) (a_cons (l := true) (e_v 7) a_nil)))))))))) (bs_one (ss_ret (ms_e e_bl))) bs_nil))) PassesOwn.never rfl)
    (bs_cons (ss_for (is_seq (e_slice (E.ec (E.fe (e_listS 11 (e_subS 11 (hu_of hr) (e_v 7) e_str) rfl (by rfl) T.n_list))) o_none (o_some (E.toB e_int)))) (g_name (i := 9) sc_law.nd rfl (.inl rfl))
    (bs_one (ss_for (is_range1 (a_cons (l := false) (E.toB (e_op op_addA opd_add (E.ec (e_callB call_lenA cd_len (by rfl) T.n_len (by decide +kernel) (a_cons (l := false) (E.toB (e_call (mo := .e) (ok__law_path T) (hr.mono (by decide)) rfl T.g__law_path T.F__law_path.kp T.b__law_path (a_cons (l := true) (e_subS 11 (hu_of hr) (e_v 7) e_str) (a_cons (l := true) (e_v 9) a_nil)) (.inl rfl))) a_nil))) (E.ec e_int))) a_nil) (by rfl) T.n_range) (g_name (i := 10) sc_law.nd rfl (.inl rfl))
    (bs_one (ss_ifM (mt_not (mt_val (ms_call 11 (ok__law_is_known T) (hr.mono (by decide)) rfl T.g__law_is_known T.F__law_is_known.kp T.b__law_is_known .nil dflt0 (mas_A (a_cons (l := true) (e_v 6) (a_cons (l := true) (e_v 7) (a_cons (l := true) (e_v 9) (a_cons (l := true) (e_v 10) a_nil)))))))) (bs_one (ss_ret (ms_e e_bl))) bs_nil)) PassesOwn.never rfl)) PassesOwn.never rfl)
    (bs_one (ss_ret (ms_e e_bl))))))))))))), ?_⟩
  refine ⟨_, rfl, sp__law_deck.mk hS hn hT (fun H1 dk c hD1 hT1 _ _ => ?_)⟩
  exact rest_okS (nt := 1) (N := N_law) (by decide) rss_tPS (by decide) (deck_dkF hD1) hT1 k (@hp _)
end
omit [Tbs] in
set_option maxHeartbeats 0 in
theorem all_mk (hp : LawPure) {l : PySem.W.OpenLaw} {w : World} {K : PySem.W.Frag} {h : Heap} {mg : Str → Option Value} {fa : Addr} (X : K.In h) (G : h.Ns mainGlobals mg) (hfa : mg "law" = some (.ref fa))
    {f0 f1 f2 f3 f4 f5 f6 f7 f8 f9 f10 f11 f12 f13 f14 f15 f16 f17 f18 f19 f20 f21 f22 f23 f24 f25 f26 f27 f28 f29 f30 f31 f32 f33 f34 f35 f36 f37 f38 f39 : Addr}
    {C_Knot C_Grove : Addr}
    {od0 an0 od1 an1 od2 an2 od3 an3 od4 an4 od5 an5 od6 an6 od7 an7 od8 an8 od9 an9 od10 an10 od11 an11 od12 an12 od13 an13 od14 an14 od15 an15 od16 an16 od17 an17 od18 an18 od19 an19 od20 an20 od21 an21 od22 an22 od23 an23 od24 an24 od25 an25 od26 an26 od27 an27 od28 an28 od29 an29 od30 an30 od31 an31 od32 an32 od33 an33 od34 an34 od35 an35 od36 an36 od37 an37 od38 an38 od39 an39 : Option Addr} {sl0 sl1 sl2 sl3 sl4 sl5 sl6 sl7 sl8 sl9 sl10 sl11 sl12 sl13 sl14 sl15 sl16 sl17 sl18 sl19 sl20 sl21 sl22 sl23 sl24 sl25 sl26 sl27 sl28 sl29 sl30 sl31 sl32 sl33 sl34 sl35 sl36 sl37 sl38 sl39 : Array (Option Value)} {oc0 kV0 dc0 pm0 ct0 cd0 oc1 kV1 dc1 pm1 ct1 cd1 oc2 kV2 dc2 pm2 ct2 cd2 oc3 kV3 dc3 pm3 ct3 cd3 oc4 kV4 dc4 pm4 ct4 cd4 oc5 kV5 dc5 pm5 ct5 cd5 oc6 kV6 dc6 pm6 ct6 cd6 oc7 kV7 dc7 pm7 ct7 cd7 oc8 kV8 dc8 pm8 ct8 cd8 oc9 kV9 dc9 pm9 ct9 cd9 oc10 kV10 dc10 pm10 ct10 cd10 oc11 kV11 dc11 pm11 ct11 cd11 oc12 kV12 dc12 pm12 ct12 cd12 oc13 kV13 dc13 pm13 ct13 cd13 oc14 kV14 dc14 pm14 ct14 cd14 oc15 kV15 dc15 pm15 ct15 cd15 oc16 kV16 dc16 pm16 ct16 cd16 oc17 kV17 dc17 pm17 ct17 cd17 oc18 kV18 dc18 pm18 ct18 cd18 oc19 kV19 dc19 pm19 ct19 cd19 oc20 kV20 dc20 pm20 ct20 cd20 oc21 kV21 dc21 pm21 ct21 cd21 oc22 kV22 dc22 pm22 ct22 cd22 oc23 kV23 dc23 pm23 ct23 cd23 oc24 kV24 dc24 pm24 ct24 cd24 oc25 kV25 dc25 pm25 ct25 cd25 oc26 kV26 dc26 pm26 ct26 cd26 oc27 kV27 dc27 pm27 ct27 cd27 oc28 kV28 dc28 pm28 ct28 cd28 oc29 kV29 dc29 pm29 ct29 cd29 oc30 kV30 dc30 pm30 ct30 cd30 oc31 kV31 dc31 pm31 ct31 cd31 oc32 kV32 dc32 pm32 ct32 cd32 oc33 kV33 dc33 pm33 ct33 cd33 oc34 kV34 dc34 pm34 ct34 cd34 oc35 kV35 dc35 pm35 ct35 cd35 oc36 kV36 dc36 pm36 ct36 cd36 oc37 kV37 dc37 pm37 ct37 cd37 oc38 kV38 dc38 pm38 ct38 cd38 oc39 kV39 dc39 pm39 ct39 cd39 : Value}
    {dt31 : Addr} {tc31 : Value} {td31 : Option Addr} {tm31 : Nat} {ts31 : Array (Option Value)}
    (a0 : PySem.W.nsIn K mainGlobals "spot_of" = some (some (.ref f0))) (l0 : K.lookup f0 = some ⟨oc0, od0, .func (PySem.W.fnOf "spot_of" "spot_of" (defArgs s_spot_of) (defBody s_spot_of) (defScope s_spot_of) .none kV0 dc0 pm0 an0 cd0 ct0), sl0⟩) (c0 : PySem.W.codeIn K cd0 "spot_of" = true) (k0 : PySem.W.keepIn K (.ref f0) = true)
    (a1 : PySem.W.nsIn K mainGlobals "grown" = some (some (.ref f1))) (l1 : K.lookup f1 = some ⟨oc1, od1, .func (PySem.W.fnOf "grown" "grown" (defArgs s_grown) (defBody s_grown) (defScope s_grown) .none kV1 dc1 pm1 an1 cd1 ct1), sl1⟩) (c1 : PySem.W.codeIn K cd1 "grown" = true) (k1 : PySem.W.keepIn K (.ref f1) = true)
    (a2 : PySem.W.nsIn K mainGlobals "met" = some (some (.ref f2))) (l2 : K.lookup f2 = some ⟨oc2, od2, .func (PySem.W.fnOf "met" "met" (defArgs s_met) (defBody s_met) (defScope s_met) .none kV2 dc2 pm2 an2 cd2 ct2), sl2⟩) (c2 : PySem.W.codeIn K cd2 "met" = true) (k2 : PySem.W.keepIn K (.ref f2) = true)
    (a3 : PySem.W.nsIn K mainGlobals "apart" = some (some (.ref f3))) (l3 : K.lookup f3 = some ⟨oc3, od3, .func (PySem.W.fnOf "apart" "apart" (defArgs s_apart) (defBody s_apart) (defScope s_apart) .none kV3 dc3 pm3 an3 cd3 ct3), sl3⟩) (c3 : PySem.W.codeIn K cd3 "apart" = true) (k3 : PySem.W.keepIn K (.ref f3) = true)
    (a4 : PySem.W.nsIn K mainGlobals "steps" = some (some (.ref f4))) (l4 : K.lookup f4 = some ⟨oc4, od4, .func (PySem.W.fnOf "steps" "steps" (defArgs s_steps) (defBody s_steps) (defScope s_steps) .none kV4 dc4 pm4 an4 cd4 ct4), sl4⟩) (c4 : PySem.W.codeIn K cd4 "steps" = true) (k4 : PySem.W.keepIn K (.ref f4) = true)
    (a5 : PySem.W.nsIn K mainGlobals "wanted" = some (some (.ref f5))) (l5 : K.lookup f5 = some ⟨oc5, od5, .func (PySem.W.fnOf "wanted" "wanted" (defArgs s_wanted) (defBody s_wanted) (defScope s_wanted) .none kV5 dc5 pm5 an5 cd5 ct5), sl5⟩) (c5 : PySem.W.codeIn K cd5 "wanted" = true) (k5 : PySem.W.keepIn K (.ref f5) = true)
    (a6 : PySem.W.nsIn K mainGlobals "height_of" = some (some (.ref f6))) (l6 : K.lookup f6 = some ⟨oc6, od6, .func (PySem.W.fnOf "height_of" "height_of" (defArgs s_height_of) (defBody s_height_of) (defScope s_height_of) .none kV6 dc6 pm6 an6 cd6 ct6), sl6⟩) (c6 : PySem.W.codeIn K cd6 "height_of" = true) (k6 : PySem.W.keepIn K (.ref f6) = true)
    (a7 : PySem.W.nsIn K mainGlobals "row_of" = some (some (.ref f7))) (l7 : K.lookup f7 = some ⟨oc7, od7, .func (PySem.W.fnOf "row_of" "row_of" (defArgs s_row_of) (defBody s_row_of) (defScope s_row_of) .none kV7 dc7 pm7 an7 cd7 ct7), sl7⟩) (c7 : PySem.W.codeIn K cd7 "row_of" = true) (k7 : PySem.W.keepIn K (.ref f7) = true)
    (a8 : PySem.W.nsIn K mainGlobals "reached" = some (some (.ref f8))) (l8 : K.lookup f8 = some ⟨oc8, od8, .func (PySem.W.fnOf "reached" "reached" (defArgs s_reached) (defBody s_reached) (defScope s_reached) .none kV8 dc8 pm8 an8 cd8 ct8), sl8⟩) (c8 : PySem.W.codeIn K cd8 "reached" = true) (k8 : PySem.W.keepIn K (.ref f8) = true)
    (a9 : PySem.W.nsIn K mainGlobals "joined" = some (some (.ref f9))) (l9 : K.lookup f9 = some ⟨oc9, od9, .func (PySem.W.fnOf "joined" "joined" (defArgs s_joined) (defBody s_joined) (defScope s_joined) .none kV9 dc9 pm9 an9 cd9 ct9), sl9⟩) (c9 : PySem.W.codeIn K cd9 "joined" = true) (k9 : PySem.W.keepIn K (.ref f9) = true)
    (a10 : PySem.W.nsIn K mainGlobals "end_knot" = some (some (.ref f10))) (l10 : K.lookup f10 = some ⟨oc10, od10, .func (PySem.W.fnOf "end_knot" "end_knot" (defArgs s_end_knot) (defBody s_end_knot) (defScope s_end_knot) .none kV10 dc10 pm10 an10 cd10 ct10), sl10⟩) (c10 : PySem.W.codeIn K cd10 "end_knot" = true) (k10 : PySem.W.keepIn K (.ref f10) = true)
    (a11 : PySem.W.nsIn K mainGlobals "_law_deck" = some (some (.ref f11))) (l11 : K.lookup f11 = some ⟨oc11, od11, .func (PySem.W.fnOf "_law_deck" "_law_deck" (defArgs s__law_deck) (defBody s__law_deck) (defScope s__law_deck) .none kV11 dc11 pm11 an11 cd11 ct11), sl11⟩) (c11 : PySem.W.codeIn K cd11 "_law_deck" = true) (k11 : PySem.W.keepIn K (.ref f11) = true)
    (a12 : PySem.W.nsIn K mainGlobals "_law_draw" = some (some (.ref f12))) (l12 : K.lookup f12 = some ⟨oc12, od12, .func (PySem.W.fnOf "_law_draw" "_law_draw" (defArgs s__law_draw) (defBody s__law_draw) (defScope s__law_draw) .none kV12 dc12 pm12 an12 cd12 ct12), sl12⟩) (c12 : PySem.W.codeIn K cd12 "_law_draw" = true) (k12 : PySem.W.keepIn K (.ref f12) = true)
    (a13 : PySem.W.nsIn K mainGlobals "_law_path" = some (some (.ref f13))) (l13 : K.lookup f13 = some ⟨oc13, od13, .func (PySem.W.fnOf "_law_path" "_law_path" (defArgs s__law_path) (defBody s__law_path) (defScope s__law_path) .none kV13 dc13 pm13 an13 cd13 ct13), sl13⟩) (c13 : PySem.W.codeIn K cd13 "_law_path" = true) (k13 : PySem.W.keepIn K (.ref f13) = true)
    (a14 : PySem.W.nsIn K mainGlobals "_law_knot" = some (some (.ref f14))) (l14 : K.lookup f14 = some ⟨oc14, od14, .func (PySem.W.fnOf "_law_knot" "_law_knot" (defArgs s__law_knot) (defBody s__law_knot) (defScope s__law_knot) .none kV14 dc14 pm14 an14 cd14 ct14), sl14⟩) (c14 : PySem.W.codeIn K cd14 "_law_knot" = true) (k14 : PySem.W.keepIn K (.ref f14) = true)
    (a15 : PySem.W.nsIn K mainGlobals "_law_put" = some (some (.ref f15))) (l15 : K.lookup f15 = some ⟨oc15, od15, .func (PySem.W.fnOf "_law_put" "_law_put" (defArgs s__law_put) (defBody s__law_put) (defScope s__law_put) .none kV15 dc15 pm15 an15 cd15 ct15), sl15⟩) (c15 : PySem.W.codeIn K cd15 "_law_put" = true) (k15 : PySem.W.keepIn K (.ref f15) = true)
    (a16 : PySem.W.nsIn K mainGlobals "_law_names_in" = some (some (.ref f16))) (l16 : K.lookup f16 = some ⟨oc16, od16, .func (PySem.W.fnOf "_law_names_in" "_law_names_in" (defArgs s__law_names_in) (defBody s__law_names_in) (defScope s__law_names_in) .none kV16 dc16 pm16 an16 cd16 ct16), sl16⟩) (c16 : PySem.W.codeIn K cd16 "_law_names_in" = true) (k16 : PySem.W.keepIn K (.ref f16) = true)
    (a17 : PySem.W.nsIn K mainGlobals "_law_empty" = some (some (.ref f17))) (l17 : K.lookup f17 = some ⟨oc17, od17, .func (PySem.W.fnOf "_law_empty" "_law_empty" (defArgs s__law_empty) (defBody s__law_empty) (defScope s__law_empty) .none kV17 dc17 pm17 an17 cd17 ct17), sl17⟩) (c17 : PySem.W.codeIn K cd17 "_law_empty" = true) (k17 : PySem.W.keepIn K (.ref f17) = true)
    (a18 : PySem.W.nsIn K mainGlobals "_law_come" = some (some (.ref f18))) (l18 : K.lookup f18 = some ⟨oc18, od18, .func (PySem.W.fnOf "_law_come" "_law_come" (defArgs s__law_come) (defBody s__law_come) (defScope s__law_come) .none kV18 dc18 pm18 an18 cd18 ct18), sl18⟩) (c18 : PySem.W.codeIn K cd18 "_law_come" = true) (k18 : PySem.W.keepIn K (.ref f18) = true)
    (a19 : PySem.W.nsIn K mainGlobals "_law_go" = some (some (.ref f19))) (l19 : K.lookup f19 = some ⟨oc19, od19, .func (PySem.W.fnOf "_law_go" "_law_go" (defArgs s__law_go) (defBody s__law_go) (defScope s__law_go) .none kV19 dc19 pm19 an19 cd19 ct19), sl19⟩) (c19 : PySem.W.codeIn K cd19 "_law_go" = true) (k19 : PySem.W.keepIn K (.ref f19) = true)
    (a20 : PySem.W.nsIn K mainGlobals "_law_pool" = some (some (.ref f20))) (l20 : K.lookup f20 = some ⟨oc20, od20, .func (PySem.W.fnOf "_law_pool" "_law_pool" (defArgs s__law_pool) (defBody s__law_pool) (defScope s__law_pool) .none kV20 dc20 pm20 an20 cd20 ct20), sl20⟩) (c20 : PySem.W.codeIn K cd20 "_law_pool" = true) (k20 : PySem.W.keepIn K (.ref f20) = true)
    (a21 : PySem.W.nsIn K mainGlobals "_law_number" = some (some (.ref f21))) (l21 : K.lookup f21 = some ⟨oc21, od21, .func (PySem.W.fnOf "_law_number" "_law_number" (defArgs s__law_number) (defBody s__law_number) (defScope s__law_number) .none kV21 dc21 pm21 an21 cd21 ct21), sl21⟩) (c21 : PySem.W.codeIn K cd21 "_law_number" = true) (k21 : PySem.W.keepIn K (.ref f21) = true)
    (a22 : PySem.W.nsIn K mainGlobals "_law_end" = some (some (.ref f22))) (l22 : K.lookup f22 = some ⟨oc22, od22, .func (PySem.W.fnOf "_law_end" "_law_end" (defArgs s__law_end) (defBody s__law_end) (defScope s__law_end) .none kV22 dc22 pm22 an22 cd22 ct22), sl22⟩) (c22 : PySem.W.codeIn K cd22 "_law_end" = true) (k22 : PySem.W.keepIn K (.ref f22) = true)
    (a23 : PySem.W.nsIn K mainGlobals "_law_beside" = some (some (.ref f23))) (l23 : K.lookup f23 = some ⟨oc23, od23, .func (PySem.W.fnOf "_law_beside" "_law_beside" (defArgs s__law_beside) (defBody s__law_beside) (defScope s__law_beside) .none kV23 dc23 pm23 an23 cd23 ct23), sl23⟩) (c23 : PySem.W.codeIn K cd23 "_law_beside" = true) (k23 : PySem.W.keepIn K (.ref f23) = true)
    (a24 : PySem.W.nsIn K mainGlobals "_law_row" = some (some (.ref f24))) (l24 : K.lookup f24 = some ⟨oc24, od24, .func (PySem.W.fnOf "_law_row" "_law_row" (defArgs s__law_row) (defBody s__law_row) (defScope s__law_row) .none kV24 dc24 pm24 an24 cd24 ct24), sl24⟩) (c24 : PySem.W.codeIn K cd24 "_law_row" = true) (k24 : PySem.W.keepIn K (.ref f24) = true)
    (a25 : PySem.W.nsIn K mainGlobals "_law_is_known" = some (some (.ref f25))) (l25 : K.lookup f25 = some ⟨oc25, od25, .func (PySem.W.fnOf "_law_is_known" "_law_is_known" (defArgs s__law_is_known) (defBody s__law_is_known) (defScope s__law_is_known) .none kV25 dc25 pm25 an25 cd25 ct25), sl25⟩) (c25 : PySem.W.codeIn K cd25 "_law_is_known" = true) (k25 : PySem.W.keepIn K (.ref f25) = true)
    (a26 : PySem.W.nsIn K mainGlobals "_law_deed" = some (some (.ref f26))) (l26 : K.lookup f26 = some ⟨oc26, od26, .func (PySem.W.fnOf "_law_deed" "_law_deed" (defArgs s__law_deed) (defBody s__law_deed) (defScope s__law_deed) .none kV26 dc26 pm26 an26 cd26 ct26), sl26⟩) (c26 : PySem.W.codeIn K cd26 "_law_deed" = true) (k26 : PySem.W.keepIn K (.ref f26) = true)
    (a27 : PySem.W.nsIn K mainGlobals "_law_some_known" = some (some (.ref f27))) (l27 : K.lookup f27 = some ⟨oc27, od27, .func (PySem.W.fnOf "_law_some_known" "_law_some_known" (defArgs s__law_some_known) (defBody s__law_some_known) (defScope s__law_some_known) .none kV27 dc27 pm27 an27 cd27 ct27), sl27⟩) (c27 : PySem.W.codeIn K cd27 "_law_some_known" = true) (k27 : PySem.W.keepIn K (.ref f27) = true)
    (a28 : PySem.W.nsIn K mainGlobals "law" = some (some (.ref f28))) (l28 : K.lookup f28 = some ⟨oc28, od28, .func (PySem.W.fnOf "law" "law" (defArgs s_law) (defBody s_law) (defScope s_law) .none kV28 dc28 pm28 an28 cd28 ct28), sl28⟩) (c28 : PySem.W.codeIn K cd28 "law" = true) (k28 : PySem.W.keepIn K (.ref f28) = true)
    (a29 : PySem.W.findIn K (.ref C_Knot) "__init__" = some (some (.ref f29))) (fn29 : PySem.W.isFn K (.ref f29) = true) (l29 : K.lookup f29 = some ⟨oc29, od29, .func (PySem.W.fnOf "__init__" "Knot.__init__" (defArgs s_Knot___init__) (defBody s_Knot___init__) (defScope s_Knot___init__) .none kV29 dc29 pm29 an29 cd29 ct29), sl29⟩) (c29 : PySem.W.codeIn K cd29 "Knot.__init__" = true) (k29 : PySem.W.keepIn K (.ref f29) = true)
    (a30 : PySem.W.findIn K (.ref C_Grove) "__init__" = some (some (.ref f30))) (fn30 : PySem.W.isFn K (.ref f30) = true) (l30 : K.lookup f30 = some ⟨oc30, od30, .func (PySem.W.fnOf "__init__" "Grove.__init__" (defArgs s_Grove___init__) (defBody s_Grove___init__) (defScope s_Grove___init__) .none kV30 dc30 pm30 an30 cd30 ct30), sl30⟩) (c30 : PySem.W.codeIn K cd30 "Grove.__init__" = true) (k30 : PySem.W.keepIn K (.ref f30) = true)
    (a31 : PySem.W.findIn K (.ref C_Grove) "come" = some (some (.ref f31))) (fn31 : PySem.W.isFn K (.ref f31) = true) (l31 : K.lookup f31 = some ⟨oc31, od31, .func (PySem.W.fnOf "come" "Grove.come" (defArgs s_Grove_come) (defBody s_Grove_come) (defScope s_Grove_come) (.ref dt31) kV31 dc31 pm31 an31 cd31 ct31), sl31⟩) (c31 : PySem.W.codeIn K cd31 "Grove.come" = true) (k31 : PySem.W.keepIn K (.ref f31) = true)
    {tk_Grove_come : Tok} (t31 : K.lookup dt31 = some ⟨tc31, td31, .seq [Value.none, .int 0 tk_Grove_come].toArray tm31, ts31⟩)
    (a32 : PySem.W.findIn K (.ref C_Grove) "go" = some (some (.ref f32))) (fn32 : PySem.W.isFn K (.ref f32) = true) (l32 : K.lookup f32 = some ⟨oc32, od32, .func (PySem.W.fnOf "go" "Grove.go" (defArgs s_Grove_go) (defBody s_Grove_go) (defScope s_Grove_go) .none kV32 dc32 pm32 an32 cd32 ct32), sl32⟩) (c32 : PySem.W.codeIn K cd32 "Grove.go" = true) (k32 : PySem.W.keepIn K (.ref f32) = true)
    (a33 : PySem.W.findIn K (.ref C_Grove) "row" = some (some (.ref f33))) (fn33 : PySem.W.isFn K (.ref f33) = true) (l33 : K.lookup f33 = some ⟨oc33, od33, .func (PySem.W.fnOf "row" "Grove.row" (defArgs s_Grove_row) (defBody s_Grove_row) (defScope s_Grove_row) .none kV33 dc33 pm33 an33 cd33 ct33), sl33⟩) (c33 : PySem.W.codeIn K cd33 "Grove.row" = true) (k33 : PySem.W.keepIn K (.ref f33) = true)
    (a34 : PySem.W.findIn K (.ref C_Grove) "load" = some (some (.ref f34))) (fn34 : PySem.W.isFn K (.ref f34) = true) (l34 : K.lookup f34 = some ⟨oc34, od34, .func (PySem.W.fnOf "load" "Grove.load" (defArgs s_Grove_load) (defBody s_Grove_load) (defScope s_Grove_load) .none kV34 dc34 pm34 an34 cd34 ct34), sl34⟩) (c34 : PySem.W.codeIn K cd34 "Grove.load" = true) (k34 : PySem.W.keepIn K (.ref f34) = true)
    (a35 : PySem.W.findIn K (.ref C_Grove) "place_beside" = some (some (.ref f35))) (fn35 : PySem.W.isFn K (.ref f35) = true) (l35 : K.lookup f35 = some ⟨oc35, od35, .func (PySem.W.fnOf "place_beside" "Grove.place_beside" (defArgs s_Grove_place_beside) (defBody s_Grove_place_beside) (defScope s_Grove_place_beside) .none kV35 dc35 pm35 an35 cd35 ct35), sl35⟩) (c35 : PySem.W.codeIn K cd35 "Grove.place_beside" = true) (k35 : PySem.W.keepIn K (.ref f35) = true)
    (a36 : PySem.W.findIn K (.ref C_Grove) "knot_at" = some (some (.ref f36))) (fn36 : PySem.W.isFn K (.ref f36) = true) (l36 : K.lookup f36 = some ⟨oc36, od36, .func (PySem.W.fnOf "knot_at" "Grove.knot_at" (defArgs s_Grove_knot_at) (defBody s_Grove_knot_at) (defScope s_Grove_knot_at) .none kV36 dc36 pm36 an36 cd36 ct36), sl36⟩) (c36 : PySem.W.codeIn K cd36 "Grove.knot_at" = true) (k36 : PySem.W.keepIn K (.ref f36) = true)
    (a37 : PySem.W.findIn K (.ref C_Grove) "join_beside" = some (some (.ref f37))) (fn37 : PySem.W.isFn K (.ref f37) = true) (l37 : K.lookup f37 = some ⟨oc37, od37, .func (PySem.W.fnOf "join_beside" "Grove.join_beside" (defArgs s_Grove_join_beside) (defBody s_Grove_join_beside) (defScope s_Grove_join_beside) .none kV37 dc37 pm37 an37 cd37 ct37), sl37⟩) (c37 : PySem.W.codeIn K cd37 "Grove.join_beside" = true) (k37 : PySem.W.keepIn K (.ref f37) = true)
    (a38 : PySem.W.findIn K (.ref C_Grove) "put_in_place" = some (some (.ref f38))) (fn38 : PySem.W.isFn K (.ref f38) = true) (l38 : K.lookup f38 = some ⟨oc38, od38, .func (PySem.W.fnOf "put_in_place" "Grove.put_in_place" (defArgs s_Grove_put_in_place) (defBody s_Grove_put_in_place) (defScope s_Grove_put_in_place) .none kV38 dc38 pm38 an38 cd38 ct38), sl38⟩) (c38 : PySem.W.codeIn K cd38 "Grove.put_in_place" = true) (k38 : PySem.W.keepIn K (.ref f38) = true)
    (a39 : PySem.W.findIn K (.ref C_Grove) "reckon" = some (some (.ref f39))) (fn39 : PySem.W.isFn K (.ref f39) = true) (l39 : K.lookup f39 = some ⟨oc39, od39, .func (PySem.W.fnOf "reckon" "Grove.reckon" (defArgs s_Grove_reckon) (defBody s_Grove_reckon) (defScope s_Grove_reckon) .none kV39 dc39 pm39 an39 cd39 ct39), sl39⟩) (c39 : PySem.W.codeIn K cd39 "Grove.reckon" = true) (k39 : PySem.W.keepIn K (.ref f39) = true)
    {tk_GRAIN : Tok} (y_GRAIN : PySem.W.nsIn K mainGlobals "GRAIN" = some (some (.int 2 tk_GRAIN)))
    {tk_MOST_ENDS : Tok} (y_MOST_ENDS : PySem.W.nsIn K mainGlobals "MOST_ENDS" = some (some (.int 24 tk_MOST_ENDS)))
    (z_sum : PySem.W.nsIn K mainGlobals "sum" = some none)
    (z_list : PySem.W.nsIn K mainGlobals "list" = some none)
    (z_max : PySem.W.nsIn K mainGlobals "max" = some none)
    (z_min : PySem.W.nsIn K mainGlobals "min" = some none)
    (z_abs : PySem.W.nsIn K mainGlobals "abs" = some none)
    (z_str : PySem.W.nsIn K mainGlobals "str" = some none)
    (z_isinstance : PySem.W.nsIn K mainGlobals "isinstance" = some none)
    (z_int : PySem.W.nsIn K mainGlobals "int" = some none)
    (z_tuple : PySem.W.nsIn K mainGlobals "tuple" = some none)
    (z_len : PySem.W.nsIn K mainGlobals "len" = some none)
    (z_range : PySem.W.nsIn K mainGlobals "range" = some none)
    (z_bool : PySem.W.nsIn K mainGlobals "bool" = some none)
    (ac_Knot : PySem.W.nsIn K mainGlobals "Knot" = some (some (.ref C_Knot)))
    (kk_Knot : PySem.W.keepIn K (.ref C_Knot) = true)
    (ac_Grove : PySem.W.nsIn K mainGlobals "Grove" = some (some (.ref C_Grove)))
    (kk_Grove : PySem.W.keepIn K (.ref C_Grove) = true)
    (pg_Knot : PySem.W.plainGet K C_Knot Str.empty = true)
    (hdd_Knot : PySem.W.hasDictIn K C_Knot = true)
    (po_Knot : PySem.W.plainOver K C_Knot = true)
    (sa_Knot : PySem.W.findIn K (.ref C_Knot) "__setattr__" = some (some (.builtin "object.__setattr__")))
    (mm_Knot : PySem.W.makesIn K C_Knot = true)
    (nn_Knot_name : PySem.W.findIn K (.ref C_Knot) "name" = some none)
    (nn_Knot_end : PySem.W.findIn K (.ref C_Knot) "end" = some none)
    (nn_Knot_sides : PySem.W.findIn K (.ref C_Knot) "sides" = some none)
    (nn_Knot_above : PySem.W.findIn K (.ref C_Knot) "above" = some none)
    (nn_Knot_stand : PySem.W.findIn K (.ref C_Knot) "stand" = some none)
    (nn_Knot_weight : PySem.W.findIn K (.ref C_Knot) "weight" = some none)
    (mo_Knot : PySem.W.mroIn K C_Knot (.type "object") = some true)
    (qe_Knot : PySem.W.findIn K (.ref C_Knot) "__eq__" = some (some (.builtin "object.__eq__")))
    (pg_Grove : PySem.W.plainGet K C_Grove Str.empty = true)
    (hdd_Grove : PySem.W.hasDictIn K C_Grove = true)
    (po_Grove : PySem.W.plainOver K C_Grove = true)
    (sa_Grove : PySem.W.findIn K (.ref C_Grove) "__setattr__" = some (some (.builtin "object.__setattr__")))
    (mm_Grove : PySem.W.makesIn K C_Grove = true)
    (nn_Grove_knots : PySem.W.findIn K (.ref C_Grove) "knots" = some none)
    (nn_Grove_root : PySem.W.findIn K (.ref C_Grove) "root" = some none)
    (nn_Grove_reckonings : PySem.W.findIn K (.ref C_Grove) "reckonings" = some none)
    (mo_Grove : PySem.W.mroIn K C_Grove (.type "object") = some true)
    (qe_Grove : PySem.W.findIn K (.ref C_Grove) "__eq__" = some (some (.builtin "object.__eq__")))
    : ∃ fd : FuncData, (∀ (s : Shared) (v : Value), BindsTo s fd ⟨[v], []⟩ [("_law_script", v)]) ∧ ∀ base : Heap, K.In base → base.Ns mainGlobals mg → FnOk l.prog w K mg base CX0 29 fa fd ["_law_script"] (Pu.sp_lawT K []) := by
  letI : Tbs := ⟨[], w, l.prog, fun n => match n with | 0 => .ref C_Knot | 1 => .ref C_Grove | _ => .none, [], (fun _ h => nomatch h), (fun _ h => nomatch h)⟩
  have e := hfa.symm.trans (PySem.W.mg_of X G a28)
  cases e
  have F0 := fun_mk (st := s_spot_of) l0 c0 k0
  have F1 := fun_mk (st := s_grown) l1 c1 k1
  have F2 := fun_mk (st := s_met) l2 c2 k2
  have F3 := fun_mk (st := s_apart) l3 c3 k3
  have F4 := fun_mk (st := s_steps) l4 c4 k4
  have F5 := fun_mk (st := s_wanted) l5 c5 k5
  have F6 := fun_mk (st := s_height_of) l6 c6 k6
  have F7 := fun_mk (st := s_row_of) l7 c7 k7
  have F8 := fun_mk (st := s_reached) l8 c8 k8
  have F9 := fun_mk (st := s_joined) l9 c9 k9
  have F10 := fun_mk (st := s_end_knot) l10 c10 k10
  have F11 := fun_mk (st := s__law_deck) l11 c11 k11
  have F12 := fun_mk (st := s__law_draw) l12 c12 k12
  have F13 := fun_mk (st := s__law_path) l13 c13 k13
  have F14 := fun_mk (st := s__law_knot) l14 c14 k14
  have F15 := fun_mk (st := s__law_put) l15 c15 k15
  have F16 := fun_mk (st := s__law_names_in) l16 c16 k16
  have F17 := fun_mk (st := s__law_empty) l17 c17 k17
  have F18 := fun_mk (st := s__law_come) l18 c18 k18
  have F19 := fun_mk (st := s__law_go) l19 c19 k19
  have F20 := fun_mk (st := s__law_pool) l20 c20 k20
  have F21 := fun_mk (st := s__law_number) l21 c21 k21
  have F22 := fun_mk (st := s__law_end) l22 c22 k22
  have F23 := fun_mk (st := s__law_beside) l23 c23 k23
  have F24 := fun_mk (st := s__law_row) l24 c24 k24
  have F25 := fun_mk (st := s__law_is_known) l25 c25 k25
  have F26 := fun_mk (st := s__law_deed) l26 c26 k26
  have F27 := fun_mk (st := s__law_some_known) l27 c27 k27
  have F28 := fun_mk (st := s_law) l28 c28 k28
  have F29 := fun_mk (st := s_Knot___init__) l29 c29 k29
  have F30 := fun_mk (st := s_Grove___init__) l30 c30 k30
  have F31 := Pu.fun_mkD (st := s_Grove_come) (dvs := [.non, .int 0]) (us := [Value.none, .int 0 tk_Grove_come]) l31 c31 k31 t31 (.cons rfl (.cons ⟨tk_Grove_come, rfl⟩ .nil))
  have F32 := fun_mk (st := s_Grove_go) l32 c32 k32
  have F33 := fun_mk (st := s_Grove_row) l33 c33 k33
  have F34 := fun_mk (st := s_Grove_load) l34 c34 k34
  have F35 := fun_mk (st := s_Grove_place_beside) l35 c35 k35
  have F36 := fun_mk (st := s_Grove_knot_at) l36 c36 k36
  have F37 := fun_mk (st := s_Grove_join_beside) l37 c37 k37
  have F38 := fun_mk (st := s_Grove_put_in_place) l38 c38 k38
  have F39 := fun_mk (st := s_Grove_reckon) l39 c39 k39
  have b0 := F0.binds (ps := ["grain", "x", "y"]) fun _ _ _ _ _ _ us hl => match us, hl with | [_, _, _], _ => rfl
  have b1 := F1.binds (ps := ["box", "by"]) fun _ _ _ _ _ _ us hl => match us, hl with | [_, _], _ => rfl
  have b2 := F2.binds (ps := ["box", "other"]) fun _ _ _ _ _ _ us hl => match us, hl with | [_, _], _ => rfl
  have b3 := F3.binds (ps := ["box", "other"]) fun _ _ _ _ _ _ us hl => match us, hl with | [_, _], _ => rfl
  have b4 := F4.binds (ps := ["one", "other"]) fun _ _ _ _ _ _ us hl => match us, hl with | [_, _], _ => rfl
  have b5 := F5.binds (ps := ["ends", "one", "other"]) fun _ _ _ _ _ _ us hl => match us, hl with | [_, _, _], _ => rfl
  have b6 := F6.binds (ps := ["ends", "some"]) fun _ _ _ _ _ _ us hl => match us, hl with | [_, _], _ => rfl
  have b7 := F7.binds (ps := ["ends", "some"]) fun _ _ _ _ _ _ us hl => match us, hl with | [_, _], _ => rfl
  have b8 := F8.binds (ps := ["end", "height"]) fun _ _ _ _ _ _ us hl => match us, hl with | [_, _], _ => rfl
  have b9 := F9.binds (ps := ["one", "other"]) fun _ _ _ _ _ _ us hl => match us, hl with | [_, _], _ => rfl
  have b10 := F10.binds (ps := ["name", "end"]) fun _ _ _ _ _ _ us hl => match us, hl with | [_, _], _ => rfl
  have b11 := F11.binds (ps := ["_law_script"]) fun _ _ _ _ _ _ us hl => match us, hl with | [_], _ => rfl
  have b12 := F12.binds (ps := ["_law_deck_here", "_law_most"]) fun _ _ _ _ _ _ us hl => match us, hl with | [_, _], _ => rfl
  have b13 := F13.binds (ps := ["_law_tree", "_law_name"]) fun _ _ _ _ _ _ us hl => match us, hl with | [_, _], _ => rfl
  have b14 := F14.binds (ps := ["_law_tree", "_law_path_here"]) fun _ _ _ _ _ _ us hl => match us, hl with | [_, _], _ => rfl
  have b15 := F15.binds (ps := ["_law_tree", "_law_path_here", "_law_new"]) fun _ _ _ _ _ _ us hl => match us, hl with | [_, _, _], _ => rfl
  have b16 := F16.binds (ps := ["_law_tree"]) fun _ _ _ _ _ _ us hl => match us, hl with | [_], _ => rfl
  have b17 := F17.binds (ps := []) fun _ _ _ _ _ _ us hl => match us, hl with | [], _ => rfl
  have b18 := F18.binds (ps := ["_law_model", "_law_name", "_law_end_here", "_law_beside_here", "_law_above"]) fun _ _ _ _ _ _ us hl => match us, hl with | [_, _, _, _, _], _ => rfl
  have b19 := F19.binds (ps := ["_law_model", "_law_name"]) fun _ _ _ _ _ _ us hl => match us, hl with | [_, _], _ => rfl
  have b20 := F20.binds (ps := ["_law_deck_here"]) fun _ _ _ _ _ _ us hl => match us, hl with | [_], _ => rfl
  have b21 := F21.binds (ps := ["_law_deck_here", "_law_way"]) fun _ _ _ _ _ _ us hl => match us, hl with | [_, _], _ => rfl
  have b22 := F22.binds (ps := ["_law_deck_here", "_law_way"]) fun _ _ _ _ _ _ us hl => match us, hl with | [_, _], _ => rfl
  have b23 := F23.binds (ps := ["_law_deck_here", "_law_model"]) fun _ _ _ _ _ _ us hl => match us, hl with | [_, _], _ => rfl
  have b24 := F24.binds (ps := ["_law_ends"]) fun _ _ _ _ _ _ us hl => match us, hl with | [_], _ => rfl
  have b25 := F25.binds (ps := ["_law_grove", "_law_model", "_law_name", "_law_above"]) fun _ _ _ _ _ _ us hl => match us, hl with | [_, _, _, _], _ => rfl
  have b26 := F26.binds (ps := ["_law_deck_here", "_law_grove", "_law_model", "_law_pool_here", "_law_way"]) fun _ _ _ _ _ _ us hl => match us, hl with | [_, _, _, _, _], _ => rfl
  have b27 := F27.binds (ps := ["_law_deck_here", "_law_grove", "_law_model"]) fun _ _ _ _ _ _ us hl => match us, hl with | [_, _, _], _ => rfl
  have b28 := F28.binds (ps := ["_law_script"]) fun _ _ _ _ _ _ us hl => match us, hl with | [_], _ => rfl
  have b29 := F29.binds (ps := ["self", "name", "end", "sides"]) fun _ _ _ _ _ _ us hl => match us, hl with | [_, _, _, _], _ => rfl
  have b30 := F30.binds (ps := ["self"]) fun _ _ _ _ _ _ us hl => match us, hl with | [_], _ => rfl
  obtain ⟨ds0_31, v0_31, b0_31⟩ := FunD.binds1 F31 (ps := ["self", "name", "x", "y", "start", "load", "beside", "above"]) 6 0 (List.cons_ne_nil _ _) rfl fun _ _ _ _ _ _ _ us its hl hi => match us, its, hl, hi with | [_, _, _, _, _, _], [_, _], _, _ => ⟨_, rfl, rfl⟩
  obtain ⟨ds1_31, v1_31, b1_31⟩ := FunD.binds1 F31 (ps := ["self", "name", "x", "y", "start", "load", "beside", "above"]) 7 1 (List.cons_ne_nil _ _) rfl fun _ _ _ _ _ _ _ us its hl hi => match us, its, hl, hi with | [_, _, _, _, _, _, _], [_, _], _, _ => ⟨_, rfl, rfl⟩
  obtain ⟨ds2_31, v2_31, b2_31⟩ := FunD.binds1 F31 (ps := ["self", "name", "x", "y", "start", "load", "beside", "above"]) 8 2 (List.cons_ne_nil _ _) rfl fun _ _ _ _ _ _ _ us its hl hi => match us, its, hl, hi with | [_, _, _, _, _, _, _, _], [_, _], _, _ => ⟨_, rfl, rfl⟩
  have b32 := F32.binds (ps := ["self", "name"]) fun _ _ _ _ _ _ us hl => match us, hl with | [_, _], _ => rfl
  have b33 := F33.binds (ps := ["self", "name", "above"]) fun _ _ _ _ _ _ us hl => match us, hl with | [_, _, _], _ => rfl
  have b34 := F34.binds (ps := ["self", "name", "above"]) fun _ _ _ _ _ _ us hl => match us, hl with | [_, _, _], _ => rfl
  have b35 := F35.binds (ps := ["self", "beside", "above"]) fun _ _ _ _ _ _ us hl => match us, hl with | [_, _, _], _ => rfl
  have b36 := F36.binds (ps := ["self", "name", "above"]) fun _ _ _ _ _ _ us hl => match us, hl with | [_, _, _], _ => rfl
  have b37 := F37.binds (ps := ["self", "place", "knot"]) fun _ _ _ _ _ _ us hl => match us, hl with | [_, _, _], _ => rfl
  have b38 := F38.binds (ps := ["self", "old", "new"]) fun _ _ _ _ _ _ us hl => match us, hl with | [_, _, _], _ => rfl
  have b39 := F39.binds (ps := ["self", "joint"]) fun _ _ _ _ _ _ us hl => match us, hl with | [_, _], _ => rfl
  let T : Tx K mg := ⟨⟨_, _, F0, b0, PySem.W.mg_of X G a0, _, _, F1, b1, PySem.W.mg_of X G a1, _, _, F2, b2, PySem.W.mg_of X G a2, _, _, F3, b3, PySem.W.mg_of X G a3, _, _, F4, b4, PySem.W.mg_of X G a4⟩, ⟨_, _, F5, b5, PySem.W.mg_of X G a5, _, _, F6, b6, PySem.W.mg_of X G a6, _, _, F7, b7, PySem.W.mg_of X G a7, _, _, F8, b8, PySem.W.mg_of X G a8, _, _, F9, b9, PySem.W.mg_of X G a9⟩, ⟨_, _, F10, b10, PySem.W.mg_of X G a10, _, _, F11, b11, PySem.W.mg_of X G a11, _, _, F12, b12, PySem.W.mg_of X G a12, _, _, F13, b13, PySem.W.mg_of X G a13, _, _, F14, b14, PySem.W.mg_of X G a14⟩, ⟨_, _, F15, b15, PySem.W.mg_of X G a15, _, _, F16, b16, PySem.W.mg_of X G a16, _, _, F17, b17, PySem.W.mg_of X G a17, _, _, F18, b18, PySem.W.mg_of X G a18, _, _, F19, b19, PySem.W.mg_of X G a19⟩, ⟨_, _, F20, b20, PySem.W.mg_of X G a20, _, _, F21, b21, PySem.W.mg_of X G a21, _, _, F22, b22, PySem.W.mg_of X G a22, _, _, F23, b23, PySem.W.mg_of X G a23, _, _, F24, b24, PySem.W.mg_of X G a24⟩, ⟨_, _, F25, b25, PySem.W.mg_of X G a25, _, _, F26, b26, PySem.W.mg_of X G a26, _, _, F27, b27, PySem.W.mg_of X G a27, _, _, F28, b28, PySem.W.mg_of X G a28, _, _, F29, b29⟩, ⟨_, _, F30, b30, _, _, F31, _, v0_31, b0_31, _, v1_31, b1_31, _, v2_31, b2_31, _, _, F32, b32, _, _, F33, b33, _, _, F34, b34⟩, ⟨_, _, F35, b35, _, _, F36, b36, _, _, F37, b37, _, _, F38, b38, _, _, F39, b39⟩, _, PySem.W.mg_of X G y_GRAIN, _, PySem.W.mg_of X G y_MOST_ENDS, PySem.W.mg_none_of X G z_sum, PySem.W.mg_none_of X G z_list, PySem.W.mg_none_of X G z_max, PySem.W.mg_none_of X G z_min, PySem.W.mg_none_of X G z_abs, PySem.W.mg_none_of X G z_str, PySem.W.mg_none_of X G z_isinstance, PySem.W.mg_none_of X G z_int, PySem.W.mg_none_of X G z_tuple, PySem.W.mg_none_of X G z_len, PySem.W.mg_none_of X G z_range, PySem.W.mg_none_of X G z_bool, _, PySem.W.mg_of X G ac_Knot, kk_Knot, _, PySem.W.mg_of X G ac_Grove, kk_Grove, (show PySem.Value.ref C_Knot = .ref C_Knot from rfl), (show PySem.Value.ref C_Grove = .ref C_Grove from rfl), ⟨pg_Knot, hdd_Knot, po_Knot, sa_Knot⟩, ⟨mm_Knot, a29, fn29, kk_Knot⟩, nn_Knot_name, nn_Knot_end, nn_Knot_sides, nn_Knot_above, nn_Knot_stand, nn_Knot_weight, ⟨mo_Knot, qe_Knot⟩, ⟨pg_Grove, hdd_Grove, po_Grove, sa_Grove⟩, ⟨mm_Grove, a30, fn30, kk_Grove⟩, nn_Grove_knots, nn_Grove_root, nn_Grove_reckonings, ⟨mo_Grove, qe_Grove⟩, ⟨a31, fn31, k31⟩, ⟨a32, fn32, k32⟩, ⟨a33, fn33, k33⟩, ⟨a34, fn34, k34⟩, ⟨a35, fn35, k35⟩, ⟨a36, fn36, k36⟩, ⟨a37, fn37, k37⟩, ⟨a38, fn38, k38⟩, ⟨a39, fn39, k39⟩⟩
  exact ⟨PySem.W.fnOf "law" "law" (defArgs s_law) (defBody s_law) (defScope s_law) .none kV28 dc28 pm28 an28 cd28 ct28, fun s v => .of_eq rfl, fun base _ _ => ok_law hp T⟩
omit [Tbs] in
theorem walk {l : PySem.W.OpenLaw} {q : Program} {loose : List Str} {XP : (Str → Option Value) → Heap → Prop} {YP : World → Heap → Prop} {d : DefRec} {K : Params → PySem.W.Frag} (hn : l.most = some 63) (hdf : d.params.defaults = [])
    (hY : ∀ (w : World) (h : Heap), YP w h → (K w.params).In h)
    (F : ∀ (w : World) (mg : Str → Option Value) (fa : Addr) (h : Heap), (K w.params).In h → h.Ns mainGlobals mg → mg d.name = some (.ref fa) →
      ∃ fd : FuncData, (∀ (s : Shared) (u : Value), BindsTo s fd ⟨[u], []⟩ [("_law_script", u)]) ∧ ∀ base : Heap, (K w.params).In base → base.Ns mainGlobals mg → FnOk l.prog w (K w.params) mg base CX0 29 fa fd ["_law_script"] (Pu.sp_lawT (K w.params) [])) :
    PySem.W.WalkO q loose XP YP l.row.toRowW d [] (fun f vs => PySem.call f vs) :=
  L2.walk_of (n := 63) (k := 29) (x := "_law_script") (CX := fun _ => CX0) (sp := fun w => Pu.sp_lawT (K w.params) []) hn (by decide) hdf ⟨rfl, by decide, by decide⟩ hY F (fun _ _ a ns hl _ hS => ⟨a, ns, rfl, hS, hl, (fun _ h => nomatch h), fun _ => rfl⟩) fun _ _ _ _ _ z => z
end Ew
section
open PySem PySem.W PyProof.Rows
set_option maxRecDepth 100000 in
set_option maxHeartbeats 0 in
theorem Ew.last (hp : Ew.LawPure) : PySem.Challenge.rw_evenwires_k73_rows_and_loads_kept.Holds := by
  refine TopF.topK ?_
  k_fill
  refine Ew.walk (l := PySem.Challenge.rw_evenwires_k73_rows_and_loads_kept) rfl rfl (fun w h Y => PySem.W.kIn_of Y) ?F
  case F =>
    intro w mg fa h KX G hmg
    refine' Ew.all_mk hp KX G hmg ?a0 ?l0 ?c0 ?k0 ?a1 ?l1 ?c1 ?k1 ?a2 ?l2 ?c2 ?k2 ?a3 ?l3 ?c3 ?k3 ?a4 ?l4 ?c4 ?k4 ?a5 ?l5 ?c5 ?k5 ?a6 ?l6 ?c6 ?k6 ?a7 ?l7 ?c7 ?k7 ?a8 ?l8 ?c8 ?k8 ?a9 ?l9 ?c9 ?k9 ?a10 ?l10 ?c10 ?k10 ?a11 ?l11 ?c11 ?k11 ?a12 ?l12 ?c12 ?k12 ?a13 ?l13 ?c13 ?k13 ?a14 ?l14 ?c14 ?k14 ?a15 ?l15 ?c15 ?k15 ?a16 ?l16 ?c16 ?k16 ?a17 ?l17 ?c17 ?k17 ?a18 ?l18 ?c18 ?k18 ?a19 ?l19 ?c19 ?k19 ?a20 ?l20 ?c20 ?k20 ?a21 ?l21 ?c21 ?k21 ?a22 ?l22 ?c22 ?k22 ?a23 ?l23 ?c23 ?k23 ?a24 ?l24 ?c24 ?k24 ?a25 ?l25 ?c25 ?k25 ?a26 ?l26 ?c26 ?k26 ?a27 ?l27 ?c27 ?k27 ?a28 ?l28 ?c28 ?k28 ?a29 ?fn29 ?l29 ?c29 ?k29 ?a30 ?fn30 ?l30 ?c30 ?k30 ?a31 ?fn31 ?l31 ?c31 ?k31 ?t31 ?a32 ?fn32 ?l32 ?c32 ?k32 ?a33 ?fn33 ?l33 ?c33 ?k33 ?a34 ?fn34 ?l34 ?c34 ?k34 ?a35 ?fn35 ?l35 ?c35 ?k35 ?a36 ?fn36 ?l36 ?c36 ?k36 ?a37 ?fn37 ?l37 ?c37 ?k37 ?a38 ?fn38 ?l38 ?c38 ?k38 ?a39 ?fn39 ?l39 ?c39 ?k39 ?y_GRAIN ?y_MOST_ENDS ?z_sum ?z_list ?z_max ?z_min ?z_abs ?z_str ?z_isinstance ?z_int ?z_tuple ?z_len ?z_range ?z_bool ?ac_Knot ?kk_Knot ?ac_Grove ?kk_Grove ?pg_Knot ?hdd_Knot ?po_Knot ?sa_Knot ?mm_Knot ?nn_Knot_name ?nn_Knot_end ?nn_Knot_sides ?nn_Knot_above ?nn_Knot_stand ?nn_Knot_weight ?mo_Knot ?qe_Knot ?pg_Grove ?hdd_Grove ?po_Grove ?sa_Grove ?mm_Grove ?nn_Grove_knots ?nn_Grove_root ?nn_Grove_reckonings ?mo_Grove ?qe_Grove
    (case ac_Knot => k_is)
    (case ac_Grove => k_is)
    (case a0 => k_is)
    (case l0 => k_is)
    (case c0 => k_is)
    (case k0 => k_is)
    (case a1 => k_is)
    (case l1 => k_is)
    (case c1 => k_is)
    (case k1 => k_is)
    (case a2 => k_is)
    (case l2 => k_is)
    (case c2 => k_is)
    (case k2 => k_is)
    (case a3 => k_is)
    (case l3 => k_is)
    (case c3 => k_is)
    (case k3 => k_is)
    (case a4 => k_is)
    (case l4 => k_is)
    (case c4 => k_is)
    (case k4 => k_is)
    (case a5 => k_is)
    (case l5 => k_is)
    (case c5 => k_is)
    (case k5 => k_is)
    (case a6 => k_is)
    (case l6 => k_is)
    (case c6 => k_is)
    (case k6 => k_is)
    (case a7 => k_is)
    (case l7 => k_is)
    (case c7 => k_is)
    (case k7 => k_is)
    (case a8 => k_is)
    (case l8 => k_is)
    (case c8 => k_is)
    (case k8 => k_is)
    (case a9 => k_is)
    (case l9 => k_is)
    (case c9 => k_is)
    (case k9 => k_is)
    (case a10 => k_is)
    (case l10 => k_is)
    (case c10 => k_is)
    (case k10 => k_is)
    (case a11 => k_is)
    (case l11 => k_is)
    (case c11 => k_is)
    (case k11 => k_is)
    (case a12 => k_is)
    (case l12 => k_is)
    (case c12 => k_is)
    (case k12 => k_is)
    (case a13 => k_is)
    (case l13 => k_is)
    (case c13 => k_is)
    (case k13 => k_is)
    (case a14 => k_is)
    (case l14 => k_is)
    (case c14 => k_is)
    (case k14 => k_is)
    (case a15 => k_is)
    (case l15 => k_is)
    (case c15 => k_is)
    (case k15 => k_is)
    (case a16 => k_is)
    (case l16 => k_is)
    (case c16 => k_is)
    (case k16 => k_is)
    (case a17 => k_is)
    (case l17 => k_is)
    (case c17 => k_is)
    (case k17 => k_is)
    (case a18 => k_is)
    (case l18 => k_is)
    (case c18 => k_is)
    (case k18 => k_is)
    (case a19 => k_is)
    (case l19 => k_is)
    (case c19 => k_is)
    (case k19 => k_is)
    (case a20 => k_is)
    (case l20 => k_is)
    (case c20 => k_is)
    (case k20 => k_is)
    (case a21 => k_is)
    (case l21 => k_is)
    (case c21 => k_is)
    (case k21 => k_is)
    (case a22 => k_is)
    (case l22 => k_is)
    (case c22 => k_is)
    (case k22 => k_is)
    (case a23 => k_is)
    (case l23 => k_is)
    (case c23 => k_is)
    (case k23 => k_is)
    (case a24 => k_is)
    (case l24 => k_is)
    (case c24 => k_is)
    (case k24 => k_is)
    (case a25 => k_is)
    (case l25 => k_is)
    (case c25 => k_is)
    (case k25 => k_is)
    (case a26 => k_is)
    (case l26 => k_is)
    (case c26 => k_is)
    (case k26 => k_is)
    (case a27 => k_is)
    (case l27 => k_is)
    (case c27 => k_is)
    (case k27 => k_is)
    (case a28 => k_is)
    (case l28 => k_is)
    (case c28 => k_is)
    (case k28 => k_is)
    (case a29 => k_is)
    (case fn29 => k_is)
    (case l29 => k_is)
    (case c29 => k_is)
    (case k29 => k_is)
    (case a30 => k_is)
    (case fn30 => k_is)
    (case l30 => k_is)
    (case c30 => k_is)
    (case k30 => k_is)
    (case a31 => k_is)
    (case fn31 => k_is)
    (case l31 => k_is)
    (case c31 => k_is)
    (case k31 => k_is)
    (case t31 => k_is)
    (case a32 => k_is)
    (case fn32 => k_is)
    (case l32 => k_is)
    (case c32 => k_is)
    (case k32 => k_is)
    (case a33 => k_is)
    (case fn33 => k_is)
    (case l33 => k_is)
    (case c33 => k_is)
    (case k33 => k_is)
    (case a34 => k_is)
    (case fn34 => k_is)
    (case l34 => k_is)
    (case c34 => k_is)
    (case k34 => k_is)
    (case a35 => k_is)
    (case fn35 => k_is)
    (case l35 => k_is)
    (case c35 => k_is)
    (case k35 => k_is)
    (case a36 => k_is)
    (case fn36 => k_is)
    (case l36 => k_is)
    (case c36 => k_is)
    (case k36 => k_is)
    (case a37 => k_is)
    (case fn37 => k_is)
    (case l37 => k_is)
    (case c37 => k_is)
    (case k37 => k_is)
    (case a38 => k_is)
    (case fn38 => k_is)
    (case l38 => k_is)
    (case c38 => k_is)
    (case k38 => k_is)
    (case a39 => k_is)
    (case fn39 => k_is)
    (case l39 => k_is)
    (case c39 => k_is)
    (case k39 => k_is)
    (case y_GRAIN => k_is)
    (case y_MOST_ENDS => k_is)
    (case z_sum => k_is)
    (case z_list => k_is)
    (case z_max => k_is)
    (case z_min => k_is)
    (case z_abs => k_is)
    (case z_str => k_is)
    (case z_isinstance => k_is)
    (case z_int => k_is)
    (case z_tuple => k_is)
    (case z_len => k_is)
    (case z_range => k_is)
    (case z_bool => k_is)
    (case kk_Knot => k_is)
    (case kk_Grove => k_is)
    (case pg_Knot => k_is)
    (case hdd_Knot => k_is)
    (case po_Knot => k_is)
    (case sa_Knot => k_is)
    (case mm_Knot => k_is)
    (case nn_Knot_name => k_is)
    (case nn_Knot_end => k_is)
    (case nn_Knot_sides => k_is)
    (case nn_Knot_above => k_is)
    (case nn_Knot_stand => k_is)
    (case nn_Knot_weight => k_is)
    (case mo_Knot => k_is)
    (case qe_Knot => k_is)
    (case pg_Grove => k_is)
    (case hdd_Grove => k_is)
    (case po_Grove => k_is)
    (case sa_Grove => k_is)
    (case mm_Grove => k_is)
    (case nn_Grove_knots => k_is)
    (case nn_Grove_root => k_is)
    (case nn_Grove_reckonings => k_is)
    (case mo_Grove => k_is)
    (case qe_Grove => k_is)
end
namespace Ew
open PySem PySem.Spec PyProof.Rows L2 Pu
variable [Tbs]
section
local macro_rules | `(tactic| walk_at "pscall") => `(tactic| fail)
local macro_rules | `(tactic| walk_at "psside") => `(tactic| first
  | exact Or.inl ⟨by decide, by decide⟩
  | exact Or.inr ⟨by decide, by decide⟩
  | exact ⟨by decide, by decide, by decide⟩
  | exact ⟨by decide, by decide⟩
  | decide
  | omega
  | (unfold CMul; omega)
  | (unfold CDiv; omega))
local macro_rules | `(tactic| walk_at "ps") => `(tactic| first
  | with_reducible refine nx_i ?_
  | ((with_reducible refine' eV_i ?ps1 ?_); (case ps1 => exact rfl))
  | with_reducible refine aCons_i ?_
  | with_reducible refine eOp_i ?_
  | with_reducible refine aNil_i ?_
  | with_reducible refine eC_i ?_
  | with_reducible refine eCall_i ?_
  | with_reducible refine rt_i ?_
  | with_reducible refine gtName_i ?_
  | ((with_reducible refine' and_rfl ?ps1 ?_); (case ps1 => exact rfl))
  | with_reducible refine gtCons_i ?_
  | with_reducible refine blK_i ?_
  | with_reducible refine sSet_i ?_
  | with_reducible refine tOf_i ?_
  | with_reducible refine sSeq_set ?_
  | ((with_reducible refine' and_le ?ps1 ?_); (case ps1 => exact rfl))
  | with_reducible refine sRet_i ?_
  | with_reducible refine sSeq_setM ?_
  | with_reducible refine sSetM_i ?_
  | ((with_reducible refine' sDput_i ?ps1 ?_); (case ps1 => exact rfl))
  | ((with_reducible refine' eO_d ?ps1 ?_); (case ps1 => exact rfl))
  | with_reducible refine dDin_i ?_
  | with_reducible refine mE_i ?_
  | with_reducible refine mLst_i ?_
  | with_reducible refine mTup_i ?_
  | with_reducible refine mCons_i ?_
  | with_reducible refine mNil_i ?_
  | ((with_reducible refine' mPop_i ?ps1 ?_); (case ps1 => exact rfl))
  | ((with_reducible refine' mPop0_i ?ps1 ?_); (case ps1 => exact rfl))
  | with_reducible refine sSeq_ifr ?_
  | with_reducible refine sSeq_asg ?_
  | with_reducible refine sSeq_own ?_
  | with_reducible refine sSeq_app ?_
  | with_reducible refine sSeq_for ?_
  | with_reducible refine sSeq_par ?_
  | with_reducible refine sSeq_drop ?_
  | with_reducible refine sSeq_put ?_
  | with_reducible refine sSeq_pop ?_
  | with_reducible refine sSeq_ifn ?_
  | ((with_reducible refine' dIx_t ?ps1 ?_); (case ps1 => exact rfl))
  | with_reducible refine dI0_i ?_
  | with_reducible refine dAdd_i ?_
  | with_reducible refine dEq_int ?_
  | with_reducible refine dNe_int ?_
  | walk_at "pscall"
  | with_reducible refine sNext_i ?_
  | with_reducible refine eTup_i ?_
  | with_reducible refine sIf_i ?_
  | with_reducible refine tAndP_i ?_
  | with_reducible refine tOrP_i ?_
  | with_reducible refine tNotP_i ?_
  | with_reducible refine gMax_2 ?_
  | with_reducible refine gMin_2 ?_
  | with_reducible refine gMax_3 ?_
  | with_reducible refine gMin_3 ?_
  | with_reducible refine gMax_4 ?_
  | with_reducible refine gMin_4 ?_
  | with_reducible refine gMax_5 ?_
  | with_reducible refine gAbs_i ?_
  | with_reducible refine gLen_t ?_
  | with_reducible refine gLen_l ?_
  | with_reducible refine gInt_i ?_
  | with_reducible refine gInt_b ?_
  | ((with_reducible refine' gIsi_i ?ps1 ?ps2 ?_); (case ps1 => exact rfl); (case ps2 => exact rfl))
  | with_reducible refine sAsg_i ?_
  | ((with_reducible refine' gtTup_i ?ps1 ?_); (case ps1 => exact rfl))
  | with_reducible refine gtNil_i ?_
  | with_reducible refine sPar_i ?_
  | with_reducible refine prK_i ?_
  | with_reducible refine inK_i ?_
  | with_reducible refine sqK_t ?_
  | with_reducible refine sqK_l ?_
  | with_reducible refine bk_i ?_
  | with_reducible refine ct_i ?_
  | with_reducible refine eUn_i ?_
  | with_reducible refine dNeg_i ?_
  | with_reducible refine dNot_i ?_
  | with_reducible refine eAnd_i ?_
  | with_reducible refine eOr_i ?_
  | with_reducible refine eChain_i ?_
  | with_reducible refine eIf_i ?_
  | ((with_reducible refine' dIx_l ?ps1 ?_); (case ps1 => exact rfl))
  | with_reducible refine eLst_i ?_
  | with_reducible refine dTuple_l ?_
  | with_reducible refine dTuple_t ?_
  | with_reducible refine dList_l ?_
  | with_reducible refine dList_t ?_
  | ((with_reducible refine' eO_i ?ps1 ?_); (case ps1 => exact rfl))
  | with_reducible refine sOwn_i ?_
  | ((with_reducible refine' and_lt ?ps1 ?_); (case ps1 => exact rfl))
  | ((with_reducible refine' sAppend_i ?ps1 ?_); (case ps1 => exact rfl))
  | ((with_reducible refine' sFrz_i ?ps1 ?_); (case ps1 => exact rfl))
  | ((with_reducible refine' sRetO_i ?ps1 ?_); (case ps1 => exact rfl))
  | with_reducible refine sRetN_i ?_
  | with_reducible refine sDrop_i ?_
  | with_reducible refine sFor_i ?_
  | with_reducible refine iRange1_i ?_
  | with_reducible refine iRange2_i ?_
  | with_reducible refine iSeq_i ?_
  | with_reducible refine iEnumS_i ?_
  | with_reducible refine iEnum0_i ?_
  | with_reducible refine en0K_t ?_
  | with_reducible refine en0K_l ?_
  | with_reducible refine iRev1_i ?_
  | with_reducible refine sSeq_ins ?_
  | with_reducible refine sSeq_aug ?_
  | ((with_reducible refine' sAug_i ?ps1 ?_); (case ps1 => exact rfl))
  | ((with_reducible refine' sInsert_i ?ps1 ?_); (case ps1 => exact rfl))
  | ((with_reducible refine' sPopAt_i ?ps1 ?_); (case ps1 => exact rfl))
  | with_reducible refine eSl_i ?_
  | with_reducible refine eLc_i ?_
  | with_reducible refine eLc2_i ?_
  | with_reducible refine oNo_i ?_
  | with_reducible refine oPart_i ?_
  | with_reducible refine dSl_t ?_
  | with_reducible refine dSl_l ?_
  | with_reducible refine dRevL_i ?_
  | with_reducible refine eRg1_i ?_
  | with_reducible refine bCase_t ?_
  | with_reducible refine bCase_f ?_
  | with_reducible refine ite_t ?_
  | with_reducible refine ite_f ?_
  | with_reducible refine ite_nt ?_
  | with_reducible refine ite_nf ?_
  | ((with_reducible refine' dII_i ?ps1 ?_); (case ps1 => walk_at "psside")))
local macro_rules | `(tactic| walk_at "psenv") => `(tactic| simp only [List.map_cons, List.map_nil, List.cons_append, List.nil_append, List.length_cons, List.length_nil, Nat.reduceAdd, Nat.reduceSub, List.replicate])
/-! ends, as the law draws them -/
structure En where
  (x y s l : Int)
abbrev enD (e : En) : D := .tup [.int e.x, .int e.y, .int e.s, .int e.l]
def OkI (x : Int) : Prop := -1000000 ≤ x ∧ x ≤ 1000000
def OkE (e : En) : Prop := OkI e.x ∧ OkI e.y ∧ 0 ≤ e.s ∧ e.s ≤ 1000000 ∧ 0 ≤ e.l ∧ e.l ≤ 1000000
theorem draw_i {m : Int} {k : D → Prop} (m0 : 0 < m) (m1 : m < 1073741824) (h : ∀ t : Int, 0 ≤ t → t < m → k (.int t)) : wp__law_draw [.deck 1, .int m] k := ⟨⟨m0, m1⟩, h⟩
theorem at_nat {α : Type} {xs : List α} {i : Int} {d : α} (h0 : 0 ≤ i) (h : xs[i.toNat]? = some d) : atI xs i = some d := by
  have hl : i.toNat < xs.length := (List.getElem?_eq_some_iff.mp h).1
  unfold atI ixN
  rw [if_pos h0, if_pos (by omega)]
  exact h
/-! rows of ends -/
def U (e : En) : Int := 2 * (e.x + e.y)
def Vv (e : En) : Int := 2 * (e.x - e.y)
def want (p q : En) : Int := p.s + q.s + (max (p.x - q.x) (-(p.x - q.x)) + max (p.y - q.y) (-(p.y - q.y)))
abbrev bxD (a b c d : Int) : D := .tup [.int a, .int b, .int c, .int d]
theorem spot_of_i {x y : Int} {k : D → Prop} (h : k (.tup [.int (2 * (x + y)), .int (2 * (x - y))])) : wp_spot_of [.int 2, .int x, .int y] k := by
  unfold wp_spot_of wpOf
  walk_at "psenv"
  unfold P_spot_of
  repeat walk_at "ps"
  exact h
theorem grown_i {a b c d r : Int} {k : D → Prop} (h : k (bxD (a - r) (b + r) (c - r) (d + r))) : wp_grown [bxD a b c d, .int r] k := by
  unfold wp_grown wpOf
  walk_at "psenv"
  unfold P_grown
  repeat walk_at "ps"
  exact h
theorem met_i {a b c d a' b' c' d' : Int} {k : D → Prop} (h1 : max a a' ≤ min b b') (h2 : max c c' ≤ min d d') (h : k (bxD (max a a') (min b b') (max c c') (min d d'))) : wp_met [bxD a b c d, bxD a' b' c' d'] k := by
  unfold wp_met wpOf
  walk_at "psenv"
  unfold P_met
  repeat walk_at "ps"
  refine ite_d (fun q => absurd q (by omega)) (fun _ => ?_)
  repeat walk_at "ps"
  refine ite_d (fun q => absurd q (by omega)) (fun _ => ?_)
  repeat walk_at "ps"
  exact h
theorem steps_i {a b c d : Int} {k : D → Prop} (h : k (.int (max (a - c) (-(a - c)) + max (b - d) (-(b - d))))) : wp_steps [.tup [.int a, .int b], .tup [.int c, .int d]] k := by
  unfold wp_steps wpOf
  walk_at "psenv"
  unfold P_steps
  repeat walk_at "ps"
  exact h
theorem atE {es : List En} {i : Int} {p : En} (i0 : 0 ≤ i) (hp : es[i.toNat]? = some p) : atI (es.map enD) i = some (enD p) := at_nat i0 (by rw [List.getElem?_map, hp]; rfl)
theorem wanted_i {es : List En} {i j : Int} {p q : En} {k : D → Prop} (i0 : 0 ≤ i) (j0 : 0 ≤ j) (hp : es[i.toNat]? = some p) (hq : es[j.toNat]? = some q) (h : k (.int (want p q))) : wp_wanted [.tup (es.map enD), .int i, .int j] k := by
  unfold wp_wanted wpOf
  walk_at "psenv"
  unfold P_wanted
  repeat walk_at "ps"
  refine dIx_t (atE i0 hp) ?_
  repeat walk_at "ps"
  refine dIx_t (atE j0 hq) ?_
  repeat walk_at "ps"
  exact steps_i h
theorem reached_i {e : En} {r : Int} {k : D → Prop} (h : k (bxD (U e - (r - 2 * e.s)) (U e + (r - 2 * e.s)) (Vv e - (r - 2 * e.s)) (Vv e + (r - 2 * e.s)))) : wp_reached [enD e, .int r] k := by
  unfold wp_reached wpOf
  walk_at "psenv"
  unfold P_reached
  repeat walk_at "ps"
  refine spot_of_i ?_
  repeat walk_at "ps"
  exact grown_i h
def hF (l : List En) : Int := maxI (l.flatMap fun p => l.map fun q => want p q)
def loU (h : Int) (l : List En) : Int := maxI (l.map fun p => U p - (h - 2 * p.s))
def hiU (h : Int) (l : List En) : Int := minI (l.map fun p => U p + (h - 2 * p.s))
def loV (h : Int) (l : List En) : Int := maxI (l.map fun p => Vv p - (h - 2 * p.s))
def hiV (h : Int) (l : List En) : Int := minI (l.map fun p => Vv p + (h - 2 * p.s))
def boxD (h : Int) (l : List En) : D := bxD (loU h l) (hiU h l) (loV h l) (hiV h l)
def rowD (l : List En) : D := .tup [.int (hF l), boxD (hF l) l]
theorem want_le {l : List En} {p q : En} (hp : p ∈ l) (hq : q ∈ l) : want p q ≤ hF l := maxI_le (List.mem_flatMap.mpr ⟨p, hp, List.mem_map.mpr ⟨q, hq, rfl⟩⟩)
theorem hF_mem {l : List En} (h : l ≠ []) : ∃ p ∈ l, ∃ q ∈ l, hF l = want p q := by
  have hne : (l.flatMap fun p => l.map fun q => want p q) ≠ [] := by
    cases l with
    | nil => exact absurd rfl h
    | cons a r => simp
  obtain ⟨p, hp, hx⟩ := List.mem_flatMap.mp (maxI_mem hne)
  obtain ⟨q, hq, e⟩ := List.mem_map.mp hx
  exact ⟨p, hp, q, hq, e.symm⟩
theorem uu {p q : En} {h : Int} (hw : want p q ≤ h) : U p - (h - 2 * p.s) ≤ U q + (h - 2 * q.s) ∧ Vv p - (h - 2 * p.s) ≤ Vv q + (h - 2 * q.s) := by
  unfold want at hw
  unfold U Vv
  omega
theorem mm {l : List En} {f g : En → Int} (hl : l ≠ []) (h : ∀ p ∈ l, ∀ q ∈ l, f p ≤ g q) : maxI (l.map f) ≤ minI (l.map g) := by
  have h1 := maxI_mem (ns := l.map f) (by simpa using hl)
  have h2 := minI_mem (ns := l.map g) (by simpa using hl)
  obtain ⟨p, hp, e1⟩ := List.mem_map.mp h1
  obtain ⟨q, hq, e2⟩ := List.mem_map.mp h2
  rw [← e1, ← e2]
  exact h p hp q hq
/-- which of the ends, by their numbers -/
def Sel (es : List En) (ps : List (Int × En)) : Prop := ∀ p ∈ ps, 0 ≤ p.1 ∧ es[p.1.toNat]? = some p.2
theorem intsD_fl (ps : List (Int × En)) (f : Int × En → Int × En → Int) : intsD (ps.flatMap fun x => ps.map fun y => D.int (f x y)) = some (ps.flatMap fun x => ps.map fun y => f x y) := by
  have : (ps.flatMap fun x => ps.map fun y => D.int (f x y)) = (ps.flatMap fun x => ps.map fun y => f x y).map D.int := by
    rw [List.map_flatMap]
    congr 1
    funext x
    rw [List.map_map]
    rfl
  rw [this]
  exact intsD_map _
theorem cut_tail {x : D} {xs : List D} : Pu.cutD (x :: xs) (some 1) none = xs := by
  unfold Pu.cutD
  have h1 : HT.sIx (x :: xs).length 0 (some 1) = 1 := by
    have := HT.sIx_nat (x :: xs).length 0 1
    rw [show ((1 : Nat) : Int) = 1 from rfl] at this
    rw [this, List.length_cons]
    omega
  rw [h1, HT.sIx_none, List.drop_one, List.tail_cons, List.length_cons]
  simp
theorem height_of_i {es : List En} {ps : List (Int × En)} {k : D → Prop} (hs : Sel es ps) (h0 : ps ≠ []) (hl : ps.length ≤ 100) (h : k (.int (hF (ps.map Prod.snd)))) : wp_height_of [.tup (es.map enD), .tup (ps.map fun p => .int p.1)] k := by
  unfold wp_height_of wpOf
  walk_at "psenv"
  unfold P_height_of
  repeat walk_at "ps"
  refine ⟨by simp [noOwn], ?_⟩
  refine lcP2_m (fun p : Int × En => D.int p.1) ps (fun p q => D.int (want p.2 q.2)) ps (Nat.le_trans (Nat.mul_le_mul hl hl) (by decide)) ?_ ?_
  · intro p hp acc A B hacc hA
    repeat walk_at "ps"
    refine ⟨by simp [noOwn, wipeE], ?_⟩
    refine lcP_ma (fun p : Int × En => D.int p.1) (fun q => D.int (want p.2 q.2)) ps acc hacc ?_ hA
    intro q hq A B hA
    repeat walk_at "ps"
    exact wanted_i (hs p hp).1 (hs q hq).1 (hs p hp).2 (hs q hq).2 hA
  repeat walk_at "ps"
  refine gMaxL_i (intsD_fl ps fun p q => want p.2 q.2) ?_ ?_
  · cases ps with
    | nil => exact absurd rfl h0
    | cons a r => simp
  have hh : maxI (ps.flatMap fun p => ps.map fun q => want p.2 q.2) = hF (ps.map Prod.snd) := by
    unfold hF
    rw [List.flatMap_map]
    congr 1
    congr 1
    funext p
    rw [List.map_map]
    rfl
  rw [hh]
  exact h
theorem row_of_i {es : List En} {ps : List (Int × En)} {k : D → Prop} (hs : Sel es ps) (h0 : ps ≠ []) (hl : ps.length ≤ 100) (h : k (rowD (ps.map Prod.snd))) : wp_row_of [.tup (es.map enD), .tup (ps.map fun p => .int p.1)] k := by
  unfold wp_row_of wpOf
  walk_at "psenv"
  unfold P_row_of
  repeat walk_at "ps"
  refine height_of_i hs h0 hl ?_
  obtain ⟨p0, pr, rfl⟩ : ∃ p0 pr, ps = p0 :: pr := by
    cases ps with
    | nil => exact absurd rfl h0
    | cons a r => exact ⟨a, r, rfl⟩
  have h : k (.tup [.int (hF ((p0 :: pr).map Prod.snd)), boxD (hF ((p0 :: pr).map Prod.snd)) ((p0 :: pr).map Prod.snd)]) := h
  have hwl : ∀ p ∈ (p0 :: pr).map Prod.snd, ∀ q ∈ (p0 :: pr).map Prod.snd, want p q ≤ hF ((p0 :: pr).map Prod.snd) := fun p hp q hq => want_le hp hq
  generalize hF ((p0 :: pr).map Prod.snd) = hh' at *
  repeat walk_at "ps"
  refine dIx_t (at_nat (d := .int p0.1) (by decide) rfl) ?_
  refine dIx_t (atE (hs p0 List.mem_cons_self).1 (hs p0 List.mem_cons_self).2) ?_
  repeat walk_at "ps"
  refine reached_i ?_
  repeat walk_at "ps"
  rw [List.map_cons, cut_tail]
  refine forP_i (fun i env => ∃ (pre : List En) (v6 : SV), env = [SV.val (.tup (es.map enD)), SV.val (.tup ((p0 :: pr).map fun p => .int p.1)), SV.val (.int hh'), SV.val (boxD hh' pre), v6] ∧ pre = p0.2 :: (pr.map Prod.snd).take i) _ 0 ⟨[p0.2], _, rfl, by simp⟩ ?_ ?_
  · rintro i d env hd ⟨pre, v6, rfl, hpre⟩ N hN
    rw [List.getElem?_map] at hd
    cases hq : pr[i]? with
    | none => rw [hq] at hd; cases hd
    | some q =>
      rw [hq] at hd
      cases hd
      have hqm : q ∈ p0 :: pr := List.mem_cons_of_mem _ (List.mem_of_getElem? hq)
      have hsub : ∀ p ∈ pre ++ [q.2], p ∈ (p0 :: pr).map Prod.snd := by
        intro p hp
        rw [hpre] at hp
        rcases List.mem_append.mp hp with w | w
        · rcases List.mem_cons.mp w with w | w
          · rw [w]; exact List.mem_map.mpr ⟨p0, List.mem_cons_self, rfl⟩
          · exact List.mem_cons_of_mem _ (List.mem_of_mem_take w)
        · rw [List.mem_singleton.mp w]; exact List.mem_map.mpr ⟨q, hqm, rfl⟩
      have hne : pre ≠ [] := by rw [hpre]; simp
      have hall : ∀ p ∈ pre ++ [q.2], ∀ r ∈ pre ++ [q.2], want p r ≤ hh' := fun p hp r hr => hwl p (hsub p hp) r (hsub r hr)
      have n1 := mm (l := pre ++ [q.2]) (f := fun p => U p - (hh' - 2 * p.s)) (g := fun p => U p + (hh' - 2 * p.s)) (by simp) fun p hp r hr => (uu (hall p hp r hr)).1
      have n2 := mm (l := pre ++ [q.2]) (f := fun p => Vv p - (hh' - 2 * p.s)) (g := fun p => Vv p + (hh' - 2 * p.s)) (by simp) fun p hp r hr => (uu (hall p hp r hr)).2
      rw [List.map_append, List.map_append, List.map_singleton, List.map_singleton, maxI_snoc (by simpa using hne), minI_snoc (by simpa using hne)] at n1 n2
      repeat walk_at "ps"
      refine dIx_t (atE (hs q hqm).1 (hs q hqm).2) ?_
      repeat walk_at "ps"
      refine reached_i ?_
      repeat walk_at "ps"
      refine met_i n1 n2 ?_
      repeat walk_at "ps"
      refine hN _ ⟨pre ++ [q.2], SV.val (.int q.1), ?_, ?_⟩
      · unfold boxD loU hiU loV hiV
        rw [List.map_append, List.map_append, List.map_append, List.map_append, List.map_singleton, List.map_singleton, List.map_singleton, List.map_singleton, maxI_snoc (by simpa using hne), minI_snoc (by simpa using hne), maxI_snoc (by simpa using hne), minI_snoc (by simpa using hne)]
        rfl
      · rw [hpre, show 0 + i + 1 = i + 1 by omega, List.take_add_one, List.getElem?_map, hq, show 0 + i = i by omega]
        rfl
  · rintro env ⟨pre, v6, rfl, hpre⟩
    rw [List.length_map, Nat.zero_add, List.take_of_length_le (by simp)] at hpre
    repeat walk_at "ps"
    rw [hpre]
    exact h
theorem intsD_m {α : Type} (l : List α) (f : α → Int) : intsD (l.map fun x => D.int (f x)) = some (l.map f) := by
  have : (l.map fun x => D.int (f x)) = (l.map f).map D.int := by rw [List.map_map]; rfl
  rw [this]
  exact intsD_map _
/-! the box of a row -/
structure Bok (l : List En) (h a b c d : Int) : Prop where
  ab : a ≤ b
  cd : c ≤ d
  flat : min (b - a) (d - c) ≤ 0
  a_le : ∀ e ∈ l, U e - (h - 2 * e.s) ≤ a
  b_le : ∀ e ∈ l, b ≤ U e + (h - 2 * e.s)
  c_le : ∀ e ∈ l, Vv e - (h - 2 * e.s) ≤ c
  d_le : ∀ e ∈ l, d ≤ Vv e + (h - 2 * e.s)
  a_at : ∃ e ∈ l, U e - (h - 2 * e.s) = a
  b_at : ∃ e ∈ l, U e + (h - 2 * e.s) = b
  c_at : ∃ e ∈ l, Vv e - (h - 2 * e.s) = c
  d_at : ∃ e ∈ l, Vv e + (h - 2 * e.s) = d
theorem bok {l : List En} (h0 : l ≠ []) : Bok l (hF l) (loU (hF l) l) (hiU (hF l) l) (loV (hF l) l) (hiV (hF l) l) := by
  have ne : ∀ f : En → Int, l.map f ≠ [] := fun f => by simpa using h0
  have at1 : ∀ f : En → Int, ∃ e ∈ l, f e = maxI (l.map f) := fun f => by
    obtain ⟨e, he, q⟩ := List.mem_map.mp (maxI_mem (ne f)); exact ⟨e, he, q⟩
  have at2 : ∀ f : En → Int, ∃ e ∈ l, f e = minI (l.map f) := fun f => by
    obtain ⟨e, he, q⟩ := List.mem_map.mp (minI_mem (ne f)); exact ⟨e, he, q⟩
  have le1 : ∀ (f : En → Int), ∀ e ∈ l, f e ≤ maxI (l.map f) := fun f e he => maxI_le (List.mem_map.mpr ⟨e, he, rfl⟩)
  have le2 : ∀ (f : En → Int), ∀ e ∈ l, minI (l.map f) ≤ f e := fun f e he => minI_le (List.mem_map.mpr ⟨e, he, rfl⟩)
  have hab : loU (hF l) l ≤ hiU (hF l) l := mm h0 fun p hp q hq => (uu (want_le hp hq)).1
  have hcd : loV (hF l) l ≤ hiV (hF l) l := mm h0 fun p hp q hq => (uu (want_le hp hq)).2
  refine ⟨hab, hcd, ?_, le1 _, le2 _, le1 _, le2 _, at1 _, at2 _, at1 _, at2 _⟩
  obtain ⟨p, hp, q, hq, e⟩ := hF_mem h0
  have a1 : U p - (hF l - 2 * p.s) ≤ loU (hF l) l := le1 (fun p => U p - (hF l - 2 * p.s)) p hp
  have a2 : U q - (hF l - 2 * q.s) ≤ loU (hF l) l := le1 (fun p => U p - (hF l - 2 * p.s)) q hq
  have b1 : hiU (hF l) l ≤ U p + (hF l - 2 * p.s) := le2 (fun p => U p + (hF l - 2 * p.s)) p hp
  have b2 : hiU (hF l) l ≤ U q + (hF l - 2 * q.s) := le2 (fun p => U p + (hF l - 2 * p.s)) q hq
  have c1 : Vv p - (hF l - 2 * p.s) ≤ loV (hF l) l := le1 (fun p => Vv p - (hF l - 2 * p.s)) p hp
  have c2 : Vv q - (hF l - 2 * q.s) ≤ loV (hF l) l := le1 (fun p => Vv p - (hF l - 2 * p.s)) q hq
  have d1 : hiV (hF l) l ≤ Vv p + (hF l - 2 * p.s) := le2 (fun p => Vv p + (hF l - 2 * p.s)) p hp
  have d2 : hiV (hF l) l ≤ Vv q + (hF l - 2 * q.s) := le2 (fun p => Vv p + (hF l - 2 * p.s)) q hq
  generalize hF l = h at *
  generalize loU h l = a at *
  generalize hiU h l = b at *
  generalize loV h l = c at *
  generalize hiV h l = d at *
  unfold want at e
  unfold U Vv at *
  omega
/-! two rows joined -/
theorem apart_i {a b c d a' b' c' d' : Int} {k : D → Prop} (h : k (.int (max 0 (max (a - b') (max (a' - b) (max (c - d') (c' - d))))))) : wp_apart [bxD a b c d, bxD a' b' c' d'] k := by
  unfold wp_apart wpOf
  walk_at "psenv"
  unfold P_apart
  repeat walk_at "ps"
  exact h
theorem maxI_app {xs ys : List Int} (hx : xs ≠ []) (hy : ys ≠ []) : maxI (xs ++ ys) = max (maxI xs) (maxI ys) := by
  symm
  apply maxI_eq
  · rcases Int.le_total (maxI xs) (maxI ys) with q | q
    · rw [Int.max_eq_right q]; exact List.mem_append_right _ (maxI_mem hy)
    · rw [Int.max_eq_left q]; exact List.mem_append_left _ (maxI_mem hx)
  · intro y h
    rcases List.mem_append.mp h with q | q
    · exact Int.le_trans (maxI_le q) (Int.le_max_left ..)
    · exact Int.le_trans (maxI_le q) (Int.le_max_right ..)
theorem minI_app {xs ys : List Int} (hx : xs ≠ []) (hy : ys ≠ []) : minI (xs ++ ys) = min (minI xs) (minI ys) := by
  symm
  apply minI_eq
  · rcases Int.le_total (minI xs) (minI ys) with q | q
    · rw [Int.min_eq_left q]; exact List.mem_append_left _ (minI_mem hx)
    · rw [Int.min_eq_right q]; exact List.mem_append_right _ (minI_mem hy)
  · intro y h
    rcases List.mem_append.mp h with q | q
    · exact Int.le_trans (Int.min_le_left ..) (minI_le q)
    · exact Int.le_trans (Int.min_le_right ..) (minI_le q)
theorem maxI_sh {l : List En} {f g : En → Int} {c : Int} (h0 : l ≠ []) (h : ∀ e, g e = f e + c) : maxI (l.map g) = maxI (l.map f) + c := by
  symm
  apply maxI_eq
  · obtain ⟨e, he, q⟩ := List.mem_map.mp (maxI_mem (ns := l.map f) (by simpa using h0))
    exact List.mem_map.mpr ⟨e, he, by rw [h, q]⟩
  · intro y hy
    obtain ⟨e, he, rfl⟩ := List.mem_map.mp hy
    have := maxI_le (ns := l.map f) (List.mem_map.mpr ⟨e, he, rfl⟩)
    rw [h]; omega
theorem minI_sh {l : List En} {f g : En → Int} {c : Int} (h0 : l ≠ []) (h : ∀ e, g e = f e + c) : minI (l.map g) = minI (l.map f) + c := by
  symm
  apply minI_eq
  · obtain ⟨e, he, q⟩ := List.mem_map.mp (minI_mem (ns := l.map f) (by simpa using h0))
    exact List.mem_map.mpr ⟨e, he, by rw [h, q]⟩
  · intro y hy
    obtain ⟨e, he, rfl⟩ := List.mem_map.mp hy
    have := minI_le (ns := l.map f) (List.mem_map.mpr ⟨e, he, rfl⟩)
    rw [h]; omega
theorem loU_sh {l : List En} {h h' : Int} (h0 : l ≠ []) : loU h' l = loU h l - (h' - h) := by
  unfold loU; rw [maxI_sh (f := fun p => U p - (h - 2 * p.s)) (c := -(h' - h)) h0 (fun e => by omega)]; omega
theorem hiU_sh {l : List En} {h h' : Int} (h0 : l ≠ []) : hiU h' l = hiU h l + (h' - h) := by
  unfold hiU; rw [minI_sh (f := fun p => U p + (h - 2 * p.s)) (c := h' - h) h0 (fun e => by omega)]
theorem loV_sh {l : List En} {h h' : Int} (h0 : l ≠ []) : loV h' l = loV h l - (h' - h) := by
  unfold loV; rw [maxI_sh (f := fun p => Vv p - (h - 2 * p.s)) (c := -(h' - h)) h0 (fun e => by omega)]; omega
theorem hiV_sh {l : List En} {h h' : Int} (h0 : l ≠ []) : hiV h' l = hiV h l + (h' - h) := by
  unfold hiV; rw [minI_sh (f := fun p => Vv p + (h - 2 * p.s)) (c := h' - h) h0 (fun e => by omega)]
theorem lo_app {A B : List En} {h : Int} (hA : A ≠ []) (hB : B ≠ []) : loU h (A ++ B) = max (loU h A) (loU h B) ∧ hiU h (A ++ B) = min (hiU h A) (hiU h B) ∧ loV h (A ++ B) = max (loV h A) (loV h B) ∧ hiV h (A ++ B) = min (hiV h A) (hiV h B) := by
  unfold loU hiU loV hiV
  refine ⟨?_, ?_, ?_, ?_⟩
  · rw [List.map_append]; exact maxI_app (by simpa using hA) (by simpa using hB)
  · rw [List.map_append]; exact minI_app (by simpa using hA) (by simpa using hB)
  · rw [List.map_append]; exact maxI_app (by simpa using hA) (by simpa using hB)
  · rw [List.map_append]; exact minI_app (by simpa using hA) (by simpa using hB)
theorem want_comm (p q : En) : want p q = want q p := by unfold want; omega
theorem cross {A B : List En} {hA hB a b c d a' b' c' d' : Int} (BA : Bok A hA a b c d) (BB : Bok B hB a' b' c' d') {p q : En} (hp : p ∈ A) (hq : q ∈ B) : 2 * want p q ≤ hA + hB + max (a - b') (max (a' - b) (max (c - d') (c' - d))) := by
  have h1 := BA.a_le p hp
  have h2 := BA.b_le p hp
  have h3 := BA.c_le p hp
  have h4 := BA.d_le p hp
  have g1 := BB.a_le q hq
  have g2 := BB.b_le q hq
  have g3 := BB.c_le q hq
  have g4 := BB.d_le q hq
  unfold want
  unfold U Vv at *
  omega
theorem jh {A B : List En} (h0 : A ≠ []) (h1 : B ≠ []) {a b c d a' b' c' d' : Int} (BA : Bok A (hF A) a b c d) (BB : Bok B (hF B) a' b' c' d') :
    max (hF A) (max (hF B) ((hF A + hF B + max 0 (max (a - b') (max (a' - b) (max (c - d') (c' - d))))) / 2)) = hF (A ++ B) := by
  have inA : ∀ {p}, p ∈ A → p ∈ A ++ B := fun h => List.mem_append_left _ h
  have inB : ∀ {p}, p ∈ B → p ∈ A ++ B := fun h => List.mem_append_right _ h
  have l1 : hF A ≤ hF (A ++ B) := by
    obtain ⟨p, hp, q, hq, e⟩ := hF_mem h0
    rw [e]; exact want_le (inA hp) (inA hq)
  have l2 : hF B ≤ hF (A ++ B) := by
    obtain ⟨p, hp, q, hq, e⟩ := hF_mem h1
    rw [e]; exact want_le (inB hp) (inB hq)
  have l3 : hF A + hF B + (a - b') ≤ 2 * hF (A ++ B) := by
    obtain ⟨p, hp, e1⟩ := BA.a_at
    obtain ⟨q, hq, e2⟩ := BB.b_at
    have w := want_le (inA hp) (inB hq)
    unfold want at w
    unfold U at e1 e2
    omega
  have l4 : hF A + hF B + (a' - b) ≤ 2 * hF (A ++ B) := by
    obtain ⟨p, hp, e1⟩ := BA.b_at
    obtain ⟨q, hq, e2⟩ := BB.a_at
    have w := want_le (inA hp) (inB hq)
    unfold want at w
    unfold U at e1 e2
    omega
  have l5 : hF A + hF B + (c - d') ≤ 2 * hF (A ++ B) := by
    obtain ⟨p, hp, e1⟩ := BA.c_at
    obtain ⟨q, hq, e2⟩ := BB.d_at
    have w := want_le (inA hp) (inB hq)
    unfold want at w
    unfold Vv at e1 e2
    omega
  have l6 : hF A + hF B + (c' - d) ≤ 2 * hF (A ++ B) := by
    obtain ⟨p, hp, e1⟩ := BA.d_at
    obtain ⟨q, hq, e2⟩ := BB.c_at
    have w := want_le (inA hp) (inB hq)
    unfold want at w
    unfold Vv at e1 e2
    omega
  have u : hF (A ++ B) ≤ hF A ∨ hF (A ++ B) ≤ hF B ∨ 2 * hF (A ++ B) ≤ hF A + hF B + max (a - b') (max (a' - b) (max (c - d') (c' - d))) := by
    obtain ⟨p, hp, q, hq, e⟩ := hF_mem (l := A ++ B) (by simp [h0])
    rw [e]
    rcases List.mem_append.mp hp with hp | hp
    · rcases List.mem_append.mp hq with hq | hq
      · exact .inl (want_le hp hq)
      · exact .inr (.inr (cross BA BB hp hq))
    · rcases List.mem_append.mp hq with hq | hq
      · rw [want_comm]; exact .inr (.inr (cross BA BB hq hp))
      · exact .inr (.inl (want_le hp hq))
  generalize hF (A ++ B) = h at *
  generalize hF A = x at *
  generalize hF B = y at *
  omega
theorem joined_i {A B : List En} {k : D → Prop} (h0 : A ≠ []) (h1 : B ≠ []) (h : k (.tup [.int (hF (A ++ B)), boxD (hF (A ++ B)) (A ++ B), .int (hF (A ++ B) - hF A), .int (hF (A ++ B) - hF B)])) : wp_joined [rowD A, rowD B] k := by
  have BA := bok h0
  have BB := bok h1
  unfold wp_joined wpOf
  walk_at "psenv"
  unfold P_joined rowD boxD
  repeat walk_at "ps"
  refine apart_i ?_
  repeat walk_at "ps"
  rw [jh h0 h1 BA BB]
  refine grown_i ?_
  repeat walk_at "ps"
  refine grown_i ?_
  rw [← loU_sh h0, ← hiU_sh h0, ← loV_sh h0, ← hiV_sh h0, ← loU_sh h1, ← hiU_sh h1, ← loV_sh h1, ← hiV_sh h1]
  obtain ⟨e1, e2, e3, e4⟩ := lo_app (h := hF (A ++ B)) h0 h1
  have BC := bok (l := A ++ B) (by simp [h0])
  have n1 := BC.ab
  have n2 := BC.cd
  rw [e1, e2] at n1
  rw [e3, e4] at n2
  repeat walk_at "ps"
  refine met_i n1 n2 ?_
  rw [← e1, ← e2, ← e3, ← e4]
  repeat walk_at "ps"
  exact h
/-! walking readings of the state -/
section
variable {env : List SV} {K : PK'} {p q : PX} {pm qm : PMX} {P Q : PSt} {i c n : Nat} {f : Str} {po pk : PX} {ga : PAs} {gm : PMA} {s : PTs'} {sm tm : PMT} {d : D} {k : D → Prop} {km : List SV → D → Prop} {kt : List SV → Bool → Prop}
theorem nx_s {f f' f'' : List SV → Prop} {g : D → Prop} {r : List SV → D → Prop} (h : f env) : PK'.nx { nx := f, rt := g, bk := f', ct := f'', re := r } env := h
theorem re_s {f f' f'' : List SV → Prop} {g : D → Prop} {r : List SV → D → Prop} (h : r env d) : PK'.re { nx := f, rt := g, bk := f', ct := f'', re := r } env d := h
theorem reS_i {k : D → List Cell → Prop} {g : List Cell} (hl : env.length = n) (hg : env[n - 1]? = some (.gs g)) (h : k d g) : reS n k env d := ⟨hl, gsAt_i hg (by
  have := (List.getElem?_eq_some_iff.mp hg).1
  omega) h⟩
theorem sSeq_fld (h : sFldS i c f po qm env { K with nx := fun env' => Q env' K }) : sSeq (sFldS i c f po qm) Q env K := h
theorem sFldS_i (h : qm env fun env1 y => po env1 fun d0 => hdK d0 fun j => gsAt i env1 fun g => insK g j c fun fs => fs.length < 1000 ∧ K.nx (env1.set i (.gs (g.set j (.ins c (putFD f y fs)))))) : sFldS i c f po qm env K := h
theorem sSeq_augS (h : sAugS i c f p q env { K with nx := fun env' => Q env' K }) : sSeq (sAugS i c f p q) Q env K := h
theorem sAugS_i (h : p env fun d0 => hdK d0 fun j => gsAt i env fun g => insK g j c fun fs => ∃ n, fs.lookup f = some (.int n) ∧ fs.length < 1000 ∧ q env fun y => inK y fun m => K.nx (env.set i (.gs (g.set j (.ins c (putFD f (.int (n + m)) fs)))))) : sAugS i c f p q env K := h
theorem sSeq_putS (h : sPutS i p q qm env { K with nx := fun env' => Q env' K }) : sSeq (sPutS i p q qm) Q env K := h
theorem sPutS_i (h : qm env fun env1 y => p env1 fun x => q env1 fun w => hdK x fun j => keyK w fun key => gsAt i env1 fun g => dicK g j fun kvs => kvs.length ≤ 100000 ∧ K.nx (env1.set i (.gs (g.set j (.dic (putD kvs key y)))))) : sPutS i p q qm env K := h
theorem sSeq_delS (h : sDelS i p q env { K with nx := fun env' => Q env' K }) : sSeq (sDelS i p q) Q env K := h
theorem sDelS_i (h : p env fun x => q env fun w => hdK x fun j => keyK w fun key => gsAt i env fun g => dicK g j fun kvs => (valD kvs key).isSome = true ∧ K.nx (env.set i (.gs (g.set j (.dic (dropD kvs key)))))) : sDelS i p q env K := h
theorem sSeq_dropM (h : sDropM pm env { K with nx := fun env' => Q env' K }) : sSeq (sDropM pm) Q env K := h
theorem sDropM_i (h : pm env fun env1 _ => K.nx env1) : sDropM pm env K := h
theorem sSeq_asgM {g : PGt} (h : sAsgM pm g env { K with nx := fun env' => Q env' K }) : sSeq (sAsgM pm g) Q env K := h
theorem sAsgM_i {g : PGt} (h : pm env fun env1 d => g d env1 K.nx) : sAsgM pm g env K := h
theorem sSeq_while (h : sWhileS sm P env { K with nx := fun env' => Q env' K }) : sSeq (sWhileS sm P) Q env K := h
theorem sSeq_forS {it : PIt} {g : PGt} (h : sForS it g P env { K with nx := fun env' => Q env' K }) : sSeq (sForS it g P) Q env K := h
theorem sForS_i {it : PIt} {g : PGt} (h : it env fun ds => forS g P ds env K) : sForS it g P env K := h
theorem sRetS_i (h : pm env fun env1 d => K.re env1 d) : sRetS pm env K := h
theorem mA_i {km : List SV → List D → Prop} (h : ga env fun ds => km env ds) : mA ga env km := h
theorem mT_i (h : s env fun b => kt env b) : mT s env kt := h
theorem mOf_i (h : pm env fun env1 d => blK d fun b => kt env1 b) : mOf pm env kt := h
theorem mNot_i (h : sm env fun env1 b => kt env1 (!b)) : mNot sm env kt := h
theorem mOr_i (h : sm env fun env1 b => if b = true then kt env1 true else tm env1 kt) : mOr sm tm env kt := h
theorem sIfM_i (h : sm env fun env1 b => if b = true then P env1 K else Q env1 K) : sIfM sm P Q env K := h
theorem sSeq_ifM {A B : PSt} (h : sIfM sm A B env { K with nx := fun env' => Q env' K }) : sSeq (sIfM sm A B) Q env K := h
theorem mOp_i {gg : D → D → (D → Prop) → Prop} (h : pm env fun env1 x => qm env1 fun env2 y => gg x y fun d => km env2 d) : mOp gg pm qm env km := h
theorem mFldM_i (h : pm env fun env1 d => hdK d fun j => gsAt i env1 fun g => insK g j c fun fs => ∃ d', fs.lookup f = some d' ∧ km env1 d') : mFldM i c f pm env km := h
theorem eFld_i (h : p env fun d => hdK d fun j => gsAt i env fun g => insK g j c fun fs => ∃ d', fs.lookup f = some d' ∧ k d') : eFld i c f p env k := h
theorem eSubS_i (h : p env fun x => q env fun y => hdK x fun j => keyK y fun key => gsAt i env fun g => dicK g j fun kvs => ∃ d, valD kvs key = some d ∧ k d) : eSubS i p q env k := h
theorem gsLen_i (h : p env fun x => hdK x fun j => gsAt i env fun g => dicK g j fun kvs => k (.int kvs.length)) : gsLen i p env k := h
theorem gsList_i (h : p env fun x => hdK x fun j => gsAt i env fun g => dicK g j fun kvs => k (.lst (kvs.map fun kv => kD kv.1))) : gsList i p env k := h
theorem eEmpS_i {neg : Bool} (h : p env fun x => hdK x fun j => gsAt i env fun g => dicK g j fun kvs => k (.bl (neg ^^ kvs.isEmpty))) : eEmpS i neg p env k := h
theorem eEqI_i (h : p env fun x => q env fun y => hdK x fun j => hdK y fun l => gsAt i env fun g => insK g j c fun _ => insK g l c fun _ => k (.bl (decide (j = l)))) : eEqI i c p q env k := h
theorem tInS_i {neg : Bool} {kb : Bool → Prop} (h : p env fun x => q env fun y => hdK y fun j => keyN x fun key => gsAt i env fun g => dicK g j fun kvs => kb (xor neg ((key.bind (valD kvs)).isSome))) : tInS i neg p q env kb := h
theorem mNew_i (h : gsAt i env fun g => km (env.set i (.gs (g ++ [.dic []]))) (.hd g.length)) : mNew i env km := h
theorem keyK_s {s : Str} {k : Key → Prop} (h : k (.inr s)) : keyK (.str s) k := h
theorem keyN_s {s : Str} {k : Option Key → Prop} (h : k (some (.inr s))) : keyN (.str s) k := h
theorem keyN_n {k : Option Key → Prop} (h : k none) : keyN .non k := h
theorem some_i {o : Option D} {k : D → Prop} (e : o = some d) (h : k d) : ∃ d', o = some d' ∧ k d' := ⟨_, e, h⟩
theorem int_i {o : Option D} {n : Int} {k : Int → Prop} (e : o = some (.int n)) (h : k n) : ∃ m, o = some (.int m) ∧ k m := ⟨_, e, h⟩
theorem and_non {o : Option D} {A : Prop} (e : o = none) (h : A) : o = none ∧ A := ⟨e, h⟩
theorem iteT {b : Bool} {A B : Prop} (e : b = true) (h : A) : if b = true then A else B := by rw [if_pos e]; exact h
theorem iteF {b : Bool} {A B : Prop} (e : b = false) (h : B) : if b = true then A else B := by rw [if_neg (by rw [e]; decide)]; exact h
theorem mMethS_k {m : Str} {dds : List D} {wp : List D → List Cell → (D → List Cell → Prop) → Prop} (h : po env fun d0 => hdK d0 fun j => (gsAt i env fun g => insK g j c fun fs => fs.lookup m = none) ∧ gm env fun env1 ds => gsAt i env1 fun g => (D.hd j :: (ds ++ dds)).length = n ∧ wp (D.hd j :: (ds ++ dds)) g fun d g' => km (env1.set i (.gs g')) d) : mMethS i n c m dds wp po gm env km := h
theorem dIs_hd {neg : Bool} {j : Nat} (h : k (.bl neg)) : dIs neg (.hd j) .non k := h
theorem dIs_st {neg : Bool} {x : Str} (h : k (.bl neg)) : dIs neg (.str x) .non k := h
theorem dIs_li {neg : Bool} {xs : List D} (h : k (.bl neg)) : dIs neg (.lst xs) .non k := h
theorem dIs_nn {neg : Bool} (h : k (.bl (neg ^^ true))) : dIs neg .non .non k := h
theorem sSeq_ifs' {A B : PSt} (h : sIf s A B env { K with nx := fun env' => Q env' K }) : sSeq (sIf s A B) Q env K := h
theorem mCallS_i {dds : List D} {wp : List D → List Cell → (D → List Cell → Prop) → Prop} (h : gm env fun env1 ds => gsAt i env1 fun g => (ds ++ dds).length = n ∧ wp (ds ++ dds) g fun d g' => km (env1.set i (.gs g')) d) : mCallS i n dds wp gm env km := h
theorem mMakeS_i {dds : List D} {wp : List D → List Cell → (D → List Cell → Prop) → Prop} (h : gm env fun env1 ds => gsAt i env1 fun g => (D.hd g.length :: (ds ++ dds)).length = n ∧
  wp (.hd g.length :: (ds ++ dds)) (g ++ [.ins c []]) fun d g' => d = .non ∧ km (env1.set i (.gs g')) (.hd g.length)) : mMakeS i n c dds wp gm env km := h
end
local macro_rules | `(tactic| walk_at "cel") => `(tactic| first
  | assumption
  | exact List.getElem?_set_self (by first | omega | (simp only [List.length_set, List.length_append, List.length_cons, List.length_nil]; omega))
  | (refine (List.getElem?_set_ne (by omega)).trans ?_; walk_at "cel")
  | (refine (List.getElem?_append_left (by first | omega | (simp only [List.length_set, List.length_append, List.length_cons, List.length_nil]; omega))).trans ?_; walk_at "cel"))
local macro_rules | `(tactic| walk_at "st") => `(tactic| first
  | with_reducible refine nx_s ?_
  | with_reducible refine re_s ?_
  | with_reducible refine sSeq_fld ?_
  | with_reducible refine sFldS_i ?_
  | with_reducible refine sSeq_augS ?_
  | with_reducible refine sAugS_i ?_
  | with_reducible refine sSeq_putS ?_
  | with_reducible refine sPutS_i ?_
  | with_reducible refine sSeq_delS ?_
  | with_reducible refine sDelS_i ?_
  | with_reducible refine sSeq_dropM ?_
  | with_reducible refine sDropM_i ?_
  | with_reducible refine sSeq_asgM ?_
  | with_reducible refine sAsgM_i ?_
  | with_reducible refine sSeq_while ?_
  | with_reducible refine sSeq_forS ?_
  | with_reducible refine sForS_i ?_
  | with_reducible refine sRetS_i ?_
  | with_reducible refine mA_i ?_
  | with_reducible refine mT_i ?_
  | with_reducible refine mOf_i ?_
  | with_reducible refine mNot_i ?_
  | with_reducible refine mOr_i ?_
  | with_reducible refine sSeq_ifM ?_
  | with_reducible refine sIfM_i ?_
  | with_reducible refine mOp_i ?_
  | with_reducible refine mFldM_i ?_
  | with_reducible refine eFld_i ?_
  | with_reducible refine eSubS_i ?_
  | with_reducible refine gsLen_i ?_
  | with_reducible refine gsList_i ?_
  | with_reducible refine eEmpS_i ?_
  | with_reducible refine eEqI_i ?_
  | with_reducible refine tInS_i ?_
  | with_reducible refine mNew_i ?_
  | with_reducible refine hdK_i ?_
  | with_reducible refine keyK_s ?_
  | with_reducible refine keyN_s ?_
  | with_reducible refine keyN_n ?_
  | ((with_reducible refine' gsAt_i ?ps1 ?ps2 ?_); (case ps1 => exact rfl); (case ps2 => exact rfl))
  | ((with_reducible refine' insK_i ?ps1 ?_); (case ps1 => walk_at "cel"))
  | ((with_reducible refine' dicK_i ?ps1 ?_); (case ps1 => walk_at "cel"))
  | ((with_reducible refine' some_i ?ps1 ?_); (case ps1 => first | exact rfl | assumption))
  | ((with_reducible refine' int_i ?ps1 ?_); (case ps1 => first | exact rfl | assumption))
  | with_reducible refine dIs_hd ?_
  | with_reducible refine dIs_st ?_
  | with_reducible refine dIs_li ?_
  | with_reducible refine dIs_nn ?_
  | with_reducible refine dEmp_t ?_
  | with_reducible refine dEmp_l ?_
  | walk_at "ps"
  | ((with_reducible refine' iteT ?ps1 ?_); (case ps1 => exact rfl))
  | ((with_reducible refine' iteF ?ps1 ?_); (case ps1 => exact rfl))
  | with_reducible refine mMethS_k ?_
  | ((with_reducible refine' And.intro (gsAt_i ?ps1 ?ps2 (insK_i ?ps3 ?ps4)) ?_); (case ps1 => exact rfl); (case ps2 => exact rfl); (case ps3 => walk_at "cel"); (case ps4 => exact rfl))
  | with_reducible refine mCallS_i ?_
  | ((with_reducible refine' and_non ?ps1 ?_); (case ps1 => exact rfl))
  | with_reducible refine sSeq_ifs' ?_)
/-! knots of a grove -/
abbrev knF (nm en sd ab st wt : D) : List (Str × D) := [("name", nm), ("end", en), ("sides", sd), ("above", ab), ("stand", st), ("weight", wt)]
abbrev grF (jk : Nat) (r : D) (n : Int) : List (Str × D) := [("knots", .hd jk), ("root", r), ("reckonings", .int n)]
theorem knot_init {nm en sd : D} {g : List Cell} {k : D → List Cell → Prop} (h : k .non (g ++ [.ins 0 (knF nm en sd .non .non (.int 0))])) : wp_Knot___init__ [.hd g.length, nm, en, sd] (g ++ [.ins 0 []]) k := by
  unfold wp_Knot___init__ wpOfS envS
  walk_at "psenv"
  unfold P_Knot___init__
  have e0 : ∀ c, (g ++ [c])[g.length]? = some c := fun c => by rw [List.getElem?_append_right (Nat.le_refl _)]; simp
  have s0 : ∀ c c' : Cell, (g ++ [c]).set g.length c' = g ++ [c'] := fun c c' => by rw [List.set_append_right _ _ (Nat.le_refl _)]; simp
  have e := e0 (.ins 0 [])
  repeat walk_at "st"
  refine reS_i rfl rfl ?_
  rw [List.set_set, List.set_set, List.set_set, List.set_set, List.set_set, s0]
  exact h
theorem grove_init {g : List Cell} {k : D → List Cell → Prop} (h : k .non (g ++ [.ins 1 (grF (g.length + 1) .non 0)] ++ [.dic []])) : wp_Grove___init__ [.hd g.length] (g ++ [.ins 1 []]) k := by
  unfold wp_Grove___init__ wpOfS envS
  walk_at "psenv"
  unfold P_Grove___init__
  have e0 : ∀ c c', ((g ++ [c]) ++ [c'])[g.length]? = some c := fun c c' => by rw [List.getElem?_append_left (by simp), List.getElem?_append_right (Nat.le_refl _)]; simp
  have s0 : ∀ c c' c'' : Cell, ((g ++ [c]) ++ [c'']).set g.length c' = (g ++ [c']) ++ [c''] := fun c c' c'' => by rw [List.append_assoc, List.set_append_right _ _ (Nat.le_refl _)]; simp
  have e := e0 (.ins 1 []) (.dic [])
  have hl : (g ++ [Cell.ins 1 []]).length = g.length + 1 := by simp
  repeat walk_at "st"
  refine reS_i rfl rfl ?_
  rw [List.set_set, List.set_set, s0, hl]
  exact h
theorem end_knot_i {s : D} {e : En} {g : List Cell} {k : D → List Cell → Prop} (h : k (.hd g.length) (g ++ [.ins 0 (knF s (enD e) (.tup []) .non (rowD [e]) (.int e.l))])) : wp_end_knot [s, enD e] g k := by
  unfold wp_end_knot wpOfS envS
  walk_at "psenv"
  unfold P_end_knot
  have e0 : ∀ c, (g ++ [c])[g.length]? = some c := fun c => by rw [List.getElem?_append_right (Nat.le_refl _)]; simp
  have s0 : ∀ c c' : Cell, (g ++ [c]).set g.length c' = g ++ [c'] := fun c c' => by rw [List.set_append_right _ _ (Nat.le_refl _)]; simp
  refine sSeq_setM ?_
  refine sSetM_i ?_
  refine mMakeS_i ?_
  repeat walk_at "st"
  refine knot_init ?_
  refine ⟨rfl, ?_⟩
  have ec := e0 (.ins 0 (knF s (enD e) (.tup []) .non .non (.int 0)))
  repeat walk_at "st"
  refine row_of_i (es := [e]) (ps := [(0, e)]) (fun p hp => by rw [List.mem_singleton.mp hp]; exact ⟨Int.le_refl 0, rfl⟩) (by simp) (by simp) ?_
  repeat walk_at "st"
  refine reS_i rfl rfl ?_
  rw [List.set_set, s0]
  exact h
/-- a grove, as the program holds it -/
inductive KT | lf (i : Nat) (s : Str) (e : En) | nd (i : Nat) (st wt : D) (a b : KT)
namespace KT
def ix : KT → Nat | lf i _ _ => i | nd i _ _ _ _ => i
def ixs : KT → List Nat | lf i _ _ => [i] | nd i _ _ a b => i :: (a.ixs ++ b.ixs)
def lvs : KT → List (Str × Nat × En) | lf i s e => [(s, i, e)] | nd _ _ _ a b => a.lvs ++ b.lvs
def ls : KT → List En | lf _ _ e => [e] | nd _ _ _ a b => a.ls ++ b.ls
def nms : KT → List Str | lf _ s _ => [s] | nd _ _ _ a b => a.nms ++ b.nms
def stD : KT → D | lf _ _ e => rowD [e] | nd _ st _ _ _ => st
def wtD : KT → D | lf _ _ e => .int e.l | nd _ _ wt _ _ => wt
def trD : KT → D | lf _ s _ => .str s | nd _ _ _ a b => .tup [a.trD, b.trD]
def sdD : KT → D | lf _ _ _ => .tup [] | nd _ _ _ a b => .tup [.hd a.ix, .hd b.ix]
def nmD : KT → D | lf _ s _ => .str s | nd _ _ _ _ _ => .non
def edD : KT → D | lf _ _ e => enD e | nd _ _ _ _ _ => .non
def cell (up : D) (t : KT) : Cell := .ins 0 (knF t.nmD t.edD t.sdD up t.stD t.wtD)
/-- the form: what is reckoned left out -/
def sk : KT → KT
  | lf i s e => lf i s e
  | nd i _ _ a b => nd i .non .non a.sk b.sk
end KT
open KT
def KS (g : List Cell) : D → KT → Prop
  | up, lf i s e => g[i]? = some ((lf i s e).cell up)
  | up, nd i st wt a b => g[i]? = some ((nd i st wt a b).cell up) ∧ KS g (.hd i) a ∧ KS g (.hd i) b
def sumw (l : List En) : Int := (l.map En.l).sum
def Good : KT → Prop
  | lf _ _ _ => True
  | nd _ st wt a b => st = rowD (a.ls ++ b.ls) ∧ wt = .int (sumw (a.ls ++ b.ls)) ∧ Good a ∧ Good b
theorem ls_ne : ∀ t : KT, t.ls ≠ []
  | lf _ _ _ => fun q => nomatch q
  | nd _ _ _ a b => fun q => ls_ne a (List.append_eq_nil_iff.mp q).1
theorem Good.st {t : KT} (h : Good t) : t.stD = rowD t.ls ∧ t.wtD = .int (sumw t.ls) := by
  cases t with
  | lf i s e => exact ⟨rfl, by simp [wtD, sumw, ls]⟩
  | nd i st wt a b => exact ⟨h.1, h.2.1⟩
theorem KS.at {g : List Cell} {up : D} {t : KT} (h : KS g up t) : g[t.ix]? = some (t.cell up) := by
  cases t with
  | lf i s e => exact h
  | nd i st wt a b => exact h.1
theorem KS.frame {g g' : List Cell} : ∀ {up : D} {t : KT}, KS g up t → (∀ i ∈ t.ixs, g'[i]? = g[i]?) → KS g' up t
  | _, lf i s e, h, f => by unfold KS; rw [f i List.mem_cons_self]; exact h
  | _, nd i st wt a b, ⟨h1, h2, h3⟩, f => ⟨by rw [f i List.mem_cons_self]; exact h1, h2.frame fun j hj => f j (List.mem_cons_of_mem _ (List.mem_append_left _ hj)), h3.frame fun j hj => f j (List.mem_cons_of_mem _ (List.mem_append_right _ hj))⟩
theorem ix_mem (t : KT) : t.ix ∈ t.ixs := by cases t <;> exact List.mem_cons_self
theorem sk_ix : ∀ t : KT, t.sk.ix = t.ix | lf _ _ _ => rfl | nd _ _ _ _ _ => rfl
theorem sk_ixs : ∀ t : KT, t.sk.ixs = t.ixs | lf _ _ _ => rfl | nd _ _ _ a b => by simp only [sk, ixs, sk_ixs a, sk_ixs b]
theorem sk_lvs : ∀ t : KT, t.sk.lvs = t.lvs | lf _ _ _ => rfl | nd _ _ _ a b => by simp only [sk, lvs, sk_lvs a, sk_lvs b]
theorem sk_trD : ∀ t : KT, t.sk.trD = t.trD | lf _ _ _ => rfl | nd _ _ _ a b => by simp only [sk, trD, sk_trD a, sk_trD b]
/-- what stands around a knot -/
structure Fr' where
  (i : Nat) (st wt : D) (s : Bool) (o : KT)
def Fr'.fill (f : Fr') (t : KT) : KT := if f.s then .nd f.i f.st f.wt f.o t else .nd f.i f.st f.wt t f.o
def plug : List Fr' → KT → KT | [], t => t | f :: c, t => plug c (f.fill t)
def upC : List Fr' → D | [] => .non | f :: _ => .hd f.i
def Fr'.sd (f : Fr') (ix : Nat) : D := if f.s then .tup [.hd f.o.ix, .hd ix] else .tup [.hd ix, .hd f.o.ix]
def CS (g : List Cell) : List Fr' → Nat → Prop
  | [], _ => True
  | f :: c, ix => g[f.i]? = some (.ins 0 (knF .non .non (f.sd ix) (upC c) f.st f.wt)) ∧ KS g (.hd f.i) f.o ∧ CS g c f.i
theorem fill_ix (f : Fr') (t : KT) : (f.fill t).ix = f.i := by unfold Fr'.fill; split <;> rfl
theorem ks_plug {g : List Cell} : ∀ {c : List Fr'} {t : KT}, KS g .non (plug c t) ↔ KS g (upC c) t ∧ CS g c t.ix
  | [], t => ⟨fun h => ⟨h, trivial⟩, fun h => h.1⟩
  | f :: c, t => by
    show KS g .non (plug c (f.fill t)) ↔ _
    rw [ks_plug (c := c), fill_ix]
    have : KS g (upC c) (f.fill t) ↔ KS g (.hd f.i) t ∧ (g[f.i]? = some (.ins 0 (knF .non .non (f.sd t.ix) (upC c) f.st f.wt)) ∧ KS g (.hd f.i) f.o) := by
      unfold Fr'.fill Fr'.sd
      cases f.s with
      | true => exact ⟨fun ⟨a, b, c⟩ => ⟨c, a, b⟩, fun ⟨c, a, b⟩ => ⟨a, b, c⟩⟩
      | false => exact ⟨fun ⟨a, b, c⟩ => ⟨b, a, c⟩, fun ⟨c, a, b⟩ => ⟨a, c, b⟩⟩
    rw [this]
    exact ⟨fun ⟨⟨a, b, c⟩, d⟩ => ⟨a, b, c, d⟩, fun ⟨a, b, c, d⟩ => ⟨⟨a, b, c⟩, d⟩⟩
/-- the places around a knot -/
def cxs : List Fr' → List Nat | [] => [] | f :: c => f.i :: (f.o.ixs ++ cxs c)
theorem fill_ixs (f : Fr') (t : KT) : (f.fill t).ixs.Perm (t.ixs ++ f.i :: f.o.ixs) := by
  unfold Fr'.fill
  split
  · simp only [ixs]
    exact ((List.perm_append_comm).cons f.i).trans List.perm_middle.symm
  · simp only [ixs]
    exact List.perm_middle.symm
theorem plug_ixs : ∀ (c : List Fr') (t : KT), (plug c t).ixs.Perm (t.ixs ++ cxs c)
  | [], t => by simp [plug, cxs]
  | f :: c, t => by
    refine (plug_ixs c (f.fill t)).trans ?_
    refine ((fill_ixs f t).append_right (cxs c)).trans ?_
    simp only [cxs, List.append_assoc, List.cons_append]
    exact List.Perm.refl _
/-! what a grove does -/
theorem whileS_i {c : PMT} {body : PSt} {k : PK'} {n : Nat} {env : List SV} (h : c env fun env1 b => if b = true then body env1 { nx := whileS c body k n, rt := k.rt, bk := k.nx, ct := whileS c body k n, re := k.re } else k.nx env1) : whileS c body k (n + 1) env := h
theorem at_end {α : Type} {xs : List α} {x : α} : atI (xs ++ [x]) (-1) = some x := by
  unfold atI ixN
  have e : (-1 + ((xs ++ [x]).length : Int)).toNat = xs.length := by rw [List.length_append, List.length_singleton]; omega
  rw [if_neg (by omega), if_pos (by simp; omega)]
  show (xs ++ [x])[(-1 + ((xs ++ [x]).length : Int)).toNat]? = _
  rw [e, List.getElem?_append_right (Nat.le_refl _)]
  simp
def KA (g : List Cell) (i : Nat) (d : D) : Prop := ∃ nm en sd st wt, g[i]? = some (.ins 0 (knF nm en sd d st wt))
def Ch (g : List Cell) : Nat → List Nat → Prop
  | i, [] => KA g i .non
  | i, j :: l => KA g i (.hd j) ∧ Ch g j l
theorem up_loop {g : List Cell} {x0 x1 x2 : SV} {N B T : List SV → Prop} {R : D → Prop} {E : List SV → D → Prop} (l : List Nat) : ∀ (pre : List D) (i : Nat), Ch g i l → pre.length + l.length ≤ 1000 →
    N [x0, x1, x2, SV.own (.lst (pre ++ (i :: l).map D.hd)), SV.gs g] →
    whileS (mT (tOf (eOp (dIs true) (eFld 4 0 "above" (eOp dIx (eO 3) (eUn dNeg (eC (.int 1))))) (eC .non)))) (sAppend 3 (eFld 4 0 "above" (eOp dIx (eO 3) (eUn dNeg (eC (.int 1)))))) { nx := N, rt := R, bk := B, ct := T, re := E } (l.length + 1) [x0, x1, x2, SV.own (.lst (pre ++ [.hd i])), SV.gs g] := by
  induction l with
  | nil =>
    rintro pre i ⟨nm, en, sd, st, wt, h⟩ hl hk
    refine whileS_i ?_
    repeat walk_at "st"
    refine dIx_l at_end ?_
    repeat walk_at "st"
    exact hk
  | cons j l ih =>
    rintro pre i ⟨⟨nm, en, sd, st, wt, h⟩, hc⟩ hl hk
    refine whileS_i ?_
    repeat walk_at "st"
    refine dIx_l at_end ?_
    repeat walk_at "st"
    refine dIx_l at_end ?_
    repeat walk_at "st"
    rw [List.length_cons] at hl
    refine ⟨by rw [List.length_append, List.length_singleton]; omega, ?_⟩
    refine nx_s ?_
    have hk' : N [x0, x1, x2, SV.own (.lst ((pre ++ [.hd i]) ++ (j :: l).map D.hd)), SV.gs g] := by
      rw [List.append_assoc]
      exact hk
    have q := ih (pre ++ [.hd i]) j hc (by rw [List.length_append, List.length_singleton]; omega) hk'
    simp only [List.set_cons_succ, List.set_cons_zero, List.length_cons]
    exact q
theorem knot_at_i {g : List Cell} {jg jk i a : Nat} {r : D} {n : Int} {kvs : List (Key × D)} {s : Str} {l : List Nat} {k : D → List Cell → Prop} (hg : g[jg]? = some (.ins 1 (grF jk r n))) (hk : g[jk]? = some (.dic kvs)) (hv : valD kvs (.inr s) = some (.hd i)) (hc : Ch g i l) (hl : l.length ≤ 900) (ha : a ≤ l.length) (h : ∀ x, (i :: l)[a]? = some x → k (.hd x) g) : wp_Grove_knot_at [.hd jg, .str s, .int a] g k := by
  unfold wp_Grove_knot_at wpOfS envS
  walk_at "psenv"
  unfold P_Grove_knot_at
  have hb : (((some (Sum.inr s : Key)).bind (valD kvs)).isSome) = true := by rw [Option.bind_some, hv]; rfl
  repeat walk_at "st"
  rw [hb, if_neg (by decide)]
  repeat walk_at "st"
  refine ⟨l.length + 1, up_loop l [] i hc (by simp; omega) ?_⟩
  repeat walk_at "st"
  refine bCase_d (fun _ => ?_) (fun q => absurd (Int.natCast_nonneg a) q)
  repeat walk_at "st"
  have hlt : (a : Int) < (([] ++ List.map D.hd (i :: l)).length : Int) := by simp; omega
  rw [decide_eq_true hlt, if_neg (by decide)]
  repeat walk_at "st"
  obtain ⟨x, hx⟩ : ∃ x, (i :: l)[a]? = some x := ⟨_, List.getElem?_eq_getElem (by simp; omega)⟩
  refine dIx_l (d := .hd x) (at_nat (by omega) ?_) ?_
  · show ((i :: l).map D.hd)[a]? = some (.hd x)
    rw [List.getElem?_map, hx]; rfl
  exact reS_i rfl rfl (h x hx)
theorem ks_fill {g : List Cell} {f : Fr'} {c : List Fr'} {t : KT} : KS g (upC c) (f.fill t) ∧ CS g c f.i ↔ KS g (.hd f.i) t ∧ CS g (f :: c) t.ix := by
  have h1 := ks_plug (g := g) (c := c) (t := f.fill t)
  have h2 := ks_plug (g := g) (c := f :: c) (t := t)
  rw [fill_ix] at h1
  exact h1.symm.trans h2
theorem CS.frame {g g' : List Cell} : ∀ {c : List Fr'} {ix : Nat}, CS g c ix → (∀ i ∈ cxs c, g'[i]? = g[i]?) → CS g' c ix
  | [], _, _, _ => trivial
  | f :: c, ix, ⟨h1, h2, h3⟩, q => ⟨by rw [q f.i List.mem_cons_self]; exact h1, h2.frame fun j hj => q j (List.mem_cons_of_mem _ (List.mem_append_left _ hj)), CS.frame h3 fun j hj => q j (List.mem_cons_of_mem _ (List.mem_append_right _ hj))⟩
theorem fill_sk (f : Fr') {t t' : KT} (h : t.sk = t'.sk) : (f.fill t).sk = (f.fill t').sk := by
  unfold Fr'.fill
  split <;> simp only [sk, h]
theorem plug_sk : ∀ (c : List Fr') {t t' : KT}, t.sk = t'.sk → (plug c t).sk = (plug c t').sk
  | [], _, _, h => h
  | f :: c, _, _, h => plug_sk c (fill_sk f h)
theorem cut2 {a b c d : D} : Pu.cutD [a, b, c, d] none (some 2) = [a, b] := rfl
theorem sumw_app (A B : List En) : sumw (A ++ B) = sumw A + sumw B := by unfold sumw; rw [List.map_append, List.sum_append]
theorem KS.lt {g : List Cell} {up : D} {t : KT} (h : KS g up t) : t.ix < g.length := (List.getElem?_eq_some_iff.mp h.at).1
set_option maxHeartbeats 1000000 in
theorem reck_body {g : List Cell} {jg jk : Nat} {r : D} {n : Int} {i : Nat} {st wt up : D} {a b : KT} {x2 x3 : SV} {N : List SV → Prop} {K : PK'}
    (hK : KS g up (nd i st wt a b)) (hg : g[jg]? = some (.ins 1 (grF jk r n))) (ga : Good a) (gb : Good b) (hnd : (nd i st wt a b).ixs.Nodup) (hj : jg ∉ (nd i st wt a b).ixs)
    (hk : N [SV.val (.hd jg), SV.val up, SV.val (.hd a.ix), SV.val (.hd b.ix), SV.gs ((g.set i ((nd i (rowD (a.ls ++ b.ls)) (.int (sumw (a.ls ++ b.ls))) a b).cell up)).set jg (.ins 1 (grF jk r (n + 1))))]) :
    (sSeq (sAsg (eFld 4 0 "sides" (eV 1)) (gtTup 2 (gtCons (gtName 2) (gtCons (gtName 3) gtNil))))
    (sSeq (sFldS 4 0 "stand" (eV 1) (mE (eSl (eCall (fun ds k => ds.length = 2 ∧ wp_joined ds k) (aCons (eFld 4 0 "stand" (eV 2)) (aCons (eFld 4 0 "stand" (eV 3)) aNil))) oNo (oPart (eC (.int 2))))))
    (sSeq (sFldS 4 0 "weight" (eV 1) (mE (eOp dAdd (eFld 4 0 "weight" (eV 2)) (eFld 4 0 "weight" (eV 3)))))
    (sSeq (sAugS 4 1 "reckonings" (eV 0) (eC (.int 1)))
    (sSet 1 (eFld 4 0 "above" (eV 1))))))) [SV.val (.hd jg), SV.val (.hd i), x2, x3, SV.gs g] { nx := N, rt := K.rt, bk := K.bk, ct := K.ct, re := K.re } := by
  obtain ⟨h0, hA, hB⟩ := hK
  have h0 : g[i]? = some (.ins 0 (knF .non .non (.tup [.hd a.ix, .hd b.ix]) up st wt)) := h0
  have ha : g[a.ix]? = some (.ins 0 (knF a.nmD a.edD a.sdD (.hd i) (rowD a.ls) (.int (sumw a.ls)))) := by have := hA.at; unfold KT.cell at this; rw [ga.st.1, ga.st.2] at this; exact this
  have hb : g[b.ix]? = some (.ins 0 (knF b.nmD b.edD b.sdD (.hd i) (rowD b.ls) (.int (sumw b.ls)))) := by have := hB.at; unfold KT.cell at this; rw [gb.st.1, gb.st.2] at this; exact this
  have hi : i < g.length := (List.getElem?_eq_some_iff.mp h0).1
  have hn := List.nodup_cons.mp (show (i :: (a.ixs ++ b.ixs)).Nodup from hnd)
  have n1 : i ≠ a.ix := fun q => hn.1 (List.mem_append_left _ (q ▸ ix_mem a))
  have n2 : i ≠ b.ix := fun q => hn.1 (List.mem_append_right _ (q ▸ ix_mem b))
  have n3 : jg ≠ i := fun q => hj (q ▸ ix_mem _)
  repeat walk_at "st"
  refine joined_i (ls_ne a) (ls_ne b) ?_
  repeat walk_at "st"
  rw [sumw_app] at hk
  simp only [List.set_cons_succ, List.set_cons_zero, cut2, List.set_set]
  exact hk
theorem cxs_fill {f : Fr'} {c : List Fr'} {t : KT} : ((f.fill t).ixs ++ cxs c).Perm (t.ixs ++ cxs (f :: c)) := by
  refine ((fill_ixs f t).append_right (cxs c)).trans ?_
  simp only [cxs, List.append_assoc, List.cons_append]
  exact List.Perm.refl _
/-- what reckoning leaves -/
structure Rk (g g' : List Cell) (jg jk : Nat) (r : D) (n : Int) (l : List Nat) (s t' : KT) : Prop where
  ks : KS g' .non t'
  good : Good t'
  sk : t'.sk = s.sk
  fr : ∀ j, j ∉ l → j ≠ jg → g'[j]? = g[j]?
  len : g'.length = g.length
  gr : g'[jg]? = some (.ins 1 (grF jk r n))
theorem set2 {g : List Cell} {i j l : Nat} {x y : Cell} (h1 : l ≠ i) (h2 : l ≠ j) : ((g.set i x).set j y)[l]? = g[l]? := by
  rw [List.getElem?_set_ne (Ne.symm h2), List.getElem?_set_ne (Ne.symm h1)]
theorem reck_frame {g : List Cell} {jg jk : Nat} {r : D} {n : Int} {i : Nat} {st wt : D} {a b : KT} {c : List Fr'} {G : Cell} (hK : KS g (upC c) (nd i st wt a b)) (hC : CS g c i) (hg : g[jg]? = some (.ins 1 (grF jk r n))) (hnd : ((nd i st wt a b).ixs ++ cxs c).Nodup) (hj : jg ∉ (nd i st wt a b).ixs ++ cxs c) (st' wt' : D) :
    KS ((g.set i ((nd i st' wt' a b).cell (upC c))).set jg G) (upC c) (nd i st' wt' a b) ∧ CS ((g.set i ((nd i st' wt' a b).cell (upC c))).set jg G) c i ∧ ((g.set i ((nd i st' wt' a b).cell (upC c))).set jg G)[jg]? = some G := by
  have hi : i < g.length := hK.lt
  have hjl := (List.getElem?_eq_some_iff.mp hg).1
  have hn := List.nodup_append.mp hnd
  have hn1 := List.nodup_cons.mp (show (i :: (a.ixs ++ b.ixs)).Nodup from hn.1)
  have n3 : jg ≠ i := fun q => hj (List.mem_append_left _ (q ▸ ix_mem (nd i st wt a b)))
  obtain ⟨_, hA, hB⟩ := hK
  have ne : ∀ j ∈ a.ixs ++ b.ixs, j ≠ i ∧ j ≠ jg := fun j h => ⟨fun q => hn1.1 (q ▸ h), fun q => hj (List.mem_append_left _ (q ▸ List.mem_cons_of_mem _ h))⟩
  refine ⟨⟨?_, hA.frame fun j hj' => ?_, hB.frame fun j hj' => ?_⟩, CS.frame hC fun j hj' => ?_, ?_⟩
  · rw [List.getElem?_set_ne n3, List.getElem?_set_self hi]
  · exact set2 (ne j (List.mem_append_left _ hj')).1 (ne j (List.mem_append_left _ hj')).2
  · exact set2 (ne j (List.mem_append_right _ hj')).1 (ne j (List.mem_append_right _ hj')).2
  · exact set2 (fun q => hn.2.2 i (ix_mem (nd i st wt a b)) j hj' q.symm) (fun q => hj (List.mem_append_right _ (q ▸ hj')))
  · rw [List.getElem?_set_self (by rw [List.length_set]; exact hjl)]
theorem good_fill {f : Fr'} {t : KT} (h1 : Good f.o) (h2 : Good t) : ∃ a b, f.fill t = nd f.i f.st f.wt a b ∧ Good a ∧ Good b := by
  unfold Fr'.fill
  cases f.s with
  | true => exact ⟨f.o, t, rfl, h1, h2⟩
  | false => exact ⟨t, f.o, rfl, h2, h1⟩
set_option maxHeartbeats 1000000 in
theorem reck_loop {jg jk : Nat} {r : D} (c : List Fr') : ∀ {g : List Cell} {n : Int} {i : Nat} {st wt : D} {a b : KT} {x2 x3 : SV} {K : PK'}, KS g (upC c) (nd i st wt a b) → CS g c i → g[jg]? = some (.ins 1 (grF jk r n)) → Good a → Good b → (∀ f ∈ c, Good f.o) → ((nd i st wt a b).ixs ++ cxs c).Nodup → jg ∉ (nd i st wt a b).ixs ++ cxs c →
    (∀ g' t' x2 x3, Rk g g' jg jk r (n + c.length + 1) ((nd i st wt a b).ixs ++ cxs c) (plug c (nd i st wt a b)) t' → K.nx [SV.val (.hd jg), SV.val .non, x2, x3, SV.gs g']) →
    whileS (mT (tOf (eOp (dIs true) (eV 1) (eC .non)))) (sSeq (sAsg (eFld 4 0 "sides" (eV 1)) (gtTup 2 (gtCons (gtName 2) (gtCons (gtName 3) gtNil))))
    (sSeq (sFldS 4 0 "stand" (eV 1) (mE (eSl (eCall (fun ds k => ds.length = 2 ∧ wp_joined ds k) (aCons (eFld 4 0 "stand" (eV 2)) (aCons (eFld 4 0 "stand" (eV 3)) aNil))) oNo (oPart (eC (.int 2))))))
    (sSeq (sFldS 4 0 "weight" (eV 1) (mE (eOp dAdd (eFld 4 0 "weight" (eV 2)) (eFld 4 0 "weight" (eV 3)))))
    (sSeq (sAugS 4 1 "reckonings" (eV 0) (eC (.int 1)))
    (sSet 1 (eFld 4 0 "above" (eV 1))))))) K (c.length + 2) [SV.val (.hd jg), SV.val (.hd i), x2, x3, SV.gs g] := by
  induction c with
  | nil =>
    intro g n i st wt a b x2 x3 K hK hC hg ga gb gc hnd hj hk
    simp only [cxs, List.append_nil] at hnd hj
    refine whileS_i ?_
    walk_at "st"; walk_at "st"; walk_at "st"; walk_at "st"; walk_at "st"; walk_at "st"; walk_at "st"
    rw [if_pos rfl]
    refine reck_body (K := K) hK hg ga gb hnd hj ?_
    refine whileS_i ?_
    repeat walk_at "st"
    have q := reck_frame (c := []) (G := .ins 1 (grF jk r (n + 1))) hK hC hg (by simpa [cxs] using hnd) (by simpa [cxs] using hj) (rowD (a.ls ++ b.ls)) (.int (sumw (a.ls ++ b.ls)))
    refine hk _ (nd i (rowD (a.ls ++ b.ls)) (.int (sumw (a.ls ++ b.ls))) a b) _ _ ⟨q.1, ⟨rfl, rfl, ga, gb⟩, rfl, fun j hjl hjg => ?_, by simp, by simpa using q.2.2⟩
    exact set2 (fun e => hjl (by rw [e]; simp [ixs])) hjg
  | cons f c ih =>
    intro g n i st wt a b x2 x3 K hK hC hg ga gb gc hnd hj hk
    refine whileS_i ?_
    walk_at "st"; walk_at "st"; walk_at "st"; walk_at "st"; walk_at "st"; walk_at "st"; walk_at "st"
    rw [if_pos rfl]
    have hnd1 : (nd i st wt a b).ixs.Nodup := (List.nodup_append.mp hnd).1
    refine reck_body (K := K) hK hg ga gb hnd1 (fun q => hj (List.mem_append_left _ q)) ?_
    have q := reck_frame (G := .ins 1 (grF jk r (n + 1))) hK hC hg hnd hj (rowD (a.ls ++ b.ls)) (.int (sumw (a.ls ++ b.ls)))
    have hgt : Good (nd i (rowD (a.ls ++ b.ls)) (.int (sumw (a.ls ++ b.ls))) a b) := ⟨rfl, rfl, ga, gb⟩
    have hfr : ∀ j, j ≠ i → j ≠ jg → ((g.set i ((nd i (rowD (a.ls ++ b.ls)) (.int (sumw (a.ls ++ b.ls))) a b).cell (upC (f :: c)))).set jg (.ins 1 (grF jk r (n + 1))))[j]? = g[j]? := fun j h1 h2 => set2 h1 h2
    have hln : ((g.set i ((nd i (rowD (a.ls ++ b.ls)) (.int (sumw (a.ls ++ b.ls))) a b).cell (upC (f :: c)))).set jg (.ins 1 (grF jk r (n + 1)))).length = g.length := by simp
    show whileS _ _ _ _ [SV.val (.hd jg), SV.val (.hd f.i), _, _, _]
    generalize (g.set i ((nd i (rowD (a.ls ++ b.ls)) (.int (sumw (a.ls ++ b.ls))) a b).cell (upC (f :: c)))).set jg (.ins 1 (grF jk r (n + 1))) = g3 at *
    generalize ht : nd i (rowD (a.ls ++ b.ls)) (.int (sumw (a.ls ++ b.ls))) a b = t at *
    have hsk : t.sk = (nd i st wt a b).sk := by rw [← ht]; rfl
    have hix : t.ixs = (nd i st wt a b).ixs := by rw [← ht]; rfl
    have hi : t.ix = i := by rw [← ht]; rfl
    obtain ⟨q1, q2, q3⟩ := q
    obtain ⟨a', b', hfe, ga', gb'⟩ := good_fill (gc f List.mem_cons_self) hgt
    have hks := ks_fill.mpr ⟨q1, by rw [hi]; exact q2⟩
    have hp : ((f.fill t).ixs ++ cxs c).Perm ((nd i st wt a b).ixs ++ cxs (f :: c)) := hix ▸ cxs_fill
    have hpl : plug c (f.fill t) = plug (f :: c) t := rfl
    rw [hfe] at hks hp hpl
    refine ih hks.1 hks.2 q3 ga' gb' (fun f' h => gc f' (List.mem_cons_of_mem _ h)) (hp.nodup_iff.mpr hnd) (fun h => hj (hp.mem_iff.mp h)) fun g' t' y2 y3 R => ?_
    refine hk g' t' y2 y3 ⟨R.ks, R.good, ?_, fun j h1 h2 => ?_, R.len.trans hln, ?_⟩
    · rw [R.sk, hpl]; exact plug_sk (f :: c) hsk
    · rw [R.fr j (fun h => h1 (hp.mem_iff.mp h)) h2]
      exact hfr j (fun e => h1 (List.mem_append_left _ (e ▸ ix_mem (nd i st wt a b)))) h2
    · rw [R.gr, show n + 1 + (c.length : Int) + 1 = n + ((f :: c).length : Int) + 1 by rw [List.length_cons]; omega]
theorem reckon_i {g : List Cell} {jg jk : Nat} {r : D} {n : Int} {c : List Fr'} {i : Nat} {st wt : D} {a b : KT} {k : D → List Cell → Prop} (hK : KS g .non (plug c (nd i st wt a b))) (hg : g[jg]? = some (.ins 1 (grF jk r n))) (ga : Good a) (gb : Good b) (gc : ∀ f ∈ c, Good f.o) (hnd : (plug c (nd i st wt a b)).ixs.Nodup) (hj : jg ∉ (plug c (nd i st wt a b)).ixs)
    (hk : ∀ g' t', Rk g g' jg jk r (n + c.length + 1) (plug c (nd i st wt a b)).ixs (plug c (nd i st wt a b)) t' → k .non g') : wp_Grove_reckon [.hd jg, .hd i] g k := by
  have hp := plug_ixs c (nd i st wt a b)
  have hks := ks_plug.mp hK
  unfold wp_Grove_reckon wpOfS envS
  walk_at "psenv"
  unfold P_Grove_reckon
  refine ⟨c.length + 2, reck_loop c hks.1 hks.2 hg ga gb gc (hp.nodup_iff.mp hnd) (fun h => hj (hp.mem_iff.mpr h)) fun g' t' x2 x3 R => ?_⟩
  exact reS_i rfl rfl (hk g' t' ⟨R.ks, R.good, R.sk, fun j h1 h2 => R.fr j (fun h => h1 (hp.mem_iff.mpr h)) h2, R.len, R.gr⟩)
theorem reckon_none {g : List Cell} {jg : Nat} {k : D → List Cell → Prop} (h : k .non g) : wp_Grove_reckon [.hd jg, .non] g k := by
  unfold wp_Grove_reckon wpOfS envS
  walk_at "psenv"
  unfold P_Grove_reckon
  refine ⟨1, whileS_i ?_⟩
  repeat walk_at "st"
  exact reS_i rfl rfl h
theorem pip_root {g : List Cell} {jg jk old new : Nat} {r : D} {n : Int} {nm en sd st wt nm' en' sd' up' st' wt' : D} {k : D → List Cell → Prop} (ho : g[old]? = some (.ins 0 (knF nm en sd .non st wt))) (hn : g[new]? = some (.ins 0 (knF nm' en' sd' up' st' wt'))) (hg : g[jg]? = some (.ins 1 (grF jk r n))) (h1 : new ≠ jg)
    (hk : k .non ((g.set new (.ins 0 (knF nm' en' sd' .non st' wt'))).set jg (.ins 1 (grF jk (.hd new) n)))) : wp_Grove_put_in_place [.hd jg, .hd old, .hd new] g k := by
  unfold wp_Grove_put_in_place wpOfS envS
  walk_at "psenv"
  unfold P_Grove_put_in_place
  repeat walk_at "st"
  exact reS_i rfl rfl hk
theorem pip_up {g : List Cell} {jg old new : Nat} {f : Fr'} {upf : D} {nm en sd st wt nm' en' sd' up' st' wt' : D} {fo : List (Str × D)} {k : D → List Cell → Prop} (ho : g[old]? = some (.ins 0 (knF nm en sd (.hd f.i) st wt))) (hn : g[new]? = some (.ins 0 (knF nm' en' sd' up' st' wt'))) (hf : g[f.i]? = some (.ins 0 (knF .non .non (f.sd old) upf f.st f.wt))) (hfo : g[f.o.ix]? = some (.ins 0 fo)) (h1 : new ≠ f.i) (h2 : f.o.ix ≠ old) (h3 : new ≠ f.o.ix) (h4 : new ≠ old)
    (hk : k .non ((g.set new (.ins 0 (knF nm' en' sd' (.hd f.i) st' wt'))).set f.i (.ins 0 (knF .non .non (f.sd new) upf f.st f.wt)))) : wp_Grove_put_in_place [.hd jg, .hd old, .hd new] g k := by
  unfold wp_Grove_put_in_place wpOfS envS
  walk_at "psenv"
  unfold P_Grove_put_in_place
  cases hs : f.s with
  | false =>
    have e1 : f.sd old = .tup [.hd old, .hd f.o.ix] := by unfold Fr'.sd; rw [hs]; rfl
    have e2 : f.sd new = .tup [.hd new, .hd f.o.ix] := by unfold Fr'.sd; rw [hs]; rfl
    rw [e1] at hf
    rw [e2] at hk
    repeat walk_at "st"
    rw [decide_eq_true rfl]
    repeat walk_at "st"
    exact reS_i rfl rfl hk
  | true =>
    have e1 : f.sd old = .tup [.hd f.o.ix, .hd old] := by unfold Fr'.sd; rw [hs]; rfl
    have e2 : f.sd new = .tup [.hd f.o.ix, .hd new] := by unfold Fr'.sd; rw [hs]; rfl
    rw [e1] at hf
    rw [e2] at hk
    repeat walk_at "st"
    rw [decide_eq_false h2]
    repeat walk_at "st"
    exact reS_i rfl rfl hk
theorem KS.up {g g' : List Cell} {up up' : D} {t : KT} (h : KS g up t) (hn : t.ixs.Nodup) (hc : g'[t.ix]? = some (t.cell up')) (hf : ∀ j ∈ t.ixs, j ≠ t.ix → g'[j]? = g[j]?) : KS g' up' t := by
  cases t with
  | lf i s e => exact hc
  | nd i st wt a b =>
    obtain ⟨h1, h2, h3⟩ := h
    have hn := List.nodup_cons.mp (show (i :: (a.ixs ++ b.ixs)).Nodup from hn)
    have ne : ∀ j ∈ a.ixs ++ b.ixs, j ≠ i := fun j h q => hn.1 (q ▸ h)
    exact ⟨hc, h2.frame fun j hj => hf j (List.mem_cons_of_mem _ (List.mem_append_left _ hj)) (ne j (List.mem_append_left _ hj)), h3.frame fun j hj => hf j (List.mem_cons_of_mem _ (List.mem_append_right _ hj)) (ne j (List.mem_append_right _ hj))⟩
theorem cell_at {g : List Cell} {up : D} {t : KT} (h : KS g up t) : g[t.ix]? = some (.ins 0 (knF t.nmD t.edD t.sdD up t.stD t.wtD)) := h.at
theorem lt_of_at {g : List Cell} {i : Nat} {c : Cell} (h : g[i]? = some c) : i < g.length := (List.getElem?_eq_some_iff.mp h).1
/-- what a joint's making leaves -/
structure Rj (g g' : List Cell) (jg jk : Nat) (r : D) (n : Int) (l : List Nat) (s t' : KT) : Prop where
  ks : KS g' .non t'
  good : Good t'
  sk : t'.sk = s.sk
  fr : ∀ j, j ∉ l → j ≠ jg → j < g.length → g'[j]? = g[j]?
  len : g.length ≤ g'.length
  gr : g'[jg]? = some (.ins 1 (grF jk r n))
/-- a joint put in a knot's place -/
theorem pip_i {g : List Cell} {jg jk m : Nat} {r : D} {n : Int} {c : List Fr'} {t : KT} {nm' en' sd' up' st' wt' : D} {k : D → List Cell → Prop} (hK : KS g (upC c) t) (hc : CS g c t.ix) (hg : g[jg]? = some (.ins 1 (grF jk r n))) (hm : g[m]? = some (.ins 0 (knF nm' en' sd' up' st' wt'))) (hnd : (t.ixs ++ cxs c).Nodup) (hj : jg ∉ t.ixs ++ cxs c) (hmt : m ≠ t.ix) (hmc : m ∉ cxs c) (hmj : m ≠ jg)
    (hk : ∀ r' g2, g2[m]? = some (.ins 0 (knF nm' en' sd' (upC c) st' wt')) → g2[jg]? = some (.ins 1 (grF jk r' n)) → CS g2 c m → (∀ j, j ≠ m → j ≠ jg → j ∉ cxs c → g2[j]? = g[j]?) → g2.length = g.length → (r' = if c = [] then .hd m else r) → k .non g2) : wp_Grove_put_in_place [.hd jg, .hd t.ix, .hd m] g k := by
  have ct := cell_at hK
  have l3 := lt_of_at hg
  have lm := lt_of_at hm
  cases c with
  | nil =>
    refine pip_root ct hm hg hmj (hk (.hd m) _ ?_ ?_ trivial (fun j h1 h2 _ => set2 h1 h2) (by simp) rfl)
    · rw [List.getElem?_set_ne (Ne.symm hmj), List.getElem?_set_self lm]; rfl
    · rw [List.getElem?_set_self (by simpa using l3)]
  | cons f c =>
    obtain ⟨hf, hfo, hcc⟩ := hc
    have nd2 := List.nodup_append.mp hnd
    have fx : f.i ∈ cxs (f :: c) := List.mem_cons_self
    have fo : f.o.ix ∈ cxs (f :: c) := List.mem_cons_of_mem _ (List.mem_append_left _ (ix_mem f.o))
    have nd3 := List.nodup_cons.mp (show (f.i :: (f.o.ixs ++ cxs c)).Nodup from nd2.2.1)
    have lf := lt_of_at hf
    have jf : jg ≠ f.i := fun h => hj (List.mem_append_right _ (h ▸ fx))
    refine pip_up ct hm hf (cell_at hfo) (fun h => hmc (h ▸ fx)) (fun h => nd2.2.2 _ (ix_mem t) _ fo h.symm) (fun h => hmc (h ▸ fo)) hmt (hk r _ ?_ ?_ ⟨?_, hfo.frame fun j h => ?_, CS.frame hcc fun j h => ?_⟩ (fun j h1 h2 h3 => set2 h1 (fun e => h3 (e ▸ fx))) (by simp) rfl)
    · rw [List.getElem?_set_ne (fun h : f.i = m => hmc (h ▸ fx)), List.getElem?_set_self lm]; rfl
    · rw [set2 (Ne.symm hmj) jf]; exact hg
    · rw [List.getElem?_set_self (by simpa using lf)]
    · exact set2 (fun e => hmc (e ▸ List.mem_cons_of_mem _ (List.mem_append_left _ h))) (fun e => nd3.1 (e ▸ List.mem_append_left _ h))
    · exact set2 (fun e => hmc (e ▸ List.mem_cons_of_mem _ (List.mem_append_right _ h))) (fun e => nd3.1 (e ▸ List.mem_append_right _ h))
theorem join_ixs {c : List Fr'} {t : KT} {m q : Nat} {st wt : D} {s : Str} {e : En} : (plug c (nd m st wt t (lf q s e))).ixs.Perm (m :: q :: (plug c t).ixs) := by
  refine (plug_ixs c _).trans ?_
  simp only [ixs, List.cons_append, List.append_assoc]
  refine List.Perm.cons m ?_
  refine List.Perm.trans ?_ ((plug_ixs c t).symm.cons q)
  exact List.perm_middle
set_option maxHeartbeats 2000000 in
theorem join_i {g : List Cell} {jg jk q : Nat} {r : D} {n : Int} {c : List Fr'} {t : KT} {s : Str} {e : En} {k : D → List Cell → Prop} (hK : KS g .non (plug c t)) (hg : g[jg]? = some (.ins 1 (grF jk r n))) (hq : g[q]? = some (.ins 0 (knF (.str s) (enD e) (.tup []) .non (rowD [e]) (.int e.l)))) (gt : Good t) (gc : ∀ f ∈ c, Good f.o) (hnd : (plug c t).ixs.Nodup) (hj : jg ∉ (plug c t).ixs) (hqn : q ∉ (plug c t).ixs) (hqj : jg ≠ q) (hlt : ∀ i ∈ (plug c t).ixs, i < g.length)
    (hk : ∀ g' t', Rj g g' jg jk (if c = [] then .hd g.length else r) (n + c.length + 1) (q :: (plug c t).ixs) (plug c (nd g.length .non .non t (lf q s e))) t' → k .non g') : wp_Grove_join_beside [.hd jg, .hd t.ix, .hd q] g k := by
  have hp := plug_ixs c t
  obtain ⟨kt, kc⟩ := ks_plug.mp hK
  have ct := cell_at kt
  have l1 := lt_of_at ct
  have l2 := lt_of_at hq
  have l3 := lt_of_at hg
  have ndp := hp.nodup_iff.mp hnd
  have nd1 := List.nodup_append.mp ndp
  have q1 : q ≠ t.ix := fun h => hqn (hp.mem_iff.mpr (List.mem_append_left _ (h ▸ ix_mem t)))
  have j1 : jg ≠ t.ix := fun h => hj (hp.mem_iff.mpr (List.mem_append_left _ (h ▸ ix_mem t)))
  have eJ : (g ++ [Cell.ins 0 (knF .non .non (.tup [.hd t.ix, .hd q]) .non .non (.int 0))])[g.length]? = some (Cell.ins 0 (knF .non .non (.tup [.hd t.ix, .hd q]) .non .non (.int 0))) := by rw [List.getElem?_append_right (Nat.le_refl _)]; simp
  have hl1 : (g ++ [Cell.ins 0 (knF .non .non (.tup [.hd t.ix, .hd q]) .non .non (.int 0))]).length = g.length + 1 := by simp
  have fr1 : ∀ i, i < g.length → (g ++ [Cell.ins 0 (knF .non .non (.tup [.hd t.ix, .hd q]) .non .non (.int 0))])[i]? = g[i]? := fun i h => List.getElem?_append_left h
  unfold wp_Grove_join_beside wpOfS envS
  walk_at "psenv"
  unfold P_Grove_join_beside
  refine sSeq_setM ?_
  refine sSetM_i ?_
  refine mMakeS_i ?_
  repeat walk_at "st"
  refine knot_init ?_
  refine ⟨rfl, ?_⟩
  generalize g ++ [Cell.ins 0 (knF .non .non (.tup [.hd t.ix, .hd q]) .non .non (.int 0))] = g1 at *
  have hg1 : g1[jg]? = some (.ins 1 (grF jk r n)) := (fr1 _ l3).trans hg
  have hq1 := (fr1 _ l2).trans hq
  have kt1 : KS g1 (upC c) t := kt.frame fun i hi => fr1 i (hlt i (hp.mem_iff.mpr (List.mem_append_left _ hi)))
  have kc1 : CS g1 c t.ix := CS.frame kc fun i hi => fr1 i (hlt i (hp.mem_iff.mpr (List.mem_append_right _ hi)))
  have hm0 : g.length ∉ (plug c t).ixs := fun h => Nat.lt_irrefl _ (hlt _ h)
  repeat walk_at "st"
  refine pip_i kt1 kc1 hg1 eJ ndp (fun h => hj (hp.mem_iff.mpr h)) (by omega) (fun h => hm0 (hp.mem_iff.mpr (List.mem_append_right _ h))) (by omega) fun r' g2 a1 a2 a3 a4 a5 a6 => ?_
  have ct2 : g2[t.ix]? = some (.ins 0 (knF t.nmD t.edD t.sdD (upC c) t.stD t.wtD)) := (a4 _ (by omega) (Ne.symm j1) (fun h => nd1.2.2 _ (ix_mem t) _ h rfl)).trans (cell_at kt1)
  have hqc : q ∉ cxs c := fun h => hqn (hp.mem_iff.mpr (List.mem_append_right _ h))
  have hq2 := (a4 q (by omega) (Ne.symm hqj) hqc).trans hq1
  repeat walk_at "st"
  have l21 := lt_of_at ct2
  have l22 := lt_of_at hq2
  have l23 := lt_of_at a1
  have l24 := lt_of_at a2
  have b1 : ((g2.set t.ix (Cell.ins 0 (knF t.nmD t.edD t.sdD (.hd g.length) t.stD t.wtD))).set q (Cell.ins 0 (knF (.str s) (enD e) (.tup []) (.hd g.length) (rowD [e]) (.int e.l))))[t.ix]? = some (t.cell (.hd g.length)) := by
    rw [List.getElem?_set_ne q1, List.getElem?_set_self l21]; rfl
  have b2 : ((g2.set t.ix (Cell.ins 0 (knF t.nmD t.edD t.sdD (.hd g.length) t.stD t.wtD))).set q (Cell.ins 0 (knF (.str s) (enD e) (.tup []) (.hd g.length) (rowD [e]) (.int e.l))))[q]? = some ((lf q s e).cell (.hd g.length)) := by
    rw [List.getElem?_set_self (by simpa using l22)]; rfl
  have b3 : ∀ j, j ≠ t.ix → j ≠ q → ((g2.set t.ix (Cell.ins 0 (knF t.nmD t.edD t.sdD (.hd g.length) t.stD t.wtD))).set q (Cell.ins 0 (knF (.str s) (enD e) (.tup []) (.hd g.length) (rowD [e]) (.int e.l))))[j]? = g2[j]? := fun j h1 h2 => set2 h1 h2
  have b4 : ((g2.set t.ix (Cell.ins 0 (knF t.nmD t.edD t.sdD (.hd g.length) t.stD t.wtD))).set q (Cell.ins 0 (knF (.str s) (enD e) (.tup []) (.hd g.length) (rowD [e]) (.int e.l)))).length = g2.length := by simp
  show wp_Grove_reckon [.hd jg, .hd g.length] ((g2.set t.ix (Cell.ins 0 (knF t.nmD t.edD t.sdD (.hd g.length) t.stD t.wtD))).set q (Cell.ins 0 (knF (.str s) (enD e) (.tup []) (.hd g.length) (rowD [e]) (.int e.l)))) _
  generalize (g2.set t.ix (Cell.ins 0 (knF t.nmD t.edD t.sdD (.hd g.length) t.stD t.wtD))).set q (Cell.ins 0 (knF (.str s) (enD e) (.tup []) (.hd g.length) (rowD [e]) (.int e.l))) = g4 at *
  have inT : ∀ {j}, j ∈ t.ixs → j ∈ (plug c t).ixs := fun h => hp.mem_iff.mpr (List.mem_append_left _ h)
  have inC : ∀ {j}, j ∈ cxs c → j ∈ (plug c t).ixs := fun h => hp.mem_iff.mpr (List.mem_append_right _ h)
  have c1 : KS g4 (.hd g.length) t := kt1.up nd1.1 b1 fun j h1 h2 => by
    rw [b3 j h2 (fun h => hqn (inT (h ▸ h1))), a4 j (fun h => hm0 (inT (h ▸ h1))) (fun h => hj (inT (h ▸ h1))) (fun h => nd1.2.2 _ h1 _ h rfl)]
  have c2 : CS g4 c g.length := CS.frame a3 fun j h => b3 j (fun e => nd1.2.2 _ (ix_mem t) _ (e ▸ h) rfl) (fun e => hqc (e ▸ h))
  have c3 : g4[g.length]? = some ((nd g.length .non (.int 0) t (lf q s e)).cell (upC c)) := (b3 _ (by omega) (by omega)).trans a1
  have hT : KS g4 .non (plug c (nd g.length .non (.int 0) t (lf q s e))) := ks_plug.mpr ⟨⟨c3, c1, b2⟩, c2⟩
  have hpT := join_ixs (c := c) (t := t) (m := g.length) (q := q) (st := .non) (wt := .int 0) (s := s) (e := e)
  have hmq : g.length ≠ q := by omega
  refine reckon_i hT ((b3 _ j1 hqj).trans a2) gt trivial gc (hpT.nodup_iff.mpr ?_) (fun h => ?_) fun g' t' R => ?_
  · refine List.nodup_cons.mpr ⟨?_, List.nodup_cons.mpr ⟨hqn, hnd⟩⟩
    rw [List.mem_cons]
    exact fun h => h.elim hmq hm0
  · rcases List.mem_cons.mp (hpT.mem_iff.mp h) with h | h
    · omega
    · rcases List.mem_cons.mp h with h | h
      · exact hqj h
      · exact hj h
  · refine reS_i rfl rfl (hk g' t' ⟨R.ks, R.good, R.sk.trans (plug_sk c rfl), fun j h1 h2 h3 => ?_, by rw [R.len, b4, a5, hl1]; omega, a6 ▸ R.gr⟩)
    have n1 : j ≠ q := fun h => h1 (h ▸ List.mem_cons_self)
    have n2 : j ∉ (plug c t).ixs := fun h => h1 (List.mem_cons_of_mem _ h)
    rw [R.fr j (fun h => ?_) h2, b3 j (fun h => n2 (h ▸ inT (ix_mem t))) n1, a4 j (by omega) h2 (fun h => n2 (inC h)), fr1 j h3]
    rcases List.mem_cons.mp (hpT.mem_iff.mp h) with h | h
    · omega
    · rcases List.mem_cons.mp h with h | h
      · exact n1 h
      · exact n2 h
abbrev Lv := Str × Nat × En
abbrev aD (F : Lv → D) (L : List Lv) : List (Key × D) := L.map fun x => ((.inr x.1 : Key), F x)
abbrev kvD (L : List Lv) := aD (fun x => .hd x.2.1) L
abbrev ekD (L : List Lv) := aD (fun x => enD x.2.2) L
theorem val_mem {F : Lv → D} : ∀ {L : List Lv} {x : Lv}, (L.map (·.1)).Nodup → x ∈ L → valD (aD F L) (.inr x.1) = some (F x)
  | y :: L, x, hn, h => by
    have hn := List.nodup_cons.mp (show (y.1 :: L.map (·.1)).Nodup from hn)
    unfold valD
    rw [aD, List.map_cons, List.find?_cons]
    rcases List.mem_cons.mp h with rfl | h
    · simp
    · have : y.1 ≠ x.1 := fun e => hn.1 (e ▸ List.mem_map.mpr ⟨x, h, rfl⟩)
      rw [decide_eq_false (fun e : (Sum.inr y.1 : Key) = Sum.inr x.1 => this (Sum.inr.inj e))]
      exact val_mem hn.2 h
theorem val_none {F : Lv → D} {L : List Lv} {s : Str} (h : s ∉ L.map (·.1)) : valD (aD F L) (.inr s) = none := by
  unfold valD
  rw [List.find?_eq_none.mpr, Option.map_none]
  intro kv hkv q
  obtain ⟨x, hx, rfl⟩ := List.mem_map.mp hkv
  exact h (List.mem_map.mpr ⟨x, hx, Sum.inr.inj (of_decide_eq_true q)⟩)
theorem put_new {F : Lv → D} {L : List Lv} {x : Lv} (h : x.1 ∉ L.map (·.1)) : putD (aD F L) (.inr x.1) (F x) = aD F (L ++ [x]) := by
  unfold putD
  rw [if_neg]
  · exact (List.map_append (f := fun x : Lv => ((.inr x.1 : Key), F x)) (l₁ := L) (l₂ := [x])).symm
  · intro q
    obtain ⟨kv, hkv, e⟩ := List.any_eq_true.mp q
    obtain ⟨y, hy, rfl⟩ := List.mem_map.mp hkv
    exact h (List.mem_map.mpr ⟨y, hy, Sum.inr.inj (of_decide_eq_true e)⟩)
theorem drop_of {F : Lv → D} {L : List Lv} {s : Str} : dropD (aD F L) (.inr s) = aD F (L.filter fun x => decide (x.1 ≠ s)) := by
  unfold dropD
  rw [List.filter_map]
  congr 1
  apply List.filter_congr
  intro x _
  simp
/-- a grove stands -/
def rtD : Option KT → D | none => .non | some t => .hd t.ix
def trOk (g : List Cell) (jg jk : Nat) (L : List Lv) : Option KT → Prop
  | none => L = []
  | some t => KS g .non t ∧ Good t ∧ t.ixs.Nodup ∧ jg ∉ t.ixs ∧ jk ∉ t.ixs ∧ t.lvs.Perm L
structure GV (g : List Cell) (jg jk : Nat) (T : Option KT) (L : List Lv) (n : Int) : Prop where
  gr : g[jg]? = some (.ins 1 (grF jk (rtD T) n))
  kn : g[jk]? = some (.dic (kvD L))
  nd : (L.map (·.1)).Nodup
  le : L.length ≤ 24
  jne : jg ≠ jk
  tr : trOk g jg jk L T
theorem ch_of {g : List Cell} : ∀ {c : List Fr'} {t : KT}, KS g (upC c) t → CS g c t.ix → Ch g t.ix (c.map Fr'.i)
  | [], t, h, _ => ⟨_, _, _, _, _, cell_at h⟩
  | f :: c, t, h, hc => by
    refine ⟨⟨_, _, _, _, _, cell_at h⟩, ?_⟩
    have q := ks_fill.mpr ⟨h, hc⟩
    have := ch_of (c := c) (t := f.fill t) q.1 (by rw [fill_ix]; exact q.2)
    rw [fill_ix] at this
    exact this
theorem chain_at : ∀ {c1 c2 : List Fr'} {t : KT}, (t.ix :: (c1 ++ c2).map Fr'.i)[c1.length]? = some (plug c1 t).ix
  | [], c2, t => rfl
  | f :: c1, c2, t => by
    have := chain_at (c1 := c1) (c2 := c2) (t := f.fill t)
    rw [fill_ix] at this
    exact this
theorem plug_app : ∀ {c1 c2 : List Fr'} {t : KT}, plug (c1 ++ c2) t = plug c2 (plug c1 t)
  | [], _, _ => rfl
  | f :: c1, c2, t => plug_app (c1 := c1) (c2 := c2) (t := f.fill t)
def cls : List Fr' → List Lv | [] => [] | f :: c => f.o.lvs ++ cls c
theorem fill_lvs (f : Fr') (t : KT) : (f.fill t).lvs.Perm (t.lvs ++ f.o.lvs) := by
  unfold Fr'.fill
  split
  · exact List.perm_append_comm
  · exact List.Perm.refl _
theorem plug_lvs : ∀ (c : List Fr') (t : KT), (plug c t).lvs.Perm (t.lvs ++ cls c)
  | [], t => by simp [plug, cls]
  | f :: c, t => by
    refine (plug_lvs c (f.fill t)).trans ?_
    refine ((fill_lvs f t).append_right (cls c)).trans ?_
    simp only [cls, List.append_assoc]
    exact List.Perm.refl _
theorem lvs_pos : ∀ t : KT, 0 < t.lvs.length
  | lf _ _ _ => Nat.one_pos
  | nd _ _ _ a b => by simp only [lvs, List.length_append]; have := lvs_pos a; omega
theorem cls_len : ∀ c : List Fr', c.length ≤ (cls c).length
  | [] => Nat.le_refl _
  | f :: c => by simp only [cls, List.length_append, List.length_cons]; have := cls_len c; have := lvs_pos f.o; omega
theorem ctx_len {c : List Fr'} {t : KT} {L : List Lv} (h : (plug c t).lvs.Perm L) (hl : L.length ≤ 24) : c.length ≤ 23 := by
  have h1 := (plug_lvs c t).length_eq
  have h2 := h.length_eq
  have := cls_len c
  have := lvs_pos t
  rw [List.length_append] at h1
  omega
theorem good_plug : ∀ {c : List Fr'} {t : KT}, Good (plug c t) → Good t ∧ ∀ f ∈ c, Good f.o
  | [], t, h => ⟨h, fun f q => nomatch q⟩
  | f :: c, t, h => by
    obtain ⟨h1, h2⟩ := good_plug (c := c) (t := f.fill t) h
    have : Good t ∧ Good f.o := by
      unfold Fr'.fill at h1
      cases hs : f.s with
      | true => rw [hs] at h1; exact ⟨h1.2.2.2, h1.2.2.1⟩
      | false => rw [hs] at h1; exact ⟨h1.2.2.1, h1.2.2.2⟩
    exact ⟨this.1, fun f' q => (List.mem_cons.mp q).elim (fun e => e ▸ this.2) (h2 f')⟩
theorem find_ctx : ∀ {t : KT} {x : Lv}, x ∈ t.lvs → ∃ c, t = plug c (lf x.2.1 x.1 x.2.2)
  | lf i s e, x, h => ⟨[], by rw [List.mem_singleton.mp h]; rfl⟩
  | nd i st wt a b, x, h => by
    rcases List.mem_append.mp (show x ∈ a.lvs ++ b.lvs from h) with h | h
    · obtain ⟨c, e⟩ := find_ctx h
      exact ⟨c ++ [⟨i, st, wt, false, b⟩], by rw [plug_app, ← e]; rfl⟩
    · obtain ⟨c, e⟩ := find_ctx h
      exact ⟨c ++ [⟨i, st, wt, true, a⟩], by rw [plug_app, ← e]; rfl⟩
theorem KS.lts {g : List Cell} : ∀ {up : D} {t : KT}, KS g up t → ∀ i ∈ t.ixs, i < g.length
  | _, lf i s e, h, j, hj => by rw [List.mem_singleton.mp hj]; exact lt_of_at h
  | _, nd i st wt a b, ⟨h1, h2, h3⟩, j, hj => by
    rcases List.mem_cons.mp (show j ∈ i :: (a.ixs ++ b.ixs) from hj) with rfl | hj
    · exact lt_of_at h1
    · rcases List.mem_append.mp hj with hj | hj
      · exact h2.lts j hj
      · exact h3.lts j hj
/-- a knot of a chain is found -/
theorem at_i {g : List Cell} {jg jk i : Nat} {c1 c2 : List Fr'} {L : List Lv} {n : Int} {s : Str} {e : En} {k : D → List Cell → Prop} (G : GV g jg jk (some (plug (c1 ++ c2) (lf i s e))) L n) (hk : k (.hd (plug c1 (lf i s e)).ix) g) : wp_Grove_knot_at [.hd jg, .str s, .int c1.length] g k := by
  obtain ⟨h1, h2, h3, h4, h5, h6⟩ := G.tr
  have hks := ks_plug.mp h1
  have hm : (s, i, e) ∈ L := h6.mem_iff.mp ((plug_lvs _ _).mem_iff.mpr (List.mem_append_left _ List.mem_cons_self))
  have hl := ctx_len h6 G.le
  refine knot_at_i (i := i) G.gr G.kn (val_mem (x := (s, i, e)) G.nd hm) (ch_of hks.1 hks.2) (by simpa using Nat.le_trans hl (by decide)) (by simp) fun x hx => ?_
  have := chain_at (c1 := c1) (c2 := c2) (t := lf i s e)
  rw [show (lf i s e).ix = i from rfl, hx] at this
  cases this
  exact hk
theorem row_i {g : List Cell} {jg jk i : Nat} {c1 c2 : List Fr'} {L : List Lv} {n : Int} {s : Str} {e : En} {k : D → List Cell → Prop} (G : GV g jg jk (some (plug (c1 ++ c2) (lf i s e))) L n) (hk : k (rowD (plug c1 (lf i s e)).ls) g) : wp_Grove_row [.hd jg, .str s, .int c1.length] g k := by
  obtain ⟨h1, h2, h3, h4, h5, h6⟩ := G.tr
  rw [plug_app] at h1 h2
  have ct := cell_at (ks_plug.mp h1).1
  rw [(good_plug h2).1.st.1] at ct
  have hg := G.gr
  unfold wp_Grove_row wpOfS envS
  walk_at "psenv"
  unfold P_Grove_row
  repeat walk_at "st"
  refine at_i G ?_
  repeat walk_at "st"
  exact reS_i rfl rfl hk
theorem load_i {g : List Cell} {jg jk i : Nat} {c1 c2 : List Fr'} {L : List Lv} {n : Int} {s : Str} {e : En} {k : D → List Cell → Prop} (G : GV g jg jk (some (plug (c1 ++ c2) (lf i s e))) L n) (hk : k (.int (sumw (plug c1 (lf i s e)).ls)) g) : wp_Grove_load [.hd jg, .str s, .int c1.length] g k := by
  obtain ⟨h1, h2, h3, h4, h5, h6⟩ := G.tr
  rw [plug_app] at h1 h2
  have ct := cell_at (ks_plug.mp h1).1
  rw [(good_plug h2).1.st.2] at ct
  have hg := G.gr
  unfold wp_Grove_load wpOfS envS
  walk_at "psenv"
  unfold P_Grove_load
  repeat walk_at "st"
  refine at_i G ?_
  repeat walk_at "st"
  exact reS_i rfl rfl hk
def ixsO : Option KT → List Nat | none => [] | some t => t.ixs
/-- what a step of the grove leaves as it was -/
structure Nx (g g' : List Cell) (jg jk : Nat) (T T' : Option KT) : Prop where
  fr : ∀ j, j ∉ ixsO T → j ≠ jg → j ≠ jk → j < g.length → g'[j]? = g[j]?
  len : g.length ≤ g'.length
  own : ∀ j ∈ ixsO T', j ∈ ixsO T ∨ g.length ≤ j
def goT : List Fr' → Option KT | [] => none | f :: c => some (plug c f.o)
theorem plug_ix : ∀ {c : List Fr'} {t t' : KT}, t.ix = t'.ix → (plug c t).ix = (plug c t').ix
  | [], _, _, h => h
  | f :: c, t, t', h => plug_ix (c := c) (by rw [fill_ix, fill_ix])
set_option maxHeartbeats 2000000 in
theorem go_i {g : List Cell} {jg jk i : Nat} {c : List Fr'} {L : List Lv} {n : Int} {s : Str} {e : En} {k : D → List Cell → Prop} (G : GV g jg jk (some (plug c (lf i s e))) L n)
    (hk : ∀ g' T', GV g' jg jk T' (L.filter fun x => decide (x.1 ≠ s)) (n + (c.length - 1 : Nat)) → T'.map KT.sk = (goT c).map KT.sk → Nx g g' jg jk (some (plug c (lf i s e))) T' → k .non g') : wp_Grove_go [.hd jg, .str s] g k := by
  obtain ⟨h1, h2, h3, h4, h5, h6⟩ := G.tr
  have hg := G.gr
  have hkn := G.kn
  have hks := ks_plug.mp h1
  have hm : (s, i, e) ∈ L := h6.mem_iff.mp ((plug_lvs _ _).mem_iff.mpr (List.mem_append_left _ List.mem_cons_self))
  have hpx := plug_ixs c (lf i s e)
  have hi : i ∈ (plug c (lf i s e)).ixs := hpx.mem_iff.mpr (List.mem_append_left _ List.mem_cons_self)
  have ci : g[i]? = some (.ins 0 (knF (.str s) (enD e) (.tup []) (upC c) (rowD [e]) (.int e.l))) := hks.1.at
  have lj := lt_of_at hg
  have lk := lt_of_at hkn
  have nji : jg ≠ i := fun q => h4 (q ▸ hi)
  have nki : jk ≠ i := fun q => h5 (q ▸ hi)
  have njk := G.jne
  have hle : (L.filter fun x => decide (x.1 ≠ s)).length ≤ 24 := Nat.le_trans (List.length_filter_le _ _) G.le
  have hnd : ((L.filter fun x => decide (x.1 ≠ s)).map (·.1)).Nodup := (List.filter_sublist.map _).nodup G.nd
  unfold wp_Grove_go wpOfS envS
  walk_at "psenv"
  unfold P_Grove_go
  refine sSeq_setM ?_
  refine sSetM_i ?_
  repeat walk_at "st"
  refine at_i (c1 := []) (c2 := c) G ?_
  have hv : (valD (kvD L) (.inr s)).isSome = true := by rw [val_mem (x := (s, i, e)) G.nd hm]; rfl
  repeat walk_at "st"
  refine ⟨hv, ?_⟩
  rw [drop_of]
  have k1 : (g.set jk (.dic (kvD (L.filter fun x => decide (x.1 ≠ s)))))[jk]? = some (.dic (kvD (L.filter fun x => decide (x.1 ≠ s)))) := List.getElem?_set_self lk
  have fr1 : ∀ j, j ≠ jk → (g.set jk (.dic (kvD (L.filter fun x => decide (x.1 ≠ s)))))[j]? = g[j]? := fun j h => List.getElem?_set_ne (Ne.symm h)
  have l1 : (g.set jk (.dic (kvD (L.filter fun x => decide (x.1 ≠ s))))).length = g.length := by simp
  refine nx_s ?_
  show sSeq _ _ [SV.val (.hd jg), SV.val (.str s), SV.val (.hd i), SV.no, SV.no, SV.no, SV.no, SV.gs (g.set jk (.dic (kvD (L.filter fun x => decide (x.1 ≠ s)))))] _
  generalize g.set jk (.dic (kvD (L.filter fun x => decide (x.1 ≠ s)))) = g1 at *
  have hg1 := (fr1 jg njk).trans hg
  have ci1 := (fr1 i (Ne.symm nki)).trans ci
  cases c with
  | nil =>
    replace ci1 : g1[i]? = some (.ins 0 (knF (.str s) (enD e) (.tup []) .non (rowD [e]) (.int e.l))) := ci1
    repeat walk_at "st"
    refine reS_i rfl rfl ?_
    have hL : (L.filter fun x => decide (x.1 ≠ s)) = [] := by
      have : L = [(s, i, e)] := List.perm_singleton.mp h6.symm
      rw [this]; simp
    rw [hL] at k1 hk
    refine hk _ none ⟨?_, ?_, List.nodup_nil, Nat.zero_le _, njk, rfl⟩ rfl ⟨fun j a b c d => ?_, by simp [l1], fun j h => by cases h⟩
    · show _ = some (Cell.ins 1 (grF jk .non (n + 0)))
      rw [Int.add_zero]
      exact List.getElem?_set_self (by omega)
    · rw [List.getElem?_set_ne njk]; exact k1
    · rw [List.getElem?_set_ne (Ne.symm b)]; exact fr1 j c
  | cons f c =>
    replace ci1 : g1[i]? = some (.ins 0 (knF (.str s) (enD e) (.tup []) (.hd f.i) (rowD [e]) (.int e.l))) := ci1
    have hpf : (plug (f :: c) (lf i s e)).ixs.Perm (i :: f.i :: (f.o.ixs ++ cxs c)) := hpx
    have ndf := hpf.nodup_iff.mp h3
    have nd1 := List.nodup_cons.mp ndf
    have nd2 := List.nodup_cons.mp nd1.2
    have nd3 := List.nodup_append.mp nd2.2
    have inO : ∀ {j}, j ∈ f.o.ixs → j ∈ (plug (f :: c) (lf i s e)).ixs := fun h => hpf.mem_iff.mpr (List.mem_cons_of_mem _ (List.mem_cons_of_mem _ (List.mem_append_left _ h)))
    have inC : ∀ {j}, j ∈ cxs c → j ∈ (plug (f :: c) (lf i s e)).ixs := fun h => hpf.mem_iff.mpr (List.mem_cons_of_mem _ (List.mem_cons_of_mem _ (List.mem_append_right _ h)))
    have inF : f.i ∈ (plug (f :: c) (lf i s e)).ixs := hpf.mem_iff.mpr (List.mem_cons_of_mem _ List.mem_cons_self)
    have fr1k : ∀ j ∈ (plug (f :: c) (lf i s e)).ixs, g1[j]? = g[j]? := fun j h => fr1 j (fun q => h5 (q ▸ h))
    have hks1 : KS g1 .non (plug (f :: c) (lf i s e)) := h1.frame fr1k
    have q1 := ks_fill.mpr (ks_plug.mp hks1)
    obtain ⟨-, cf, ko, kc⟩ := ks_plug.mp hks1
    replace cf : g1[f.i]? = some (.ins 0 (knF .non .non (f.sd i) (upC c) f.st f.wt)) := cf
    have co := cell_at ko
    have noi : f.o.ix ≠ i := fun q => nd1.1 (q ▸ List.mem_cons_of_mem _ (List.mem_append_left _ (ix_mem f.o)))
    have nof : f.o.ix ≠ f.i := fun q => nd2.1 (q ▸ List.mem_append_left _ (ix_mem f.o))
    have noc : f.o.ix ∉ cxs c := fun q => nd3.2.2 _ (ix_mem f.o) _ q rfl
    have njo : f.o.ix ≠ jg := fun q => h4 (q ▸ inO (ix_mem f.o))
    have hperm : ((f.fill (lf i s e)).ixs ++ cxs c).Perm (i :: f.i :: (f.o.ixs ++ cxs c)) := cxs_fill
    have pip : ∀ K0 : D → List Cell → Prop, (∀ r' g2, g2[f.o.ix]? = some (.ins 0 (knF f.o.nmD f.o.edD f.o.sdD (upC c) f.o.stD f.o.wtD)) → g2[jg]? = some (.ins 1 (grF jk r' n)) → CS g2 c f.o.ix → (∀ j, j ≠ f.o.ix → j ≠ jg → j ∉ cxs c → g2[j]? = g1[j]?) → g2.length = g1.length → (r' = if c = [] then .hd f.o.ix else rtD (some (plug (f :: c) (lf i s e)))) → K0 .non g2) → wp_Grove_put_in_place [.hd jg, .hd f.i, .hd f.o.ix] g1 K0 := fun K0 hK0 => by
      have := pip_i (t := f.fill (lf i s e)) (c := c) (k := K0) q1.1 (by rw [fill_ix]; exact q1.2) hg1 co (hperm.nodup_iff.mpr ndf) (fun h => h4 (hpf.mem_iff.mpr (hperm.mem_iff.mp h))) (by rw [fill_ix]; exact nof) noc njo hK0
      rw [fill_ix] at this
      exact this
    have fin : ∀ r' g2, g2[f.o.ix]? = some (.ins 0 (knF f.o.nmD f.o.edD f.o.sdD (upC c) f.o.stD f.o.wtD)) → g2[jg]? = some (.ins 1 (grF jk r' n)) → CS g2 c f.o.ix → (∀ j, j ≠ f.o.ix → j ≠ jg → j ∉ cxs c → g2[j]? = g1[j]?) → g2.length = g1.length → (r' = if c = [] then .hd f.o.ix else rtD (some (plug (f :: c) (lf i s e)))) → ∀ K0 : D → List Cell → Prop, (∀ g', k .non g' → K0 .non g') → wp_Grove_reckon [.hd jg, upC c] g2 K0 := by
      intro r' g2 a1 a2 a3 a4 a5 a6 K0 hK0
      have hgood := good_plug h2
      have gfo := hgood.2 f List.mem_cons_self
      have ko2 : KS g2 (upC c) f.o := ko.up nd3.1 a1 fun j h1 h2 => a4 j h2 (fun q => h4 (q ▸ inO h1)) (fun q => nd3.2.2 _ h1 _ q rfl)
      have hT : KS g2 .non (plug c f.o) := ks_plug.mpr ⟨ko2, a3⟩
      have hp2 := plug_ixs c f.o
      have in2 : ∀ {j}, j ∈ (plug c f.o).ixs → j ∈ (plug (f :: c) (lf i s e)).ixs := fun h => (List.mem_append.mp (hp2.mem_iff.mp h)).elim inO inC
      have fr2 : ∀ j, j ∉ (plug (f :: c) (lf i s e)).ixs → j ≠ jg → g2[j]? = g1[j]? := fun j h1 h2 => a4 j (fun q => h1 (q ▸ inO (ix_mem f.o))) h2 (fun q => h1 (inC q))
      have hLp : (plug c f.o).lvs.Perm (L.filter fun x => decide (x.1 ≠ s)) := by
        have p1 : ((s, i, e) :: (f.o.lvs ++ cls c)).Perm L := (plug_lvs (f :: c) (lf i s e)).symm.trans h6
        have p2 := p1.filter (fun x => decide (x.1 ≠ s))
        have n1 := (p1.map (·.1)).nodup_iff.mpr G.nd
        rw [List.map_cons] at n1
        have n2 := (List.nodup_cons.mp n1).1
        have fe : ((f.o.lvs ++ cls c).filter fun x => decide (x.1 ≠ s)) = f.o.lvs ++ cls c := List.filter_eq_self.mpr fun x hx => by
          have : x.1 ≠ s := fun q => n2 (q ▸ List.mem_map.mpr ⟨x, hx, rfl⟩)
          simp [this]
        rw [List.filter_cons_of_neg (by simp), fe] at p2
        exact (plug_lvs c f.o).trans p2
      have close : ∀ (g' : List Cell) (T' : KT), KS g' .non T' → Good T' → T'.sk = (plug c f.o).sk → (∀ j, j ∉ (plug c f.o).ixs → j ≠ jg → g'[j]? = g2[j]?) → g'.length = g2.length → g'[jg]? = some (.ins 1 (grF jk (.hd T'.ix) (n + c.length))) → k .non g' := fun g' T' b1 b2 b3 b4 b5 b6 => by
        have ei : T'.ixs = (plug c f.o).ixs := by rw [← sk_ixs T', b3, sk_ixs]
        have el : T'.lvs = (plug c f.o).lvs := by rw [← sk_lvs T', b3, sk_lvs]
        refine hk g' (some T') ⟨b6, ?_, hnd, hle, njk, b1, b2, ?_, ?_, ?_, ?_⟩ (congrArg some b3) ⟨fun j x1 x2 x3 x4 => ?_, ?_, fun j hj => .inl ?_⟩
        · rw [b4 jk (fun h => h5 (in2 h)) (Ne.symm njk), fr2 jk h5 (Ne.symm njk)]; exact k1
        · rw [ei]; exact hp2.nodup_iff.mpr nd2.2
        · rw [ei]; exact fun h => h4 (in2 h)
        · rw [ei]; exact fun h => h5 (in2 h)
        · rw [el]; exact hLp
        · rw [b4 j (fun h => x1 (in2 h)) x2, fr2 j x1 x2, fr1 j x3]
        · rw [b5, a5, l1]; exact Nat.le_refl _
        · exact in2 (ei ▸ (show j ∈ T'.ixs from hj))
      cases c with
      | nil =>
        refine reckon_none (hK0 _ (close g2 f.o hT gfo rfl (fun _ _ _ => rfl) rfl ?_))
        rw [a2, a6]
        show some (Cell.ins 1 (grF jk (.hd f.o.ix) n)) = some (Cell.ins 1 (grF jk (.hd f.o.ix) (n + 0)))
        rw [Int.add_zero]
      | cons f2 c2 =>
        obtain ⟨a', b', hfe, ga, gb⟩ := good_fill (hgood.2 f2 (List.mem_cons_of_mem _ List.mem_cons_self)) gfo
        have hT2 : KS g2 .non (plug c2 (f2.fill f.o)) := hT
        have hp3 : (plug (f2 :: c2) f.o) = plug c2 (nd f2.i f2.st f2.wt a' b') := by rw [← hfe]; rfl
        rw [hfe] at hT2
        refine reckon_i (c := c2) hT2 a2 ga gb (fun f' h => hgood.2 f' (List.mem_cons_of_mem _ (List.mem_cons_of_mem _ h))) (hp3 ▸ hp2.nodup_iff.mpr nd2.2) (fun h => h4 (in2 (hp3 ▸ h))) fun g' t' R => hK0 _ (close g' t' R.ks R.good (R.sk.trans (by rw [hp3])) (fun j h1 h2 => R.fr j (fun h => h1 (hp3 ▸ h)) h2) R.len ?_)
        have hix : t'.ix = (plug (f :: f2 :: c2) (lf i s e)).ix := by
          rw [← sk_ix t', R.sk, sk_ix, ← hp3]
          show (plug c2 (f2.fill f.o)).ix = (plug c2 (f2.fill (f.fill (lf i s e)))).ix
          exact plug_ix (by rw [fill_ix, fill_ix])
        rw [R.gr, a6, if_neg (by simp), hix, show n + ((f2 :: c2).length : Int) = n + c2.length + 1 by rw [List.length_cons]; omega]
        rfl
    cases hs : f.s with
    | false =>
      have e1 : f.sd i = .tup [.hd i, .hd f.o.ix] := by unfold Fr'.sd; rw [hs]; rfl
      rw [e1] at cf
      repeat walk_at "st"
      rw [decide_eq_true rfl]
      repeat walk_at "st"
      refine pip _ fun r' g2 a1 a2 a3 a4 a5 a6 => ?_
      repeat walk_at "st"
      exact fin r' g2 a1 a2 a3 a4 a5 a6 _ fun g' h => reS_i rfl rfl h
    | true =>
      have e1 : f.sd i = .tup [.hd f.o.ix, .hd i] := by unfold Fr'.sd; rw [hs]; rfl
      rw [e1] at cf
      repeat walk_at "st"
      rw [decide_eq_false noi]
      repeat walk_at "st"
      refine pip _ fun r' g2 a1 a2 a3 a4 a5 a6 => ?_
      repeat walk_at "st"
      exact fin r' g2 a1 a2 a3 a4 a5 a6 _ fun g' h => reS_i rfl rfl h
theorem place_none {g : List Cell} {jg jk : Nat} {n : Int} {k : D → List Cell → Prop} (G : GV g jg jk none [] n) (hk : k .non g) : wp_Grove_place_beside [.hd jg, .non, .int 0] g k := by
  have hg := G.gr
  have hkn := G.kn
  unfold wp_Grove_place_beside wpOfS envS
  walk_at "psenv"
  unfold P_Grove_place_beside
  repeat walk_at "st"
  exact reS_i rfl rfl hk
theorem place_some {g : List Cell} {jg jk i : Nat} {c1 c2 : List Fr'} {L : List Lv} {n : Int} {s : Str} {e : En} {k : D → List Cell → Prop} (G : GV g jg jk (some (plug (c1 ++ c2) (lf i s e))) L n) (hk : k (.hd (plug c1 (lf i s e)).ix) g) : wp_Grove_place_beside [.hd jg, .str s, .int c1.length] g k := by
  have hg := G.gr
  have hkn := G.kn
  unfold wp_Grove_place_beside wpOfS envS
  walk_at "psenv"
  unfold P_Grove_place_beside
  repeat walk_at "st"
  refine at_i G ?_
  exact reS_i rfl rfl hk
theorem append_at {g : List Cell} {c : Cell} {i : Nat} {x : Cell} (h : g[i]? = some x) : (g ++ [c])[i]? = some x := by rw [List.getElem?_append_left (lt_of_at h)]; exact h
theorem append_new {g : List Cell} {c : Cell} : (g ++ [c])[g.length]? = some c := by rw [List.getElem?_append_right (Nat.le_refl _)]; simp
set_option maxHeartbeats 1000000 in
theorem come_first {g : List Cell} {jg jk : Nat} {s : Str} {e : En} {n : Int} {k : D → List Cell → Prop} (G : GV g jg jk none [] n)
    (hk : ∀ g', GV g' jg jk (some (lf g.length s e)) [(s, g.length, e)] n → Nx g g' jg jk none (some (lf g.length s e)) → k .non g') : wp_Grove_come [.hd jg, .str s, .int e.x, .int e.y, .int e.s, .int e.l, .non, .int 0] g k := by
  have hg := G.gr
  have hkn := G.kn
  have lj := lt_of_at hg
  have lk := lt_of_at hkn
  have njk := G.jne
  have hb : ((some (Sum.inr s : Key)).bind (valD (kvD []))).isSome = false := rfl
  unfold wp_Grove_come wpOfS envS
  walk_at "psenv"
  unfold P_Grove_come
  repeat walk_at "st"
  refine place_none G ?_
  repeat walk_at "st"
  refine end_knot_i (e := e) ?_
  have hg1 := append_at (c := Cell.ins 0 (knF (.str s) (enD e) (.tup []) .non (rowD [e]) (.int e.l))) hg
  have hk1 := append_at (c := Cell.ins 0 (knF (.str s) (enD e) (.tup []) .non (rowD [e]) (.int e.l))) hkn
  have hq := append_new (g := g) (c := Cell.ins 0 (knF (.str s) (enD e) (.tup []) .non (rowD [e]) (.int e.l)))
  have fr1 : ∀ j, j < g.length → (g ++ [Cell.ins 0 (knF (.str s) (enD e) (.tup []) .non (rowD [e]) (.int e.l))])[j]? = g[j]? := fun j h => List.getElem?_append_left h
  have l1 : (g ++ [Cell.ins 0 (knF (.str s) (enD e) (.tup []) .non (rowD [e]) (.int e.l))]).length = g.length + 1 := by simp
  generalize g ++ [Cell.ins 0 (knF (.str s) (enD e) (.tup []) .non (rowD [e]) (.int e.l))] = g1 at *
  repeat walk_at "st"
  refine reS_i rfl rfl (hk _ ⟨?_, ?_, ?_, by simp, njk, ?_, trivial, ?_, ?_, ?_, List.Perm.refl _⟩ ⟨fun j _ h1 h2 h3 => ?_, by simp only [List.length_set]; omega, fun j hj => .inr ?_⟩)
  · exact List.getElem?_set_self (by simp only [List.length_set]; omega)
  · rw [List.getElem?_set_ne njk, List.getElem?_set_self (by omega)]; rfl
  · simp
  · show _ = _
    rw [set2 (by omega) (by omega)]; exact hq
  · simp [ixs]
  · simp [ixs]; omega
  · simp [ixs]; omega
  · rw [set2 h2 h1]; exact fr1 j h3
  · rw [List.mem_singleton.mp hj]; exact Nat.le_refl _
set_option maxHeartbeats 2000000 in
theorem come_i {g : List Cell} {jg jk i : Nat} {c1 c2 : List Fr'} {L : List Lv} {s b : Str} {e e0 : En} {n : Int} {k : D → List Cell → Prop} (G : GV g jg jk (some (plug (c1 ++ c2) (lf i b e0))) L n) (hs : s ∉ L.map (·.1)) (hl : L.length < 24)
    (hk : ∀ g' T', GV g' jg jk (some T') (L ++ [(s, g.length, e)]) (n + c2.length + 1) → (∃ m, T'.sk = (plug c2 (nd m .non .non (plug c1 (lf i b e0)) (lf g.length s e))).sk) → Nx g g' jg jk (some (plug (c1 ++ c2) (lf i b e0))) (some T') → k .non g') : wp_Grove_come [.hd jg, .str s, .int e.x, .int e.y, .int e.s, .int e.l, .str b, .int c1.length] g k := by
  have hg := G.gr
  have hkn := G.kn
  have lj := lt_of_at hg
  have lk := lt_of_at hkn
  have njk := G.jne
  obtain ⟨h1, h2, h3, h4, h5, h6⟩ := G.tr
  have hb : ((some (Sum.inr s : Key)).bind (valD (kvD L))).isSome = false := by rw [Option.bind_some, val_none hs]; rfl
  have hlen : ¬ ((kvD L).length : Int) ≥ 24 := by simp; omega
  unfold wp_Grove_come wpOfS envS
  walk_at "psenv"
  unfold P_Grove_come
  repeat walk_at "st"
  rw [hb]
  repeat walk_at "st"
  refine place_some G ?_
  repeat walk_at "st"
  rw [decide_eq_false hlen]
  repeat walk_at "st"
  refine end_knot_i (e := e) ?_
  have hg1 := append_at (c := Cell.ins 0 (knF (.str s) (enD e) (.tup []) .non (rowD [e]) (.int e.l))) hg
  have hk1 := append_at (c := Cell.ins 0 (knF (.str s) (enD e) (.tup []) .non (rowD [e]) (.int e.l))) hkn
  have hq := append_new (g := g) (c := Cell.ins 0 (knF (.str s) (enD e) (.tup []) .non (rowD [e]) (.int e.l)))
  have fr1 : ∀ j, j < g.length → (g ++ [Cell.ins 0 (knF (.str s) (enD e) (.tup []) .non (rowD [e]) (.int e.l))])[j]? = g[j]? := fun j h => List.getElem?_append_left h
  have l1 : (g ++ [Cell.ins 0 (knF (.str s) (enD e) (.tup []) .non (rowD [e]) (.int e.l))]).length = g.length + 1 := by simp
  generalize g ++ [Cell.ins 0 (knF (.str s) (enD e) (.tup []) .non (rowD [e]) (.int e.l))] = g1 at *
  repeat walk_at "st"
  have hput : putD (kvD L) (.inr s) (.hd g.length) = kvD (L ++ [(s, g.length, e)]) := put_new (F := fun x => .hd x.2.1) (x := (s, g.length, e)) hs
  rw [hput]
  refine ⟨by simp; omega, ?_⟩
  have k2 : (g1.set jk (.dic (kvD (L ++ [(s, g.length, e)]))))[jk]? = some (.dic (kvD (L ++ [(s, g.length, e)]))) := List.getElem?_set_self (by omega)
  have fr2 : ∀ j, j ≠ jk → (g1.set jk (.dic (kvD (L ++ [(s, g.length, e)]))))[j]? = g1[j]? := fun j h => List.getElem?_set_ne (Ne.symm h)
  have l2 : (g1.set jk (.dic (kvD (L ++ [(s, g.length, e)])))).length = g.length + 1 := by simp [l1]
  generalize g1.set jk (.dic (kvD (L ++ [(s, g.length, e)]))) = g2 at *
  have hg2 := (fr2 jg njk).trans hg1
  have hq2 := (fr2 g.length (by omega)).trans hq
  repeat walk_at "st"
  have hlt := h1.lts
  have hK2 : KS g2 .non (plug c2 (plug c1 (lf i b e0))) := plug_app ▸ h1.frame fun j hj => (fr2 j (fun q => h5 (q ▸ hj))).trans (fr1 j (hlt j hj))
  rw [plug_app] at h2 h3 h4 h5 h6 hlt
  have hgd := good_plug h2
  have hqn : g.length ∉ (plug c2 (plug c1 (lf i b e0))).ixs := fun h => Nat.lt_irrefl _ (hlt _ h)
  refine join_i hK2 hg2 hq2 hgd.1 hgd.2 h3 h4 hqn (by omega) (fun j hj => Nat.lt_trans (hlt j hj) (by omega)) fun g' t' R => ?_
  have hpT := join_ixs (c := c2) (t := plug c1 (lf i b e0)) (m := g2.length) (q := g.length) (st := .non) (wt := .non) (s := s) (e := e)
  have ei : t'.ixs.Perm (g2.length :: g.length :: (plug c2 (plug c1 (lf i b e0))).ixs) := by rw [← sk_ixs t', R.sk, sk_ixs]; exact hpT
  have hm2 : g2.length ∉ (plug c2 (plug c1 (lf i b e0))).ixs := fun h => by have := hlt _ h; omega
  have el : t'.lvs.Perm (L ++ [(s, g.length, e)]) := by
    rw [← sk_lvs t', R.sk, sk_lvs]
    refine (plug_lvs c2 _).trans ?_
    show (((plug c1 (lf i b e0)).lvs ++ [(s, g.length, e)]) ++ cls c2).Perm _
    refine List.Perm.trans ?_ (((plug_lvs c2 _).symm.trans h6).append_right [(s, g.length, e)])
    rw [List.append_assoc, List.append_assoc]
    exact List.perm_append_comm.append_left _
  have hix : (if c2 = [] then D.hd g2.length else rtD (some (plug (c1 ++ c2) (lf i b e0)))) = .hd t'.ix := by
    rw [← sk_ix t', R.sk, sk_ix]
    cases c2 with
    | nil => rfl
    | cons f c => rw [if_neg (by simp), plug_app]; exact congrArg D.hd (plug_ix (c := c) (by rw [fill_ix, fill_ix]))
  refine reS_i rfl rfl (hk g' t' ⟨?_, ?_, ?_, ?_, njk, R.ks, R.good, ?_, ?_, ?_, el⟩ ⟨g2.length, R.sk⟩ ⟨fun j x1 x2 x3 x4 => ?_, ?_, fun j hj => ?_⟩)
  · rw [R.gr, hix]; rfl
  · rw [R.fr jk (fun h => (List.mem_cons.mp h).elim (fun e => by omega) h5) (Ne.symm njk) (by omega)]; exact k2
  · rw [List.map_append]
    exact List.nodup_append.mpr ⟨G.nd, by simp, fun x hx y hy q => hs (by rw [List.map_singleton, List.mem_singleton] at hy; have e1 : x = s := q.trans hy; rw [← e1]; exact hx)⟩
  · simp; omega
  · refine ei.nodup_iff.mpr (List.nodup_cons.mpr ⟨?_, List.nodup_cons.mpr ⟨hqn, h3⟩⟩)
    rw [List.mem_cons]
    exact fun h => h.elim (by omega) hm2
  · intro h
    rcases List.mem_cons.mp (ei.mem_iff.mp h) with h | h
    · omega
    · exact (List.mem_cons.mp h).elim (fun e => by omega) h4
  · intro h
    rcases List.mem_cons.mp (ei.mem_iff.mp h) with h | h
    · omega
    · exact (List.mem_cons.mp h).elim (fun e => by omega) h5
  · have x1 : j ∉ (plug c2 (plug c1 (lf i b e0))).ixs := fun h => x1 (by show j ∈ (plug (c1 ++ c2) (lf i b e0)).ixs; rw [plug_app]; exact h)
    rw [R.fr j (fun h => (List.mem_cons.mp h).elim (fun e => by omega) x1) x2 (by omega), fr2 j x3, fr1 j x4]
  · have := R.len; omega
  · rcases List.mem_cons.mp (ei.mem_iff.mp hj) with h | h
    · exact .inr (by omega)
    · rcases List.mem_cons.mp h with h | h
      · exact .inr (by omega)
      · exact .inl (by show j ∈ (plug (c1 ++ c2) (lf i b e0)).ixs; rw [plug_app]; exact h)
/-! the law's trees -/
def dp : KT → Nat | lf _ _ _ => 0 | nd _ _ _ a b => max (dp a) (dp b) + 1
def pathD (s : Str) : KT → Option (List D)
  | lf _ s' _ => if s' = s then some [] else none
  | nd _ _ _ a b => match pathD s a with
    | some l => some (.int 0 :: l)
    | none => (pathD s b).map (.int 1 :: ·)
def oD : Option (List D) → D | none => .non | some l => .lst l
theorem dp_lvs : ∀ t : KT, dp t < t.lvs.length
  | lf _ _ _ => Nat.one_pos
  | nd _ _ _ a b => by simp only [dp, lvs, List.length_append]; have := dp_lvs a; have := dp_lvs b; omega
theorem path_len {s : Str} : ∀ {t : KT} {l : List D}, pathD s t = some l → l.length ≤ dp t
  | lf _ s' _, l, h => by
    unfold pathD at h
    split at h <;> cases h
    exact Nat.zero_le _
  | nd _ _ _ a b, l, h => by
    unfold pathD at h
    cases ha : pathD s a with
    | some l' => rw [ha] at h; cases h; have := path_len ha; simp only [dp, List.length_cons]; omega
    | none =>
      rw [ha] at h
      cases hb : pathD s b with
      | none => rw [hb] at h; cases h
      | some l' => rw [hb] at h; cases h; have := path_len hb; simp only [dp, List.length_cons]; omega
def Tok' (s : Str) : Prop := PyData.strOk s = true
set_option maxHeartbeats 1000000 in
theorem path_i {s : Str} (hs : Tok' s) (t : KT) : ∀ (m : Nat) (k : D → Prop), (∀ x ∈ t.nms, Tok' x) → dp t < m → dp t ≤ 100 → k (oD (pathD s t)) → wpR__law_path m [t.trD, .str s] k := by
  induction t with
  | lf i s' e =>
    intro m k ht hm hb hk
    obtain ⟨m, rfl⟩ : ∃ m', m = m' + 1 := ⟨m - 1, by omega⟩
    unfold wpR__law_path wpOf
    walk_at "psenv"
    unfold P__law_path trD
    repeat walk_at "st"
    refine dEq_i (d := .str s') (ht s' List.mem_cons_self) (e := .str s) hs fun c hc => ?_
    repeat walk_at "st"
    cases c with
    | true =>
      have e1 : s' = s := D.str.inj (hc.mp rfl)
      refine dIx_l (d := .lst []) rfl ?_
      unfold pathD at hk
      rw [if_pos e1] at hk
      exact hk
    | false =>
      have e1 : ¬ s' = s := fun q => by have := hc.mpr (congrArg D.str q); cases this
      refine dIx_l (d := .non) rfl ?_
      unfold pathD at hk
      rw [if_neg e1] at hk
      exact hk
  | nd i st wt a b iha ihb =>
    intro m k ht hm hb hk
    obtain ⟨m, rfl⟩ : ∃ m', m = m' + 1 := ⟨m - 1, by omega⟩
    simp only [dp] at hm hb
    unfold wpR__law_path wpOf
    walk_at "psenv"
    unfold P__law_path trD
    repeat walk_at "st"
    unfold forP
    repeat walk_at "st"
    refine iha m _ (fun x h => ht x (List.mem_append_left _ h)) (by omega) (by omega) ?_
    unfold pathD at hk
    cases ha : pathD s a with
    | some l =>
      rw [ha] at hk
      have := path_len ha
      simp only [oD]
      repeat walk_at "st"
      refine dAdd_l (by rw [List.length_singleton]; omega) ?_
      exact hk
    | none =>
      rw [ha] at hk
      simp only [oD]
      repeat walk_at "st"
      unfold forP
      repeat walk_at "st"
      refine ihb m _ (fun x h => ht x (List.mem_append_right _ h)) (by omega) (by omega) ?_
      cases hb' : pathD s b with
      | some l =>
        rw [hb'] at hk
        have := path_len hb'
        simp only [oD]
        repeat walk_at "st"
        refine dAdd_l (by rw [List.length_singleton]; omega) ?_
        exact hk
      | none =>
        rw [hb'] at hk
        simp only [oD]
        repeat walk_at "st"
        unfold forP
        repeat walk_at "st"
        exact hk
/-- the sides above a knot, from the root -/
def pth : List Fr' → List D | [] => [] | f :: c => pth c ++ [.int (if f.s then 1 else 0)]
theorem pth_len : ∀ c : List Fr', (pth c).length = c.length
  | [] => rfl
  | f :: c => by simp [pth, pth_len c]
theorem pathD_none {s : Str} : ∀ {t : KT}, s ∉ t.nms → pathD s t = none
  | lf _ s' _, h => if_neg fun q : s' = s => h (q ▸ List.mem_cons_self)
  | nd _ _ _ a b, h => by
    unfold pathD
    rw [pathD_none fun q => h (List.mem_append_left _ q), pathD_none fun q => h (List.mem_append_right _ q)]
    rfl
def cnm : List Fr' → List Str | [] => [] | f :: c => f.o.nms ++ cnm c
theorem pathD_plug {s : Str} : ∀ {c : List Fr'} {t : KT} {l : List D}, pathD s t = some l → s ∉ cnm c → pathD s (plug c t) = some (pth c ++ l)
  | [], t, l, h, _ => h
  | f :: c, t, l, h, hn => by
    have hf : pathD s (f.fill t) = some (.int (if f.s then 1 else 0) :: l) := by
      have ho : pathD s f.o = none := pathD_none fun q => hn (List.mem_append_left _ q)
      unfold Fr'.fill
      cases f.s with
      | true => show pathD s (nd _ _ _ _ _) = _; unfold pathD; rw [ho, h]; rfl
      | false => show pathD s (nd _ _ _ _ _) = _; unfold pathD; rw [h]; rfl
    have := pathD_plug (c := c) hf fun q => hn (List.mem_append_right _ q)
    rw [show pth (f :: c) ++ l = pth c ++ (.int (if f.s then 1 else 0) :: l) by simp [pth]]
    exact this
/-- a tree with a thing in a knot's place -/
def plugD : List Fr' → D → D
  | [], x => x
  | f :: c, x => plugD c (if f.s then .tup [f.o.trD, x] else .tup [x, f.o.trD])
theorem trD_plug : ∀ (c : List Fr') (t : KT), (plug c t).trD = plugD c t.trD
  | [], t => rfl
  | f :: c, t => by
    show (plug c (f.fill t)).trD = plugD c (if f.s then .tup [f.o.trD, t.trD] else .tup [t.trD, f.o.trD])
    rw [trD_plug c]
    congr 1
    unfold Fr'.fill
    cases f.s <;> rfl
theorem knot_loop {K : PK'} {v1 : SV} : ∀ (c : List Fr') (x : D) (v2 : SV) (l : List D), (∀ v2, forP (gtName 2) (sSet 0 (eOp dIx (eV 0) (eV 2))) l [SV.val x, v1, v2] K) → forP (gtName 2) (sSet 0 (eOp dIx (eV 0) (eV 2))) (pth c ++ l) [SV.val (plugD c x), v1, v2] K
  | [], x, v2, l, h => h v2
  | f :: c, x, v2, l, h => by
    rw [show pth (f :: c) ++ l = pth c ++ (.int (if f.s then 1 else 0) :: l) by simp [pth]]
    refine knot_loop c _ v2 _ fun v2 => ?_
    unfold forP
    cases hfs : f.s with
    | true =>
      simp only [↓reduceIte]
      repeat walk_at "st"
      exact h _
    | false =>
      simp only [Bool.false_eq_true, ↓reduceIte]
      repeat walk_at "st"
      exact h _
theorem knot_i {c : List Fr'} {x : D} {k : D → Prop} (h : k x) : wp__law_knot [plugD c x, .lst (pth c)] k := by
  unfold wp__law_knot wpOf
  walk_at "psenv"
  unfold P__law_knot
  repeat walk_at "st"
  have := knot_loop (v1 := SV.val (.lst (pth c))) (v2 := SV.no) (K := { nx := fun env' => sRet (eV 0) env' { nx := fun x => True ∧ k D.non, rt := k }, rt := k }) c x [] (fun v2 => by unfold forP; exact h)
  rw [List.append_nil] at this
  exact this
/-- a tree changed at a path -/
def putT (x : D) : List D → D → Option D
  | [], _ => some x
  | .int 0 :: l, .tup [a, b] => (putT x l a).map fun y => .tup [y, b]
  | .int 1 :: l, .tup [a, b] => (putT x l b).map fun y => .tup [a, y]
  | _, _ => none
theorem putT_plug {x : D} : ∀ {c : List Fr'} {y : D} {l : List D}, putT x (pth c ++ l) (plugD c y) = (putT x l y).map (plugD c)
  | [], y, l => by
    show putT x l y = _
    cases putT x l y <;> rfl
  | f :: c, y, l => by
    rw [show pth (f :: c) ++ l = pth c ++ (.int (if f.s then 1 else 0) :: l) by simp [pth]]
    show putT x _ (plugD c (if f.s then .tup [f.o.trD, y] else .tup [y, f.o.trD])) = _
    rw [putT_plug (c := c)]
    cases hfs : f.s with
    | true =>
      show (Option.map _ (putT x l y)).map _ = _
      cases putT x l y with
      | none => rfl
      | some z => simp only [Option.map_some, plugD, hfs, ↓reduceIte]
    | false =>
      show (Option.map _ (putT x l y)).map _ = _
      cases putT x l y with
      | none => rfl
      | some z => simp only [Option.map_some, plugD, hfs, ↓reduceIte, Bool.false_eq_true]
theorem sPut_i {i : Nat} {pi pe : PX} {env : List SV} {xs : List D} {K : PK'} (e : env[i]? = some (.own (.lst xs))) (h : pe env fun y => pi env fun d => inK d fun n => ∃ jj, ixN xs.length n = some jj ∧ K.nx (env.set i (.own (.lst (xs.set jj y))))) : sPut i pi pe env K := by
  unfold sPut
  rw [e]
  exact h
set_option maxHeartbeats 1000000 in
theorem put_i {x : D} (l : List D) : ∀ (m : Nat) (y z : D) (k : D → Prop), l.length < m → l.length ≤ 100 → putT x l y = some z → k z → wpR__law_put m [y, .lst l, x] k := by
  induction l with
  | nil =>
    intro m y z k hm hb hp hk
    obtain ⟨m, rfl⟩ : ∃ m', m = m' + 1 := ⟨m - 1, by omega⟩
    cases hp
    unfold wpR__law_put wpOf
    walk_at "psenv"
    unfold P__law_put
    repeat walk_at "st"
    exact hk
  | cons d l ih =>
    intro m y z k hm hb hp hk
    obtain ⟨m, rfl⟩ : ∃ m', m = m' + 1 := ⟨m - 1, by omega⟩
    rw [List.length_cons] at hm hb
    have key : ∃ a b w, y = .tup [a, b] ∧ ((d = .int 0 ∧ putT x l a = some w ∧ z = .tup [w, b]) ∨ (d = .int 1 ∧ putT x l b = some w ∧ z = .tup [a, w])) := by
      unfold putT at hp
      split at hp
      · rename_i e1
        exact absurd e1 (List.cons_ne_nil _ _)
      · rename_i l' a b e1
        cases e1
        obtain ⟨w, h1, h2⟩ := Option.map_eq_some_iff.mp hp
        exact ⟨_, _, w, rfl, .inl ⟨rfl, h1, h2.symm⟩⟩
      · rename_i l' a b e1
        cases e1
        obtain ⟨w, h1, h2⟩ := Option.map_eq_some_iff.mp hp
        exact ⟨_, _, w, rfl, .inr ⟨rfl, h1, h2.symm⟩⟩
      · cases hp
    obtain ⟨a, b, w, rfl, h⟩ := key
    unfold wpR__law_put wpOf
    walk_at "psenv"
    unfold P__law_put
    rcases h with ⟨rfl, h1, rfl⟩ | ⟨rfl, h1, rfl⟩
    · repeat walk_at "st"
      refine sPut_i rfl ?_
      repeat walk_at "st"
      refine dIx_l (at_nat (i := 0) (by decide) rfl) ?_
      repeat walk_at "st"
      rw [cut_tail]
      repeat walk_at "st"
      refine ih m a w _ (by omega) (by omega) h1 ?_
      repeat walk_at "st"
      refine dIx_l (at_nat (i := 0) (by decide) rfl) ?_
      repeat walk_at "st"
      refine ⟨0, rfl, ?_⟩
      repeat walk_at "st"
      exact hk
    · repeat walk_at "st"
      refine sPut_i rfl ?_
      repeat walk_at "st"
      refine dIx_l (at_nat (i := 0) (by decide) rfl) ?_
      repeat walk_at "st"
      rw [cut_tail]
      repeat walk_at "st"
      refine ih m b w _ (by omega) (by omega) h1 ?_
      repeat walk_at "st"
      refine dIx_l (at_nat (i := 0) (by decide) rfl) ?_
      repeat walk_at "st"
      refine ⟨1, rfl, ?_⟩
      repeat walk_at "st"
      exact hk
theorem names_i (t : KT) : ∀ (m : Nat) (k : D → Prop), dp t < m → t.nms.length ≤ 1000 → k (.lst (t.nms.map D.str)) → wpR__law_names_in m [t.trD] k := by
  induction t with
  | lf i s e =>
    intro m k hm hb hk
    obtain ⟨m, rfl⟩ : ∃ m', m = m' + 1 := ⟨m - 1, by omega⟩
    unfold wpR__law_names_in wpOf
    walk_at "psenv"
    unfold P__law_names_in trD
    repeat walk_at "st"
    exact hk
  | nd i st wt a b iha ihb =>
    intro m k hm hb hk
    obtain ⟨m, rfl⟩ : ∃ m', m = m' + 1 := ⟨m - 1, by omega⟩
    simp only [dp] at hm
    simp only [nms, List.length_append] at hb
    unfold wpR__law_names_in wpOf
    walk_at "psenv"
    unfold P__law_names_in trD
    repeat walk_at "st"
    refine iha m _ (by omega) (by omega) ?_
    repeat walk_at "st"
    refine ihb m _ (by omega) (by omega) ?_
    refine dAdd_l (by simp; omega) ?_
    rw [← List.map_append]
    exact hk
/-! the law's own row -/
def fm (h : Int) (l : List Int) : Int := l.foldl max h
theorem fm_le : ∀ (l : List Int) (h : Int), h ≤ fm h l ∧ ∀ x ∈ l, x ≤ fm h l
  | [], h => ⟨Int.le_refl _, fun _ q => nomatch q⟩
  | y :: l, h => by
    obtain ⟨h1, h2⟩ := fm_le l (max h y)
    have e : fm h (y :: l) = fm (max h y) l := rfl
    rw [e]
    refine ⟨Int.le_trans (Int.le_max_left _ _) h1, fun x hx => ?_⟩
    rcases List.mem_cons.mp hx with rfl | hx
    · exact Int.le_trans (Int.le_max_right _ _) h1
    · exact h2 x hx
theorem fm_mem : ∀ (l : List Int) (h : Int), fm h l = h ∨ fm h l ∈ l
  | [], h => .inl rfl
  | y :: l, h => by
    have e : fm h (y :: l) = fm (max h y) l := rfl
    rw [e]
    rcases fm_mem l (max h y) with q | q
    · rcases Int.le_total h y with w | w
      · rw [Int.max_eq_right w] at q ⊢
        rw [q]; exact .inr List.mem_cons_self
      · rw [Int.max_eq_left w] at q ⊢; exact .inl q
    · exact .inr (List.mem_cons_of_mem _ q)
theorem fm_app (h : Int) (a b : List Int) : fm h (a ++ b) = fm (fm h a) b := List.foldl_append
theorem fm_hF {l : List En} (h0 : l ≠ []) (hs : ∀ e ∈ l, 0 ≤ e.s) : fm 0 (l.flatMap fun p => l.map fun q => want p q) = hF l := by
  obtain ⟨f1, f2⟩ := fm_le (l.flatMap fun p => l.map fun q => want p q) 0
  obtain ⟨p, hp, q, hq, e⟩ := hF_mem h0
  apply Int.le_antisymm
  · rcases fm_mem (l.flatMap fun p => l.map fun q => want p q) 0 with w | w
    · rw [w]
      have := want_le hp hp
      have := hs p hp
      have : 0 ≤ want p p := by unfold want; omega
      omega
    · exact maxI_le w
  · rw [e]
    exact f2 _ (List.mem_flatMap.mpr ⟨p, hp, List.mem_map.mpr ⟨q, hq, rfl⟩⟩)
theorem turn_i {l : List En} {H t : Int} {bx : List D} {v2 v3 v4 v7 v8 v9 v10 : SV} {N B C : List SV → Prop} {R : D → Prop} (h0 : l ≠ []) (hl : l.length ≤ 100) (ht : t = 1 ∨ t = -1) (ho : ∀ e ∈ l, OkE e) (hb : bx.length ≤ 10) (n8 : v8 = .no) (n9 : v9 = .no) (n10 : v10 = .no)
    (hN : ∀ v7, N [SV.val (.lst (l.map enD)), SV.val (.int H), v2, v3, v4, SV.val (.tup (bx ++ [.int (maxI (l.map fun e => 2 * (e.x + t * e.y) - (H - 2 * e.s)))] ++ [.int (minI (l.map fun e => 2 * (e.x + t * e.y) + (H - 2 * e.s)))])), SV.val (.int t), v7, v8, v9, v10]) :
    (sSeq (sSet 7 (eLc [8] (iSeq (eV 0)) (gtName 8) (fun _ k => k true) (eTup (aCons (eOp dMul (eC (.int 2)) (eOp dAdd (eOp dIx (eV 8) (eC (.int 0))) (eOp dMul (eV 6) (eOp dIx (eV 8) (eC (.int 1)))))) (aCons (eOp dSub (eV 1) (eOp dMul (eC (.int 2)) (eOp dIx (eV 8) (eC (.int 2))))) aNil)))))
    (sSeq (sSet 5 (eOp dAdd (eV 5) (eTup (aCons (eCall gMaxL (aCons (eLc [9, 10] (iSeq (eV 7)) (gtTup 2 (gtCons (gtName 9) (gtCons (gtName 10) gtNil))) (fun _ k => k true) (eOp dSub (eV 9) (eV 10))) aNil)) aNil))))
    (sSet 5 (eOp dAdd (eV 5) (eTup (aCons (eCall gMinL (aCons (eLc [9, 10] (iSeq (eV 7)) (gtTup 2 (gtCons (gtName 9) (gtCons (gtName 10) gtNil))) (fun _ k => k true) (eOp dAdd (eV 9) (eV 10))) aNil)) aNil))))))
     [SV.val (.lst (l.map enD)), SV.val (.int H), v2, v3, v4, SV.val (.tup bx), SV.val (.int t), v7, v8, v9, v10] { nx := N, rt := R, bk := B, ct := C } := by
  subst n8 n9 n10
  repeat walk_at "st"
  refine ⟨by simp [noOwn], ?_⟩
  refine lcP_m (fun e : En => enD e) (fun e => D.tup [.int (2 * (e.x + t * e.y)), .int (H - 2 * e.s)]) l (by omega) ?_ ?_
  · intro e he A Bb hA
    obtain ⟨⟨x1, x2⟩, ⟨y1, y2⟩, s1, s2, _⟩ := ho e he
    rcases ht with rfl | rfl
    · repeat walk_at "st"
      exact hA
    · repeat walk_at "st"
      exact hA
  repeat walk_at "st"
  refine ⟨by simp [noOwn], ?_⟩
  refine lcP_m (fun e : En => D.tup [.int (2 * (e.x + t * e.y)), .int (H - 2 * e.s)]) (fun e => D.int (2 * (e.x + t * e.y) - (H - 2 * e.s))) l (by omega) ?_ ?_
  · intro e he A Bb hA
    repeat walk_at "st"
    exact hA
  repeat walk_at "st"
  refine gMaxL_i (intsD_m l _) (by simpa using h0) ?_
  repeat walk_at "st"
  refine dAdd_t (by simp only [List.length_cons, List.length_nil]; omega) ?_
  repeat walk_at "st"
  refine ⟨by simp [noOwn], ?_⟩
  refine lcP_m (fun e : En => D.tup [.int (2 * (e.x + t * e.y)), .int (H - 2 * e.s)]) (fun e => D.int (2 * (e.x + t * e.y) + (H - 2 * e.s))) l (by omega) ?_ ?_
  · intro e he A Bb hA
    repeat walk_at "st"
    exact hA
  repeat walk_at "st"
  refine gMinL_i (intsD_m l _) (by simpa using h0) ?_
  repeat walk_at "st"
  refine dAdd_t (by simp only [List.length_cons, List.length_nil, List.length_append]; omega) ?_
  repeat walk_at "st"
  exact hN _
set_option maxHeartbeats 4000000 in
theorem lrow_i {l : List En} {k : D → Prop} (h0 : l ≠ []) (hl : l.length ≤ 100) (ho : ∀ e ∈ l, OkE e) (hk : k (rowD l)) : wp__law_row [.lst (l.map enD)] k := by
  unfold wp__law_row wpOf
  walk_at "psenv"
  unfold P__law_row
  repeat walk_at "st"
  refine forP_i (fun i env => ∃ v2 v3 v4, env = [SV.val (.lst (l.map enD)), SV.val (.int (fm 0 ((l.take i).flatMap fun p => l.map fun q => want p q))), v2, v3, v4, SV.no, SV.no, SV.no, SV.no, SV.no, SV.no]) _ 0 ⟨_, _, _, rfl⟩ ?_ ?_
  · rintro i d env hd ⟨v2, v3, v4, rfl⟩ N hN
    rw [List.getElem?_map] at hd
    cases hp : l[i]? with
    | none => rw [hp] at hd; cases hd
    | some p =>
      rw [hp] at hd
      cases hd
      repeat walk_at "st"
      refine forP_i (fun j env => ∃ v3 v4, env = [SV.val (.lst (l.map enD)), SV.val (.int (fm (fm 0 ((l.take (0 + i)).flatMap fun p => l.map fun q => want p q)) ((l.take j).map fun q => want p q))), SV.val (enD p), v3, v4, SV.no, SV.no, SV.no, SV.no, SV.no, SV.no]) _ 0 ⟨_, _, rfl⟩ ?_ ?_
      · rintro j d env hd ⟨v3, v4, rfl⟩ N' hN'
        rw [List.getElem?_map] at hd
        cases hq : l[j]? with
        | none => rw [hq] at hd; cases hd
        | some q =>
          rw [hq] at hd
          cases hd
          repeat walk_at "st"
          refine hN' _ ⟨SV.val (enD q), SV.val (.int (max (p.x - q.x) (-(p.x - q.x)) + max (p.y - q.y) (-(p.y - q.y)))), ?_⟩
          rw [show 0 + j + 1 = j + 1 by omega, show 0 + j = j by omega, List.take_add_one, hq, List.map_append, fm_app]
          have : max (p.x - q.x) (-(p.x - q.x)) + max (p.y - q.y) (-(p.y - q.y)) + p.s + q.s = want p q := by unfold want; omega
          rw [this]
          rfl
      · rintro env ⟨v3, v4, rfl⟩
        refine hN _ ⟨SV.val (enD p), v3, v4, ?_⟩
        rw [List.length_map, Nat.zero_add, Nat.zero_add, List.take_of_length_le (Nat.le_refl _), List.take_add_one, hp, List.flatMap_append, fm_app]
        simp
  · rintro env ⟨v2, v3, v4, rfl⟩
    rw [List.length_map, Nat.zero_add, List.take_of_length_le (Nat.le_refl _), fm_hF h0 fun e he => (ho e he).2.2.1]
    have hk : k (.tup [.int (hF l), boxD (hF l) l]) := hk
    generalize hF l = H at *
    repeat walk_at "st"
    unfold forP
    refine gtName_i ?_
    refine turn_i (bx := []) h0 hl (.inl rfl) ho (by simp) rfl rfl rfl fun v7 => ?_
    unfold forP
    refine gtName_i ?_
    refine turn_i h0 hl (.inr rfl) ho (by simp) rfl rfl rfl fun v7 => ?_
    unfold forP
    repeat walk_at "st"
    have e1 : (l.map fun e => 2 * (e.x + 1 * e.y) - (H - 2 * e.s)) = l.map fun p => U p - (H - 2 * p.s) := List.map_congr_left fun e _ => by unfold U; omega
    have e2 : (l.map fun e => 2 * (e.x + 1 * e.y) + (H - 2 * e.s)) = l.map fun p => U p + (H - 2 * p.s) := List.map_congr_left fun e _ => by unfold U; omega
    have e3 : (l.map fun e => 2 * (e.x + -1 * e.y) - (H - 2 * e.s)) = l.map fun p => Vv p - (H - 2 * p.s) := List.map_congr_left fun e _ => by unfold Vv; omega
    have e4 : (l.map fun e => 2 * (e.x + -1 * e.y) + (H - 2 * e.s)) = l.map fun p => Vv p + (H - 2 * p.s) := List.map_congr_left fun e _ => by unfold Vv; omega
    rw [e1, e2, e3, e4]
    exact hk
/-! the law's model -/
abbrev mdD (tr : D) (je : Nat) (n : Int) : List (Key × D) := [(.inr "tree", tr), (.inr "ends", .hd je), (.inr "times", .int n)]
structure MV (g : List Cell) (jm je : Nat) (tr : D) (L : List Lv) (n : Int) : Prop where
  md : g[jm]? = some (.dic (mdD tr je n))
  ed : g[je]? = some (.dic (ekD L))
  ne : jm ≠ je
theorem mDisp_i {i : Nat} {ks : List Str} {gm : PMA} {env : List SV} {km : List SV → D → Prop} (h : gm env fun env1 ds => gsAt i env1 fun gg => ds.length = ks.length ∧ km (env1.set i (.gs (gg ++ [.dic (dspK ks ds)]))) (.hd gg.length)) : mDisp i ks gm env km := h
theorem put_tree {tr x : D} {je : Nat} {n : Int} : putD (mdD tr je n) (.inr (Str.ofString "tree")) x = mdD x je n := rfl
theorem put_times {tr : D} {je : Nat} {n m : Int} : putD (mdD tr je n) (.inr (Str.ofString "times")) (.int m) = mdD tr je m := rfl
local macro_rules | `(tactic| walk_at "sm") => `(tactic| first
  | rw [put_tree]
  | rw [put_times]
  | walk_at "st")
theorem empty_i {g : List Cell} {k : D → List Cell → Prop} (h : k (.hd (g.length + 1)) (g ++ [.dic []] ++ [.dic (mdD (.tup []) g.length 0)])) : wp__law_empty [] g k := by
  unfold wp__law_empty wpOfS envS
  walk_at "psenv"
  unfold P__law_empty
  refine sRetS_i ?_
  refine mDisp_i ?_
  repeat walk_at "st"
  have hl : (g ++ [Cell.dic []]).length = g.length + 1 := by simp
  rw [hl]
  exact reS_i rfl rfl h
theorem cut_len {xs ys : List D} {n : Int} (h : n = xs.length) : Pu.cutD (xs ++ ys) none (some n) = xs := by
  subst h
  unfold Pu.cutD
  rw [HT.sIx_none, HT.sIx_nat]
  simp
theorem pth_app : ∀ (c1 c2 : List Fr'), pth (c1 ++ c2) = pth c2 ++ pth c1
  | [], c2 => by simp [pth]
  | f :: c1, c2 => by
    show pth (c1 ++ c2) ++ _ = _
    rw [pth_app c1 c2, List.append_assoc]
    rfl
theorem nms_lvs : ∀ t : KT, t.nms = t.lvs.map (·.1)
  | lf _ _ _ => rfl
  | nd _ _ _ a b => by simp only [nms, lvs, List.map_append, nms_lvs a, nms_lvs b]
theorem cnm_cls : ∀ c : List Fr', cnm c = (cls c).map (·.1)
  | [] => rfl
  | f :: c => by simp only [cnm, cls, List.map_append, cnm_cls c, nms_lvs]
/-- a tree whose leaves are known -/
structure TLv (t : KT) (L : List Lv) : Prop where
  pm : t.lvs.Perm L
  nd : (L.map (·.1)).Nodup
  le : L.length ≤ 24
  ok : ∀ x ∈ L, Tok' x.1 ∧ OkE x.2.2
theorem TLv.dp {t : KT} {L : List Lv} (h : TLv t L) : dp t < 24 := by
  have := dp_lvs t
  have := h.pm.length_eq
  have := h.le
  omega
theorem TLv.tok {t : KT} {L : List Lv} (h : TLv t L) : ∀ x ∈ t.nms, Tok' x := fun x hx => by
  rw [nms_lvs] at hx
  obtain ⟨y, hy, rfl⟩ := List.mem_map.mp hx
  exact (h.ok y (h.pm.mem_iff.mp hy)).1
theorem TLv.path {c : List Fr'} {i : Nat} {s : Str} {e : En} {L : List Lv} (h : TLv (plug c (lf i s e)) L) : pathD s (plug c (lf i s e)) = some (pth c) := by
  have hn : s ∉ cnm c := by
    rw [cnm_cls]
    have p := ((plug_lvs c (lf i s e)).symm.trans h.pm).map (·.1)
    have n := p.nodup_iff.mpr h.nd
    exact (List.nodup_cons.mp (show (s :: (cls c).map (·.1)).Nodup from n)).1
  have := pathD_plug (c := c) (t := lf i s e) (l := []) (if_pos rfl) hn
  rw [List.append_nil] at this
  exact this
theorem lpath_i {c : List Fr'} {i : Nat} {s : Str} {e : En} {L : List Lv} {k : D → Prop} (h : TLv (plug c (lf i s e)) L) (hk : k (.lst (pth c))) : wp__law_path [(plug c (lf i s e)).trD, .str s] k := by
  have hd := h.dp
  have hs : Tok' s := h.tok s (by rw [nms_lvs]; exact List.mem_map.mpr ⟨(s, i, e), (plug_lvs c _).mem_iff.mpr (List.mem_append_left _ List.mem_cons_self), rfl⟩)
  refine path_i hs _ 26 k h.tok (by omega) (by omega) ?_
  rw [h.path]
  exact hk
theorem mPopS_i {i : Nat} {pd pk : PX} {env : List SV} {km : List SV → D → Prop} (h : pd env fun x => hdK x fun j => (gsAt i env fun g => dicK g j fun _ => True) ∧ pk env fun w => keyK w fun key => gsAt i env fun g => dicK g j fun kvs => ∃ d, valD kvs key = some d ∧ km (env.set i (.gs (g.set j (.dic (dropD kvs key))))) d) : mPopS i pd pk env km := h
theorem come0_i {g : List Cell} {jm je q : Nat} {s : Str} {e : En} {n : Int} {b a : D} {k : D → List Cell → Prop} (M : MV g jm je (.tup []) [] n) (hk : ∀ g', MV g' jm je (.str s) [(s, q, e)] n → (∀ j, j ≠ jm → j ≠ je → g'[j]? = g[j]?) → g'.length = g.length → k .non g') : wp__law_come [.hd jm, .str s, enD e, b, a] g k := by
  have h1 := M.md
  have h2 := M.ed
  have h3 := M.ne
  have l1 := lt_of_at h1
  have l2 := lt_of_at h2
  unfold wp__law_come wpOfS envS
  walk_at "psenv"
  unfold P__law_come
  repeat walk_at "sm"
  refine reS_i rfl rfl (hk _ ⟨?_, ?_, h3⟩ (fun j x y => set2 x y) (by simp))
  · rw [List.getElem?_set_ne (Ne.symm h3), List.getElem?_set_self l1]
  · rw [List.getElem?_set_self (by simpa using l2)]; rfl
set_option maxHeartbeats 1000000 in
theorem come1_i {g : List Cell} {jm je q m i : Nat} {c1 c2 : List Fr'} {L : List Lv} {s b : Str} {e e0 : En} {n : Int} {st wt : D} {k : D → List Cell → Prop} (M : MV g jm je (plug (c1 ++ c2) (lf i b e0)).trD L n) (T : TLv (plug (c1 ++ c2) (lf i b e0)) L) (hs : s ∉ L.map (·.1))
    (hk : ∀ g', MV g' jm je (plug c2 (nd m st wt (plug c1 (lf i b e0)) (lf q s e))).trD (L ++ [(s, q, e)]) (n + 1 + c2.length) → (∀ j, j ≠ jm → j ≠ je → g'[j]? = g[j]?) → g'.length = g.length → k .non g') : wp__law_come [.hd jm, .str s, enD e, .str b, .int c1.length] g k := by
  have h1 := M.md
  have h2 := M.ed
  have h3 := M.ne
  have l1 := lt_of_at h1
  have l2 := lt_of_at h2
  have hb : (b, i, e0) ∈ L := T.pm.mem_iff.mp ((plug_lvs _ _).mem_iff.mpr (List.mem_append_left _ List.mem_cons_self))
  have hne : (ekD L).isEmpty = false := by cases L with
    | nil => cases hb
    | cons x L => rfl
  have hcl := ctx_len T.pm T.le
  rw [List.length_append] at hcl
  unfold wp__law_come wpOfS envS
  walk_at "psenv"
  unfold P__law_come
  repeat walk_at "sm"
  rw [hne]
  repeat walk_at "sm"
  refine lpath_i T ?_
  repeat walk_at "sm"
  rw [pth_app, cut_len (by rw [List.length_append, pth_len, pth_len]; omega)]
  rw [plug_app, trD_plug c2]
  repeat walk_at "sm"
  refine knot_i ?_
  repeat walk_at "sm"
  have hp : putT (.tup [(plug c1 (lf i b e0)).trD, .str s]) (pth c2) (plugD c2 (plug c1 (lf i b e0)).trD) = some (plug c2 (nd m st wt (plug c1 (lf i b e0)) (lf q s e))).trD := by
    have := putT_plug (x := .tup [(plug c1 (lf i b e0)).trD, .str s]) (c := c2) (y := (plug c1 (lf i b e0)).trD) (l := [])
    rw [List.append_nil] at this
    rw [this, trD_plug c2]
    rfl
  refine put_i (pth c2) 26 _ _ _ (by rw [pth_len]; omega) (by rw [pth_len]; omega) hp ?_
  repeat walk_at "sm"
  have hput : putD (ekD L) (.inr s) (enD e) = ekD (L ++ [(s, q, e)]) := put_new (F := fun x => enD x.2.2) (x := (s, q, e)) hs
  rw [hput, pth_len]
  refine ⟨by have := T.le; simp; omega, reS_i rfl rfl ?_⟩
  rw [List.set_set]
  refine hk _ ⟨?_, ?_, h3⟩ (fun j x y => set2 x y) (by simp)
  · rw [List.getElem?_set_ne (Ne.symm h3), List.getElem?_set_self l1]
  · rw [List.getElem?_set_self (by simpa using l2)]
theorem cut_last {xs : List D} {x : D} : Pu.cutD (xs ++ [x]) none (some (-1)) = xs := by
  have : Pu.cutD (xs ++ [x]) none (some (-1)) = Pu.cutD (xs ++ [x]) none (some (xs.length : Int)) := by
    unfold Pu.cutD
    have e : HT.sIx (xs ++ [x]).length (xs ++ [x]).length (some (-1)) = HT.sIx (xs ++ [x]).length (xs ++ [x]).length (some (xs.length : Int)) := by
      rw [HT.sIx_nat]
      show (if (-1 : Int) < 0 then ((-1 : Int) + ((xs ++ [x]).length : Int)).toNat else min (-1 : Int).toNat (xs ++ [x]).length) = _
      rw [if_pos (by decide), List.length_append, List.length_singleton]
      omega
    rw [e]
  rw [this, cut_len rfl]
def goD : List Fr' → D | [] => .tup [] | f :: c => plugD c f.o.trD
theorem knot2_i {c : List Fr'} {xs : List D} {n : Int} {y : D} {k : D → Prop} (e : atI xs n = some y) (h : k y) : wp__law_knot [plugD c (.tup xs), .lst (pth c ++ [.int n])] k := by
  unfold wp__law_knot wpOf
  walk_at "psenv"
  unfold P__law_knot
  repeat walk_at "st"
  refine knot_loop c _ _ [.int n] fun v2 => ?_
  unfold forP
  repeat walk_at "st"
  refine dIx_t e ?_
  repeat walk_at "st"
  unfold forP
  repeat walk_at "st"
  exact h
set_option maxHeartbeats 1000000 in
theorem lgo_i {g : List Cell} {jm je i : Nat} {c : List Fr'} {L : List Lv} {s : Str} {e : En} {n : Int} {k : D → List Cell → Prop} (M : MV g jm je (plug c (lf i s e)).trD L n) (T : TLv (plug c (lf i s e)) L)
    (hk : ∀ g', MV g' jm je (goD c) (L.filter fun x => decide (x.1 ≠ s)) (n + (c.length - 1 : Nat)) → (∀ j, j ≠ jm → j ≠ je → g'[j]? = g[j]?) → g'.length = g.length → k .non g') : wp__law_go [.hd jm, .str s] g k := by
  have h1 := M.md
  have h2 := M.ed
  have h3 := M.ne
  have l1 := lt_of_at h1
  have l2 := lt_of_at h2
  have hb : (s, i, e) ∈ L := T.pm.mem_iff.mp ((plug_lvs _ _).mem_iff.mpr (List.mem_append_left _ List.mem_cons_self))
  have hv : valD (ekD L) (.inr s) = some (enD e) := val_mem (x := (s, i, e)) T.nd hb
  have hcl := ctx_len T.pm T.le
  unfold wp__law_go wpOfS envS
  walk_at "psenv"
  unfold P__law_go
  repeat walk_at "sm"
  refine lpath_i T ?_
  repeat walk_at "sm"
  refine mPopS_i ?_
  repeat walk_at "sm"
  refine ⟨gsAt_i rfl rfl (dicK_i h2 trivial), ?_⟩
  repeat walk_at "sm"
  rw [drop_of]
  cases c with
  | nil =>
    repeat walk_at "sm"
    refine reS_i rfl rfl (hk _ ⟨?_, ?_, h3⟩ (fun j x y => set2 y x) (by simp))
    · rw [List.getElem?_set_self (by simpa using l1)]
      show _ = some (Cell.dic (mdD (.tup []) je (n + 0)))
      rw [Int.add_zero]
    · rw [List.getElem?_set_ne h3, List.getElem?_set_self l2]
  | cons f c =>
    have htr : (plug (f :: c) (lf i s e)).trD = plugD c (f.fill (lf i s e)).trD := trD_plug c (f.fill (lf i s e))
    have hp : pth (f :: c) = pth c ++ [.int (if f.s then 1 else 0)] := rfl
    rw [htr] at h1
    rw [hp, show (pth c ++ [D.int (if f.s then 1 else 0)]).isEmpty = false by simp]
    repeat walk_at "sm"
    rw [cut_last]
    refine dIx_l at_end ?_
    repeat walk_at "sm"
    refine dAdd_l (by rw [pth_len]; simp at *; omega) ?_
    repeat walk_at "sm"
    obtain ⟨xs, ex, hx⟩ : ∃ xs, (f.fill (lf i s e)).trD = .tup xs ∧ atI xs (1 - if f.s = true then 1 else 0) = some f.o.trD := by
      unfold Fr'.fill
      cases f.s with
      | true => exact ⟨_, rfl, rfl⟩
      | false => exact ⟨_, rfl, rfl⟩
    rw [ex]
    refine knot2_i hx ?_
    repeat walk_at "sm"
    rw [cut_last]
    repeat walk_at "sm"
    have hpt : putT f.o.trD (pth c) (plugD c (f.fill (lf i s e)).trD) = some (plugD c f.o.trD) := by
      have := putT_plug (x := f.o.trD) (c := c) (y := (f.fill (lf i s e)).trD) (l := [])
      rw [List.append_nil] at this
      rw [this]
      rfl
    rw [List.length_cons] at hcl
    refine put_i (pth c) 26 _ _ _ (by rw [pth_len]; omega) (by rw [pth_len]; omega) hpt ?_
    repeat walk_at "sm"
    refine reS_i rfl rfl ?_
    rw [List.set_set]
    refine hk _ ⟨?_, ?_, h3⟩ (fun j x y => set2 y x) (by simp)
    · rw [List.getElem?_set_self (by simpa using l1), List.length_append, List.length_singleton, pth_len, List.length_cons]
      show some (Cell.dic (mdD _ je _)) = some (Cell.dic (mdD _ je _))
      rw [show n + ((c.length + 1 : Nat) : Int) - 1 = n + ((c.length + 1 - 1 : Nat) : Int) by omega]
      rfl
    · rw [List.getElem?_set_ne h3, List.getElem?_set_self l2]
theorem forS_i {gt : PGt} {body : PSt} {K : PK'} (GInv : Nat → List SV → Prop) : ∀ (ds : List D) (n : Nat) {env : List SV}, GInv n env →
    (∀ i d env, ds[i]? = some d → GInv (n + i) env → ∀ N : List SV → Prop, (∀ e, GInv (n + i + 1) e → N e) → gt d env fun env1 => body env1 { nx := N, rt := K.rt, bk := K.nx, ct := N, re := K.re }) →
    (∀ env, GInv (n + ds.length) env → K.nx env) → forS gt body ds env K
  | [], n, env, h0, _, hd => hd env (by simpa using h0)
  | d :: ds, n, env, h0, hs, hd => by
    unfold forS
    refine hs 0 d env rfl (by simpa using h0) _ fun e he => ?_
    exact forS_i GInv ds (n + 1) (by simpa using he) (fun i d' env' hi hI N hN => by
        refine hs (i + 1) d' env' hi (by rw [show n + (i + 1) = n + 1 + i by omega]; exact hI) N fun e h => hN e ?_
        rw [show n + 1 + i + 1 = n + (i + 1) + 1 by omega]; exact h) (fun env' h => hd env' (by rw [List.length_cons, show n + (ds.length + 1) = n + 1 + ds.length by omega]; exact h))
def treeD : Option KT → D | none => .tup [] | some t => t.trD
/-- the grove and the law's model stand side by side -/
structure GInv (g : List Cell) (jg jk jm je : Nat) (T : Option KT) (L : List Lv) : Prop where
  G : ∃ n, GV g jg jk T L n
  M : ∃ n, MV g jm je (treeD T) L n
  ok : ∀ x ∈ L, Tok' x.1 ∧ OkE x.2.2
  d1 : ∀ j, j = jm ∨ j = je → j ≠ jg ∧ j ≠ jk ∧ j ∉ ixsO T
theorem GInv.tl {g : List Cell} {jg jk jm je : Nat} {t : KT} {L : List Lv} (I : GInv g jg jk jm je (some t) L) : TLv t L := by
  obtain ⟨n, G⟩ := I.G
  exact ⟨G.tr.2.2.2.2.2, G.nd, G.le, I.ok⟩
theorem ls_lvs : ∀ t : KT, t.ls = t.lvs.map (·.2.2)
  | lf _ _ _ => rfl
  | nd _ _ _ a b => by simp only [ls, lvs, List.map_append, ls_lvs a, ls_lvs b]
theorem keys_e (L : List Lv) : ((ekD L).map fun kv => kD kv.1) = L.map fun x => D.str x.1 := by
  show (L.map _).map _ = _
  rw [List.map_map]
  rfl
theorem beside_i {g : List Cell} {jg jk jm je : Nat} {T : Option KT} {L : List Lv} {k : D → List Cell → Prop} (I : GInv g jg jk jm je T L) (h0 : L ≠ []) (hk : ∀ c1 c2 i b e0, T = some (plug (c1 ++ c2) (lf i b e0)) → k (.tup [.str b, .int c1.length]) g) : wp__law_beside [.deck 1, .hd jm] g k := by
  obtain ⟨n, G⟩ := I.G
  obtain ⟨m, M⟩ := I.M
  have h1 := M.md
  have h2 := M.ed
  have hl := G.le
  have hpos : 0 < L.length := List.length_pos_iff.mpr h0
  obtain ⟨t, rfl⟩ : ∃ t, T = some t := by
    cases T with
    | none => exact absurd G.tr h0
    | some t => exact ⟨t, rfl⟩
  have Tt := I.tl
  have h1 : g[jm]? = some (.dic (mdD t.trD je m)) := h1
  unfold wp__law_beside wpOfS envS
  walk_at "psenv"
  unfold P__law_beside
  repeat walk_at "sm"
  rw [keys_e]
  repeat walk_at "sm"
  refine draw_i (by simp; omega) (by simp; omega) fun t1 a0 a1 => ?_
  have a2 : t1.toNat < L.length := by simp at a1; omega
  have hx : L[t1.toNat]? = some (L[t1.toNat]) := List.getElem?_eq_getElem a2
  generalize L[t1.toNat] = x at hx
  have hm := List.mem_of_getElem? hx
  refine dIx_l (d := .str x.1) (at_nat a0 (by rw [List.getElem?_map, hx]; rfl)) ?_
  repeat walk_at "sm"
  obtain ⟨c, rfl⟩ := find_ctx (Tt.pm.mem_iff.mpr hm)
  refine lpath_i Tt ?_
  repeat walk_at "sm"
  have hcl := ctx_len Tt.pm Tt.le
  rw [pth_len]
  refine draw_i (by omega) (by omega) fun t2 b0 b1 => ?_
  repeat walk_at "sm"
  refine draw_i (by decide) (by decide) fun t3 c0 c1 => ?_
  have fin : ∀ a : Int, 0 ≤ a → a ≤ c.length → k (.tup [.str x.1, .int a]) g := fun a q0 q1 => by
    have := hk (c.take a.toNat) (c.drop a.toNat) x.2.1 x.1 x.2.2 (by rw [List.take_append_drop])
    rw [List.length_take, show ((min a.toNat c.length : Nat) : Int) = a by omega] at this
    exact this
  refine dIx_in c0 (by simpa using c1) fun y hy => ?_
  simp only [List.mem_cons, List.not_mem_nil, or_false] at hy
  rcases hy with rfl | rfl | rfl
  · repeat walk_at "sm"
    exact reS_i rfl rfl (fin t2 b0 (by omega))
  · repeat walk_at "sm"
    exact reS_i rfl rfl (fin _ (by omega) (by omega))
  · repeat walk_at "sm"
    exact reS_i rfl rfl (fin 0 (by omega) (by omega))
set_option maxHeartbeats 2000000 in
theorem known_i {g : List Cell} {jg jk jm je i : Nat} {c1 c2 : List Fr'} {b : Str} {e0 : En} {L : List Lv} {k : D → List Cell → Prop} (I : GInv g jg jk jm je (some (plug (c1 ++ c2) (lf i b e0))) L) (hk : k (.bl true) g) : wp__law_is_known [.hd jg, .hd jm, .str b, .int c1.length] g k := by
  obtain ⟨n, G⟩ := I.G
  obtain ⟨m, M⟩ := I.M
  have hg := G.gr
  have h1 : g[jm]? = some (.dic (mdD (plug (c1 ++ c2) (lf i b e0)).trD je m)) := M.md
  have h2 := M.ed
  have Tt := I.tl
  have hcl := ctx_len Tt.pm Tt.le
  unfold wp__law_is_known wpOfS envS
  walk_at "psenv"
  unfold P__law_is_known
  repeat walk_at "sm"
  refine lpath_i Tt ?_
  repeat walk_at "sm"
  rw [pth_app, cut_len (by rw [List.length_append, pth_len, pth_len]; omega)]
  have sub : ∀ x ∈ (plug c1 (lf i b e0)).lvs, x ∈ L := fun x hx => Tt.pm.mem_iff.mp (by rw [plug_app]; exact (plug_lvs c2 _).mem_iff.mpr (List.mem_append_left _ hx))
  have ul : (plug c1 (lf i b e0)).lvs.length ≤ 24 := by
    have h := (plug_lvs c2 (plug c1 (lf i b e0))).length_eq
    rw [← plug_app, Tt.pm.length_eq, List.length_append] at h
    have := Tt.le
    omega
  have hkn : ∀ K0 : D → Prop, K0 (plug c1 (lf i b e0)).trD → wp__law_knot [(plug (c1 ++ c2) (lf i b e0)).trD, .lst (pth c2)] K0 := fun K0 h => by rw [plug_app, trD_plug c2]; exact knot_i h
  have hdp := dp_lvs (plug c1 (lf i b e0))
  have he : ((plug c1 (lf i b e0)).lvs.map fun x => enD x.2.2) = (plug c1 (lf i b e0)).ls.map enD := by rw [ls_lvs, List.map_map]; rfl
  have hrow : ∀ K0 : D → Prop, K0 (rowD (plug c1 (lf i b e0)).ls) → wp__law_row [.lst ((plug c1 (lf i b e0)).ls.map enD)] K0 := fun K0 h => lrow_i (ls_ne _) (by rw [ls_lvs, List.length_map]; omega) (fun e he => by
    rw [ls_lvs] at he
    obtain ⟨x, hx, rfl⟩ := List.mem_map.mp he
    exact (I.ok x (sub x hx)).2) h
  have hsum : ∀ K0 : D → Prop, K0 (.int (sumw (plug c1 (lf i b e0)).ls)) → gSum [.lst ((plug c1 (lf i b e0)).ls.map fun e => D.int e.l)] K0 := fun K0 h => gSum_i (intsD_m _ _) h
  have hgr : ∀ K0 : D → List Cell → Prop, K0 (rowD (plug c1 (lf i b e0)).ls) g → wp_Grove_row [.hd jg, .str b, .int c1.length] g K0 := fun K0 h => row_i G h
  have hgl : ∀ K0 : D → List Cell → Prop, K0 (.int (sumw (plug c1 (lf i b e0)).ls)) g → wp_Grove_load [.hd jg, .str b, .int c1.length] g K0 := fun K0 h => load_i G h
  have hll : (plug c1 (lf i b e0)).ls.length ≤ 100000 := by rw [ls_lvs, List.length_map]; omega
  have hnm : (plug c1 (lf i b e0)).nms.map D.str = (plug c1 (lf i b e0)).lvs.map fun x => D.str x.1 := by rw [nms_lvs, List.map_map]; rfl
  have hni : ∀ K0 : D → Prop, K0 (.lst ((plug c1 (lf i b e0)).lvs.map fun x => D.str x.1)) → wp__law_names_in [(plug c1 (lf i b e0)).trD] K0 := fun K0 h => names_i _ 26 _ (by omega) (by rw [nms_lvs, List.length_map]; omega) (by rw [hnm]; exact h)
  repeat walk_at "sm"
  refine hkn _ ?_
  generalize plug c1 (lf i b e0) = u at *
  repeat walk_at "sm"
  refine hni _ ?_
  repeat walk_at "sm"
  refine ⟨by simp [noOwn], ?_⟩
  refine lcP_m (fun x : Lv => D.str x.1) (fun x => enD x.2.2) u.lvs (by omega) ?_ ?_
  · intro x hx A Bb hA
    have hv := val_mem (F := fun x => enD x.2.2) (x := x) Tt.nd (sub x hx)
    repeat walk_at "sm"
    exact hA
  rw [he]
  repeat walk_at "sm"
  refine hgr _ ?_
  repeat walk_at "sm"
  refine hrow _ ?_
  refine dNe_i rfl rfl fun c hc => ?_
  have hct : c = true := hc.mpr rfl
  subst hct
  unfold rowD boxD
  repeat walk_at "sm"
  refine dAdd_t (by simp) ?_
  repeat walk_at "sm"
  refine ⟨by simp [noOwn], ?_⟩
  simp only [List.cons_append, List.nil_append]
  unfold lcP
  repeat walk_at "sm"
  unfold lcP
  repeat walk_at "sm"
  unfold lcP
  repeat walk_at "sm"
  unfold lcP
  repeat walk_at "sm"
  unfold lcP
  repeat walk_at "sm"
  unfold lcP
  repeat walk_at "sm"
  refine hgl _ ?_
  repeat walk_at "sm"
  refine ⟨by simp [noOwn], ?_⟩
  refine lcP_m (fun e : En => enD e) (fun e => D.int e.l) u.ls hll ?_ ?_
  · intro x hx A Bb hA
    repeat walk_at "sm"
    exact hA
  repeat walk_at "sm"
  refine hsum _ ?_
  repeat walk_at "sm"
  rw [decide_eq_true rfl]
  exact reS_i rfl rfl hk
theorem rangeD_at {lo : Int} {n i : Nat} {d : D} (h : (rangeD lo n)[i]? = some d) : d = .int (lo + (i : Nat)) ∧ i < n := by
  unfold rangeD at h
  rw [List.getElem?_map] at h
  obtain ⟨j, hj, e⟩ := Option.map_eq_some_iff.mp h
  have hi : i < n := by
    have := (List.getElem?_eq_some_iff.mp hj).1
    simpa using this
  rw [List.getElem?_range hi] at hj
  cases hj
  exact ⟨e.symm, hi⟩
theorem rangeD_len {lo : Int} {n : Nat} : (rangeD lo n).length = n := by simp [rangeD]
/-! some ends are known -/
set_option maxHeartbeats 1000000 in
theorem some_i' {g : List Cell} {jg jk jm je : Nat} {T : Option KT} {L : List Lv} {k : D → List Cell → Prop} (I : GInv g jg jk jm je T L) (hk : k (.bl true) g) : wp__law_some_known [.deck 1, .hd jg, .hd jm] g k := by
  obtain ⟨m, M⟩ := I.M
  have h1 := M.md
  have h2 := M.ed
  obtain ⟨n, G⟩ := I.G
  have hl := G.le
  unfold wp__law_some_known wpOfS envS
  walk_at "psenv"
  unfold P__law_some_known
  repeat walk_at "sm"
  have hlen : (ekD L).length = L.length := List.length_map _
  refine rgK1_i (by omega) (by omega) ?_
  refine forS_i (fun _ env => ∃ v3 v4 v5 v6, env = [SV.val (.deck 1), SV.val (.hd jg), SV.val (.hd jm), v3, v4, v5, v6, SV.gs g]) _ 0 ⟨_, _, _, _, rfl⟩ ?_ ?_
  · rintro i d env hd ⟨v3, v4, v5, v6, rfl⟩ N hN
    obtain ⟨rfl, hi⟩ := rangeD_at hd
    have h0 : L ≠ [] := by
      intro q
      subst q
      rw [hlen, List.length_nil] at hi
      omega
    repeat walk_at "sm"
    refine beside_i I h0 fun c1 c2 i b e0 hT => ?_
    subst hT
    repeat walk_at "sm"
    refine rgK1_i (by decide) (by decide) ?_
    refine forS_i (fun _ env => ∃ v3 v6, env = [SV.val (.deck 1), SV.val (.hd jg), SV.val (.hd jm), v3, SV.val (.str b), SV.val (.int c1.length), v6, SV.gs g]) _ 0 ⟨_, _, rfl⟩ ?_ ?_
    · rintro i' d env hd' ⟨v3, v6, rfl⟩ N' hN'
      repeat walk_at "sm"
      refine known_i I ?_
      repeat walk_at "sm"
      exact hN' _ ⟨_, _, rfl⟩
    · rintro env ⟨v3, v6, rfl⟩
      exact hN _ ⟨_, _, _, _, rfl⟩
  · rintro env ⟨v3, v4, v5, v6, rfl⟩
    repeat walk_at "sm"
    exact reS_i rfl rfl hk
theorem number_i {w : Int} {k : D → Prop} (hw : 0 ≤ w ∧ w < 3) (hk : ∀ x, OkI x → k (.int x)) : wp__law_number [.deck 1, .int w] k := by
  have hw3 : w = 0 ∨ w = 1 ∨ w = 2 := by omega
  unfold wp__law_number wpOf
  walk_at "psenv"
  unfold P__law_number
  rcases hw3 with rfl | rfl | rfl
  · repeat walk_at "st"
    refine draw_i (by decide) (by decide) fun t a0 a1 => ?_
    exact hk t ⟨by omega, by omega⟩
  · repeat walk_at "st"
    refine draw_i (by decide) (by decide) fun t a0 a1 => ?_
    refine dIx_in a0 (by simpa using a1) fun y hy => ?_
    simp only [List.mem_cons, List.not_mem_nil, or_false] at hy
    rcases hy with rfl | rfl
    · repeat walk_at "st"
      refine draw_i (by decide) (by decide) fun t2 b0 b1 => ?_
      have h3 : t2 = 0 ∨ t2 = 1 ∨ t2 = 2 := by omega
      rcases h3 with rfl | rfl | rfl <;> ((repeat walk_at "st"); exact hk _ ⟨by decide, by decide⟩)
    · repeat walk_at "st"
      refine draw_i (by decide) (by decide) fun t2 b0 b1 => ?_
      have h3 : t2 = 0 ∨ t2 = 1 ∨ t2 = 2 := by omega
      rcases h3 with rfl | rfl | rfl <;> ((repeat walk_at "st"); exact hk _ ⟨by decide, by decide⟩)
  · repeat walk_at "st"
    refine draw_i (by decide) (by decide) fun t a0 a1 => ?_
    repeat walk_at "st"
    exact hk _ ⟨by omega, by omega⟩
theorem lend_i {w : Int} {k : D → Prop} (hw : 0 ≤ w ∧ w < 3) (hk : ∀ e : En, OkE e → k (enD e)) : wp__law_end [.deck 1, .int w] k := by
  unfold wp__law_end wpOf
  walk_at "psenv"
  unfold P__law_end
  repeat walk_at "st"
  refine number_i hw fun x hx => ?_
  repeat walk_at "st"
  refine number_i hw fun y hy => ?_
  repeat walk_at "st"
  refine draw_i (by decide) (by decide) fun s1 a0 a1 => ?_
  repeat walk_at "st"
  refine draw_i (by decide) (by decide) fun s2 b0 b1 => ?_
  repeat walk_at "st"
  refine draw_i (by decide) (by decide) fun s3 c0 c1 => ?_
  refine dIx_in c0 (by simpa using c1) fun z hz => ?_
  obtain ⟨s, rfl, s0, s1'⟩ : ∃ s : Int, z = .int s ∧ 0 ≤ s ∧ s ≤ 1000000 := by
    simp only [List.mem_cons, List.not_mem_nil, or_false] at hz
    rcases hz with rfl | rfl | rfl | rfl
    · exact ⟨0, rfl, by decide, by decide⟩
    · exact ⟨0, rfl, by decide, by decide⟩
    · exact ⟨_, rfl, by omega, by omega⟩
    · exact ⟨_, rfl, by omega, by omega⟩
  repeat walk_at "st"
  refine draw_i (by decide) (by decide) fun l1 d0 d1 => ?_
  repeat walk_at "st"
  refine draw_i (by decide) (by decide) fun l2 e0 e1 => ?_
  repeat walk_at "st"
  refine draw_i (by decide) (by decide) fun l3 f0 f1 => ?_
  refine dIx_in f0 (by simpa using f1) fun z hz => ?_
  obtain ⟨l, rfl, l0, l1'⟩ : ∃ l : Int, z = .int l ∧ 0 ≤ l ∧ l ≤ 1000000 := by
    simp only [List.mem_cons, List.not_mem_nil, or_false] at hz
    rcases hz with rfl | rfl
    · exact ⟨_, rfl, by omega, by omega⟩
    · exact ⟨_, rfl, by omega, by omega⟩
  repeat walk_at "st"
  exact hk ⟨x, y, s, l⟩ ⟨hx, hy, s0, s1', l0, l1'⟩
def chS (c : Nat) : Str := ⟨#[c]⟩
theorem joinL_one : ∀ cs : List Nat, TL.joinL [] (cs.map fun c => [c]) = cs
  | [] => rfl
  | [c] => rfl
  | c :: d :: r => by
    show [c] ++ ([] ++ TL.joinL [] ((d :: r).map fun c => [c])) = _
    rw [joinL_one (d :: r)]
    rfl
theorem join_ch (cs : List Nat) : PySem.Txt.join (Str.ofString "") (cs.map chS) = ⟨cs.toArray⟩ := by
  apply TL.ext_tl
  show TL.tl (PySem.Builtin.Str.glued _ _) = _
  rw [StrLaws.glued_eq_join, TL.tl_join, List.map_map]
  show TL.joinL [] (cs.map fun c => [c]) = cs
  exact joinL_one cs
theorem let_nat : ∀ j : Fin 26, (Str.ofString "abcdefghijklmnopqrstuvwxyz").cps.toList[j.val]? = some (97 + j.val) := by decide +kernel
theorem let_at {i : Int} (h0 : 0 ≤ i) (h1 : i < 26) : atI (Str.ofString "abcdefghijklmnopqrstuvwxyz").cps.toList i = some (97 + i.toNat) := at_nat h0 (let_nat ⟨i.toNat, by omega⟩)
theorem let_ix {i : Int} {k : D → Prop} (h0 : 0 ≤ i) (h1 : i < 26) (h : k (.str (chS (97 + i.toNat)))) : dIxS (.str (Str.ofString "abcdefghijklmnopqrstuvwxyz")) (.int i) k := dIxS_i (by decide +kernel) (let_at h0 h1) h
def nmK (cs : List Nat) (a : Nat) (t : Int) (j : Nat) : Str := ⟨(cs.set a (97 + ((t + 7 * (j : Int)) % 26).toNat)).toArray⟩
theorem nmK_inj {cs : List Nat} {a : Nat} {t : Int} (ha : a < cs.length) {i j : Nat} (hi : i < 26) (hj : j < 26) (h : nmK cs a t i = nmK cs a t j) : i = j := by
  have e1 : (cs.set a (97 + ((t + 7 * (i : Int)) % 26).toNat)) = cs.set a (97 + ((t + 7 * (j : Int)) % 26).toNat) := by
    have := congrArg (fun s : Str => s.cps.toList) h
    exact this
  have e2 := congrArg (fun l : List Nat => l[a]?) e1
  simp only [List.getElem?_set_self ha] at e2
  have e3 := Option.some.inj e2
  omega
theorem nmK_tok {cs : List Nat} {a : Nat} {t : Int} {j : Nat} (hc : ∀ c ∈ cs, 97 ≤ c ∧ c < 123) : Tok' (nmK cs a t j) := by
  unfold Tok' PyData.strOk nmK
  rw [← Array.all_toList]
  show (cs.set a _).all _ = true
  rw [List.all_eq_true]
  intro c hm
  rcases List.mem_or_eq_of_mem_set hm with h | h
  · have := hc c h
    exact decide_eq_true (by omega)
  · rw [h]
    exact decide_eq_true (by omega)
theorem sum_ones : ∀ cs : List Nat, (cs.map fun _ => 1).sum = cs.length
  | [] => rfl
  | c :: cs => by rw [List.map_cons, List.sum_cons, sum_ones cs, List.length_cons]; omega
theorem gJ {cs : List Nat} {k : D → Prop} (hl : cs.length ≤ 8) (h : k (.str ⟨cs.toArray⟩)) : gJoin (Str.ofString "") (.lst (cs.map fun c => D.str (chS c))) k := by
  have := gJoin_l (a := Str.ofString "") (ys := cs.map chS) (k := k) ?_ (by rw [join_ch]; exact h)
  · rw [List.map_map] at this
    exact this
  · rw [List.map_map, List.length_map]
    have e : (cs.map ((fun x : Str => x.length) ∘ chS)) = cs.map fun _ => 1 := rfl
    rw [e]
    rw [sum_ones]
    show cs.length + cs.length * 0 ≤ _
    omega
set_option maxHeartbeats 2000000 in
theorem pool_i {k : D → Prop} (hk : ∀ P : List Str, P.length = 26 → P.Nodup → (∀ x ∈ P, Tok' x) → k (.lst (P.map D.str))) : wp__law_pool [.deck 1] k := by
  unfold wp__law_pool wpOf
  walk_at "psenv"
  unfold P__law_pool
  repeat walk_at "st"
  refine draw_i (by decide) (by decide) fun t1 a0 a1 => ?_
  repeat walk_at "st"
  refine draw_i (by omega) (by omega) fun t2 b0 b1 => ?_
  repeat walk_at "st"
  refine rgK1_i (by omega) (by omega) ?_
  refine ⟨by simp [noOwn], ?_⟩
  refine lcP_i (fun i acc => ∃ cs : List Nat, acc = cs.map (fun c => D.str (chS c)) ∧ cs.length = i ∧ ∀ c ∈ cs, 97 ≤ c ∧ c < 123) _ 0 ⟨[], rfl, rfl, fun c h => nomatch h⟩ ?_ ?_
  · rintro i d acc hd ⟨cs, rfl, hl, hc⟩
    obtain ⟨rfl, hi⟩ := rangeD_at hd
    refine ⟨by rw [List.length_map]; omega, fun A B hA hB => ?_⟩
    repeat walk_at "st"
    refine draw_i (by decide) (by decide) fun t3 c0 c1 => ?_
    refine let_ix c0 c1 (hA _ ⟨cs ++ [97 + t3.toNat], by simp, by simp [hl], fun c h => ?_⟩)
    rcases List.mem_append.mp h with h | h
    · exact hc c h
    · rw [List.mem_singleton.mp h]; omega
  rintro acc ⟨cs, rfl, hl, hc⟩
  rw [rangeD_len] at hl
  repeat walk_at "st"
  refine draw_i (by decide) (by decide) fun t4 d0 d1 => ?_
  repeat walk_at "st"
  refine rgK1_i (by decide) (by decide) ?_
  refine forP_i (fun i env => ∃ cs' v5, env = [SV.val (.deck 1), SV.val (.str (Str.ofString "abcdefghijklmnopqrstuvwxyz")), SV.val (.int (1 + t1)), SV.val (.int t2), SV.own (.lst (cs'.map fun c => D.str (chS c))), v5, SV.val (.int t4), SV.own (.lst ((List.range i).map fun j => D.str (nmK cs t2.toNat t4 j)))] ∧ cs'.length = cs.length ∧ ∀ x, cs'.set t2.toNat x = cs.set t2.toNat x) _ 0 ⟨cs, _, rfl, rfl, fun _ => rfl⟩ ?_ ?_
  · rintro i d env hd ⟨cs', v5, rfl, hl', hs'⟩ N hN
    obtain ⟨rfl, hi⟩ := rangeD_at hd
    have hi : i < 26 := hi
    repeat walk_at "st"
    refine sPut_i rfl ?_
    repeat walk_at "st"
    refine let_ix (by omega) (by omega) ?_
    repeat walk_at "st"
    refine ⟨t2.toNat, ?_, ?_⟩
    · unfold ixN
      rw [List.length_map]
      rw [if_pos b0, if_pos (by omega)]
    rw [show (cs'.map fun c => D.str (chS c)).set t2.toNat (D.str (chS (97 + ((t4 + 7 * (0 + (i : Int))) % 26).toNat))) = (cs'.set t2.toNat (97 + ((t4 + 7 * (0 + (i : Int))) % 26).toNat)).map fun c => D.str (chS c) from (List.map_set (f := fun c => D.str (chS c))).symm]
    have hlen : (cs'.set t2.toNat (97 + ((t4 + 7 * (0 + (i : Int))) % 26).toNat)).length ≤ 8 := by rw [List.length_set]; omega
    have hnm : (⟨(cs'.set t2.toNat (97 + ((t4 + 7 * (0 + (i : Int))) % 26).toNat)).toArray⟩ : Str) = nmK cs t2.toNat t4 i := by rw [hs', Int.zero_add]; rfl
    have hss : ∀ x, (cs'.set t2.toNat (97 + ((t4 + 7 * (0 + (i : Int))) % 26).toNat)).set t2.toNat x = cs.set t2.toNat x := fun x => by rw [List.set_set]; exact hs' x
    have hsl : (cs'.set t2.toNat (97 + ((t4 + 7 * (0 + (i : Int))) % 26).toNat)).length = cs.length := by rw [List.length_set]; exact hl'
    generalize cs'.set t2.toNat (97 + ((t4 + 7 * (0 + (i : Int))) % 26).toNat) = c2 at *
    repeat walk_at "st"
    refine eM1_i ?_
    repeat walk_at "st"
    refine strK_i ?_
    repeat walk_at "st"
    refine gJ hlen ?_
    rw [hnm]
    refine ⟨by simp; omega, ?_⟩
    refine nx_i (hN _ ⟨c2, SV.val (.int (0 + (i : Int))), ?_, hsl, hss⟩)
    rw [show 0 + i + 1 = i + 1 by omega, show 0 + i = i by omega, List.range_succ, List.map_append]
    rfl
  · rintro env ⟨cs', v5, rfl, hl', hs'⟩
    rw [rangeD_len]
    repeat walk_at "st"
    have := hk ((List.range 26).map fun j => nmK cs t2.toNat t4 j) (by simp) ?_ ?_
    · rw [List.map_map] at this
      exact this
    · refine List.pairwise_map.mpr ((List.pairwise_lt_range (n := 26)).imp_of_mem fun hx hy hlt q => ?_)
      have := nmK_inj (by rw [hl]; omega) (List.mem_range.mp hx) (List.mem_range.mp hy) q
      omega
    · intro x hx
      obtain ⟨j, _, rfl⟩ := List.mem_map.mp hx
      exact nmK_tok hc
theorem MV.frame {g g' : List Cell} {jm je : Nat} {tr : D} {L : List Lv} {n : Int} (M : MV g jm je tr L n) (h1 : g'[jm]? = g[jm]?) (h2 : g'[je]? = g[je]?) : MV g' jm je tr L n := ⟨h1.trans M.md, h2.trans M.ed, M.ne⟩
theorem GV.frame {g g' : List Cell} {jg jk : Nat} {T : Option KT} {L : List Lv} {n : Int} (G : GV g jg jk T L n) (h : ∀ j, j = jg ∨ j = jk ∨ j ∈ ixsO T → g'[j]? = g[j]?) : GV g' jg jk T L n :=
  ⟨(h _ (.inl rfl)).trans G.gr, (h _ (.inr (.inl rfl))).trans G.kn, G.nd, G.le, G.jne, by
    cases T with
    | none => exact G.tr
    | some t => exact ⟨G.tr.1.frame fun j hj => h j (.inr (.inr hj)), G.tr.2⟩⟩
/-- the model's step does not touch the grove -/
theorem GInv.off {g g' : List Cell} {jg jk jm je : Nat} {T : Option KT} {L : List Lv} (I : GInv g jg jk jm je T L) (h : ∀ j, j ≠ jm → j ≠ je → g'[j]? = g[j]?) : ∀ j, j = jg ∨ j = jk ∨ j ∈ ixsO T → g'[j]? = g[j]? := fun j hj => by
  have a := I.d1 jm (.inl rfl)
  have b := I.d1 je (.inr rfl)
  refine h j (fun q => ?_) (fun q => ?_)
  · subst q
    rcases hj with q | q | q
    · exact a.1 q
    · exact a.2.1 q
    · exact a.2.2 q
  · subst q
    rcases hj with q | q | q
    · exact b.1 q
    · exact b.2.1 q
    · exact b.2.2 q
/-- the grove's step does not touch the model -/
theorem GInv.next {g g1 g' : List Cell} {jg jk jm je : Nat} {T T' : Option KT} {L L' : List Lv} {n m : Int} (I : GInv g jg jk jm je T L) (hl : g1.length = g.length) (M : MV g1 jm je (treeD T') L' m) (G : GV g' jg jk T' L' n) (X : Nx g1 g' jg jk T T') (ok : ∀ x ∈ L', Tok' x.1 ∧ OkE x.2.2) : GInv g' jg jk jm je T' L' := by
  have a := I.d1 jm (.inl rfl)
  have b := I.d1 je (.inr rfl)
  have lm := lt_of_at M.md
  have le := lt_of_at M.ed
  refine ⟨⟨n, G⟩, ⟨m, M.frame (X.fr _ a.2.2 a.1 a.2.1 lm) (X.fr _ b.2.2 b.1 b.2.1 le)⟩, ok, fun j hj => ?_⟩
  rcases hj with rfl | rfl
  · exact ⟨a.1, a.2.1, fun h => (X.own _ h).elim a.2.2 (fun q => by omega)⟩
  · exact ⟨b.1, b.2.1, fun h => (X.own _ h).elim b.2.2 (fun q => by omega)⟩
theorem treeD_go (c : List Fr') (T' : Option KT) (h : T'.map KT.sk = (goT c).map KT.sk) : treeD T' = goD c := by
  cases c with
  | nil =>
    cases T' with
    | none => rfl
    | some t => cases h
  | cons f c =>
    cases T' with
    | none => cases h
    | some t =>
      have e : t.sk = (plug c f.o).sk := Option.some.inj h
      show t.trD = plugD c f.o.trD
      rw [← sk_trD t, e, sk_trD, trD_plug]
/-- both let a name go -/
theorem both_go {g : List Cell} {jg jk jm je : Nat} {T : Option KT} {L : List Lv} {s : Str} {K : D → List Cell → Prop} (I : GInv g jg jk jm je T L) (hs : s ∈ L.map (·.1)) (hK : ∀ g1 r n, g1[jg]? = some (.ins 1 (grF jk r n)) → (∀ k : D → List Cell → Prop, (∀ g' T', GInv g' jg jk jm je T' (L.filter fun x => decide (x.1 ≠ s)) → k .non g') → wp_Grove_go [.hd jg, .str s] g1 k) → K .non g1) : wp__law_go [.hd jm, .str s] g K := by
  obtain ⟨x, hx, rfl⟩ := List.mem_map.mp hs
  obtain ⟨t, rfl⟩ : ∃ t, T = some t := by
    obtain ⟨n, G⟩ := I.G
    cases T with
    | none => have : L = [] := G.tr; rw [this] at hx; cases hx
    | some t => exact ⟨t, rfl⟩
  have Tt := I.tl
  obtain ⟨c, rfl⟩ := find_ctx (Tt.pm.mem_iff.mpr hx)
  obtain ⟨n, G⟩ := I.G
  obtain ⟨m, M⟩ := I.M
  refine lgo_i M Tt fun g1 M1 f1 l1 => ?_
  have G1 := G.frame (I.off f1)
  refine hK g1 _ _ G1.gr fun k hk => ?_
  refine go_i G1 fun g' T' G' e X => hk g' T' ?_
  refine I.next (m := m + (c.length - 1 : Nat)) l1 ?_ G' X fun y hy => I.ok y (List.mem_filter.mp hy).1
  rw [treeD_go c T' e]
  exact M1
/-- both take an end -/
theorem both_come {g : List Cell} {jg jk jm je i : Nat} {c1 c2 : List Fr'} {L : List Lv} {s b : Str} {e e0 : En} {K : D → List Cell → Prop} (I : GInv g jg jk jm je (some (plug (c1 ++ c2) (lf i b e0))) L) (hs : s ∉ L.map (·.1)) (hl : L.length < 24) (ts : Tok' s) (oe : OkE e) (hK : ∀ g1 r n, g1[jg]? = some (.ins 1 (grF jk r n)) → (∀ k : D → List Cell → Prop, (∀ g' T' q, GInv g' jg jk jm je T' (L ++ [(s, q, e)]) → k .non g') → wp_Grove_come [.hd jg, .str s, .int e.x, .int e.y, .int e.s, .int e.l, .str b, .int c1.length] g1 k) → K .non g1) :
    wp__law_come [.hd jm, .str s, enD e, .str b, .int c1.length] g K := by
  have Tt := I.tl
  obtain ⟨n, G⟩ := I.G
  obtain ⟨m, M⟩ := I.M
  refine come1_i (q := g.length) (m := 0) (st := .non) (wt := .non) M Tt hs fun g1 M1 f1 l1 => ?_
  have G1 := G.frame (I.off f1)
  refine hK g1 _ _ G1.gr fun k hk => ?_
  refine come_i G1 hs hl fun g' T' G' ⟨m', em⟩ X => hk g' (some T') g1.length ?_
  refine I.next (m := m + 1 + c2.length) l1 ?_ G' X fun y hy => ?_
  · have e1 : T'.trD = (plug c2 (nd 0 .non .non (plug c1 (lf i b e0)) (lf g.length s e))).trD := by
      rw [← sk_trD T', em, sk_trD, trD_plug, trD_plug]
      rfl
    have := M1
    rw [← e1, ← l1] at this
    exact this
  · rcases List.mem_append.mp hy with h | h
    · exact I.ok y h
    · rw [List.mem_singleton.mp h]; exact ⟨ts, oe⟩
theorem both_first {g : List Cell} {jg jk jm je : Nat} {s : Str} {e : En} {K : D → List Cell → Prop} (I : GInv g jg jk jm je none []) (ts : Tok' s) (oe : OkE e) (hK : ∀ g1 r n, g1[jg]? = some (.ins 1 (grF jk r n)) → (∀ k : D → List Cell → Prop, (∀ g' T' q, GInv g' jg jk jm je T' [(s, q, e)] → k .non g') → wp_Grove_come [.hd jg, .str s, .int e.x, .int e.y, .int e.s, .int e.l, .non, .int 0] g1 k) → K .non g1) :
    wp__law_come [.hd jm, .str s, enD e, .non, .int 0] g K := by
  obtain ⟨n, G⟩ := I.G
  obtain ⟨m, M⟩ := I.M
  refine come0_i (q := g.length) M fun g1 M1 f1 l1 => ?_
  have G1 := G.frame (I.off f1)
  refine hK g1 _ _ G1.gr fun k hk => ?_
  refine come_first G1 fun g' G' X => hk g' (some (lf g1.length s e)) g1.length ?_
  refine I.next (m := m) l1 ?_ G' X fun y hy => by rw [List.mem_singleton.mp hy]; exact ⟨ts, oe⟩
  have := M1
  rw [← l1] at this
  exact this
theorem nodup_len : ∀ {P Q : List Str}, P.Nodup → (∀ x ∈ P, x ∈ Q) → P.length ≤ Q.length
  | [], Q, _, _ => Nat.zero_le _
  | x :: P, Q, hn, hs => by
    have hn := List.nodup_cons.mp hn
    have hx := hs x List.mem_cons_self
    have := nodup_len (P := P) (Q := Q.erase x) hn.2 fun y hy => (List.mem_erase_of_ne fun e : y = x => hn.1 (e ▸ hy)).mpr (hs y (List.mem_cons_of_mem _ hy))
    rw [List.length_erase_of_mem hx] at this
    have := List.length_pos_of_mem hx
    rw [List.length_cons]
    omega
theorem lcP_fa {α : Type} {pg : PGt} {pt : PTs'} {pe : PX} {env : List SV} {k : List D → Prop} (e : α → D) (c : α → Bool) (f : α → D) : ∀ (xs : List α) (acc : List D), acc.length + xs.length ≤ 100000 →
    (∀ x ∈ xs, ∀ (A : D → Prop) (B : Prop), (c x = true → A (f x)) → (c x = false → B) → pg (e x) env fun env1 => pt env1 fun b => if b = true then pe env1 A else B) → k (acc ++ (xs.filter c).map f) → lcP pg pt pe env (xs.map e) acc k := by
  intro xs
  induction xs with
  | nil => intro acc _ _ hk; simp only [List.map_nil, lcP]; simpa using hk
  | cons x xs ih =>
    intro acc hl hs hk
    rw [List.map_cons]
    unfold lcP
    have hl' : acc.length + (xs.length + 1) ≤ 100000 := hl
    refine hs x List.mem_cons_self _ _ (fun hc => ?_) (fun hc => ?_)
    · refine ⟨by omega, ih _ (by simp; omega) (fun y h => hs y (List.mem_cons_of_mem _ h)) ?_⟩
      rw [List.filter_cons, if_pos hc, List.map_cons] at hk
      rw [List.append_assoc]
      exact hk
    · refine ih _ (by omega) (fun y h => hs y (List.mem_cons_of_mem _ h)) ?_
      rw [List.filter_cons, if_neg (by rw [hc]; exact Bool.false_ne_true)] at hk
      exact hk
theorem names_e (L : List Lv) : (L.map fun x => D.str x.1) = (L.map (·.1)).map D.str := by rw [List.map_map]; rfl
theorem dInS_n {s : Str} {ss : List Str} {k : D → Prop} (h : k (.bl (!decide (s ∈ ss)))) : dInS true (.str s) (.lst (ss.map D.str)) k := ⟨s, ss, rfl, .inr rfl, h⟩
theorem go_part {g : List Cell} {jg jk jm je : Nat} {T : Option KT} {L : List Lv} {v3 v4 v6 v7 v8 v9 v10 v11 : SV} {N B C : List SV → Prop} {R : D → Prop} {E : List SV → D → Prop} (I : GInv g jg jk jm je T L) (hpos : 0 < L.length) (hk : ∀ g' T' s, GInv g' jg jk jm je T' (L.filter fun x => decide (x.1 ≠ s)) → E [SV.val (.deck 1), SV.val (.hd jg), SV.val (.hd jm), v3, v4, SV.val (.lst ((L.map (·.1)).map D.str)), v6, SV.val (.str s), v8, v9, v10, v11, SV.gs g'] (.bl true)) :
    (sSeq (sSet 7 (eOp dIx (eV 5) (eCall (fun ds k => ds.length = 2 ∧ wp__law_draw ds k) (aCons (eV 0) (aCons (eCall gLen (aCons (eV 5) aNil)) aNil)))))
    (sSeq (sDropM (mCallS 12 2 [] wp__law_go (mA (aCons (eV 2) (aCons (eV 7) aNil)))))
    (sRetS (mOp (dIs false) (mMethS 12 2 1 "go" [] wp_Grove_go (eV 1) (mA (aCons (eV 7) aNil))) (mE (eC .non)))))) [SV.val (.deck 1), SV.val (.hd jg), SV.val (.hd jm), v3, v4, SV.val (.lst ((L.map (·.1)).map D.str)), v6, v7, v8, v9, v10, v11, SV.gs g] { nx := N, rt := R, bk := B, ct := C, re := E } := by
  obtain ⟨n, G⟩ := I.G
  have hle := G.le
  have hln : ((L.map (·.1)).map D.str).length = L.length := by simp
  repeat walk_at "sm"
  rw [hln]
  refine draw_i (by omega) (by omega) fun t a0 a1 => ?_
  have a2 : t.toNat < L.length := by omega
  have hx : L[t.toNat]? = some (L[t.toNat]) := List.getElem?_eq_getElem a2
  generalize L[t.toNat] = x at hx
  refine dIx_l (d := .str x.1) (at_nat a0 (by rw [List.getElem?_map, List.getElem?_map, hx]; rfl)) ?_
  repeat walk_at "sm"
  refine both_go I (List.mem_map.mpr ⟨x, List.mem_of_getElem? hx, rfl⟩) fun g1 r m hg1 hgo => ?_
  repeat walk_at "sm"
  refine hgo _ fun g' T' I' => ?_
  repeat walk_at "sm"
  exact hk g' T' x.1 I'
theorem free_i {env : List SV} {ns P : List Str} {K : List D → Prop} (hP : P.length ≤ 26) (h5 : env[5]? = some (.val (.lst (ns.map D.str)))) (h7 : 7 < env.length) (h : K ((P.filter fun s => decide (s ∉ ns)).map D.str)) : lcP (gtName 7) (tOf (eOp (dInS true) (eV 7) (eV 5))) (eV 7) env (P.map D.str) [] K := by
  refine lcP_fa D.str (fun s => decide (s ∉ ns)) D.str P [] (by simp; omega) ?_ h
  intro s hs A B hA hB
  refine gtName_i ?_
  refine tOf_i ?_
  refine eOp_i ?_
  refine eV_i (d := .str s) (List.getElem?_set_self h7) ?_
  refine eV_i (d := .lst (ns.map D.str)) ((List.getElem?_set_ne (by decide)).trans h5) ?_
  refine dInS_n (blK_i ?_)
  refine ite_n (fun q => eV_i (d := .str s) (List.getElem?_set_self h7) (hA (decide_eq_true q))) (fun q => hB (decide_eq_false (fun h => h q)))
set_option maxHeartbeats 4000000 in
theorem deed_i {g : List Cell} {jg jk jm je : Nat} {T : Option KT} {L : List Lv} {P : List Str} {w : Int} {k : D → List Cell → Prop} (I : GInv g jg jk jm je T L) (hw : 0 ≤ w ∧ w < 3) (hP : P.length ≤ 26) (tok : ∀ x ∈ P, Tok' x) (hn : P.Nodup) (sub : ∀ x ∈ L, x.1 ∈ P) (hlt : L.length < P.length)
    (hk : ∀ g' T' L', GInv g' jg jk jm je T' L' → (∀ x ∈ L', x.1 ∈ P) → k (.bl true) g') : wp__law_deed [.deck 1, .hd jg, .hd jm, .lst (P.map D.str), .int w] g k := by
  obtain ⟨n, G⟩ := I.G
  obtain ⟨m, M⟩ := I.M
  have h1 := M.md
  have h2 := M.ed
  have hle := G.le
  have hF : ∃ x ∈ P, x ∉ L.map (·.1) := by
    apply Classical.byContradiction
    intro q
    have := nodup_len hn (Q := L.map (·.1)) fun x hx => Classical.byContradiction fun h => q ⟨x, hx, h⟩
    rw [List.length_map] at this
    omega
  have hFl : 0 < (P.filter fun s => decide (s ∉ L.map (·.1))).length := by
    obtain ⟨x, hx, hq⟩ := hF
    exact List.length_pos_of_mem (List.mem_filter.mpr ⟨hx, by simpa using hq⟩)
  have hFu : (P.filter fun s => decide (s ∉ L.map (·.1))).length ≤ 26 := Nat.le_trans (List.length_filter_le _ _) hP
  have hFm : ∀ (i : Nat) (s : Str), (P.filter fun s => decide (s ∉ L.map (·.1)))[i]? = some s → s ∈ P ∧ s ∉ L.map (·.1) := fun i s h => by
    have := List.mem_filter.mp (List.mem_of_getElem? h)
    exact ⟨this.1, by simpa using this.2⟩
  unfold wp__law_deed wpOfS envS
  walk_at "psenv"
  unfold P__law_deed
  repeat walk_at "sm"
  rw [keys_e, names_e]
  repeat walk_at "sm"
  refine draw_i (by decide) (by decide) fun t1 a0 a1 => ?_
  repeat walk_at "sm"
  have hln : ((L.map (·.1)).map D.str).length = L.length := by simp
  rcases Nat.eq_zero_or_pos L.length with hz | hpos
  · -- the first end
    have hemp : ((L.map (·.1)).map D.str).isEmpty = true := by rw [List.length_eq_zero_iff.mp hz]; rfl
    rw [hemp]
    repeat walk_at "sm"
    refine ⟨by simp [noOwn], ?_⟩
    refine free_i hP rfl (by simp [wipeE]) ?_
    generalize (P.filter fun s => decide (s ∉ L.map (·.1))) = F at *
    have hFn : (F.map D.str).length = F.length := by simp
    repeat walk_at "sm"
    rw [hFn]
    refine draw_i (by omega) (by omega) fun t b0 b1 => ?_
    have b2 : t.toNat < F.length := by omega
    have hx : F[t.toNat]? = some (F[t.toNat]) := List.getElem?_eq_getElem b2
    generalize F[t.toNat] = s at hx
    obtain ⟨s1, s2⟩ := hFm _ _ hx
    refine dIx_l (d := .str s) (at_nat b0 (by rw [List.getElem?_map, hx]; rfl)) ?_
    repeat walk_at "sm"
    refine lend_i hw fun e oe => ?_
    repeat walk_at "sm"
    rw [hemp]
    repeat walk_at "sm"
    have hL := List.length_eq_zero_iff.mp hz
    subst hL
    have hT : T = none := by
      cases T with
      | none => rfl
      | some t => have q := (G.tr.2.2.2.2.2).length_eq; have := lvs_pos t; rw [List.length_nil] at q; omega
    subst hT
    refine both_first I (tok s s1) oe fun g1 r m hg1 hc => ?_
    repeat walk_at "sm"
    refine hc _ fun g' T' q I' => ?_
    repeat walk_at "sm"
    exact reS_i rfl rfl (hk g' T' _ I' fun x hx => by rw [List.mem_singleton.mp hx]; exact s1)
  · have hemp : ((L.map (·.1)).map D.str).isEmpty = false := by cases L with
      | nil => simp at hpos
      | cons x L => rfl
    have hLne : L ≠ [] := List.length_pos_iff.mp hpos
    rw [hemp]
    repeat walk_at "sm"
    refine ite_d (fun q => ?_) (fun q => ?_)
    · refine iteT rfl ?_
      refine go_part I hpos fun g' T' s I' => ?_
      exact reS_i rfl rfl (hk g' T' _ I' fun x hx => sub x (List.mem_filter.mp hx).1)
    repeat walk_at "sm"
    rw [hln]
    refine ite_d (fun q => ?_) (fun q => ?_)
    · refine go_part I hpos fun g' T' s I' => ?_
      exact reS_i rfl rfl (hk g' T' _ I' fun x hx => sub x (List.mem_filter.mp hx).1)
    repeat walk_at "sm"
    refine ⟨by simp [noOwn], ?_⟩
    refine free_i hP rfl (by simp [wipeE]) ?_
    generalize (P.filter fun s => decide (s ∉ L.map (·.1))) = F at *
    have hFn : (F.map D.str).length = F.length := by simp
    repeat walk_at "sm"
    rw [hFn]
    refine draw_i (by omega) (by omega) fun t b0 b1 => ?_
    have b2 : t.toNat < F.length := by omega
    have hx : F[t.toNat]? = some (F[t.toNat]) := List.getElem?_eq_getElem b2
    generalize F[t.toNat] = s at hx
    obtain ⟨s1, s2⟩ := hFm _ _ hx
    refine dIx_l (d := .str s) (at_nat b0 (by rw [List.getElem?_map, hx]; rfl)) ?_
    repeat walk_at "sm"
    refine lend_i hw fun e oe => ?_
    repeat walk_at "sm"
    rw [hemp]
    repeat walk_at "sm"
    refine beside_i I hLne fun c1 c2 i b e0 hT => ?_
    subst hT
    repeat walk_at "sm"
    refine both_come I s2 (by omega) (tok s s1) oe fun g1 r m hg1 hc => ?_
    repeat walk_at "sm"
    have fin : ∀ g' T' q, GInv g' jg jk jm je T' (L ++ [(s, q, e)]) → k (.bl true) g' := fun g' T' q I' => hk g' T' _ I' fun x hx => (List.mem_append.mp hx).elim (sub x) fun h => by rw [List.mem_singleton.mp h]; exact s1
    refine ite_d (fun q => ?_) (fun q => ?_)
    · repeat walk_at "sm"
      rw [show (0 : Int) = (c1.length : Int) from q.symm]
      refine hc _ fun g' T' q I' => ?_
      repeat walk_at "sm"
      exact reS_i rfl rfl (fin g' T' q I')
    · repeat walk_at "sm"
      refine hc _ fun g' T' q I' => ?_
      repeat walk_at "sm"
      exact reS_i rfl rfl (fin g' T' q I')
theorem mMakeS0_i {i n c : Nat} {dds : List D} {wp : List D → List Cell → (D → List Cell → Prop) → Prop} {env : List SV} {km : List SV → D → Prop} (h : gsAt i env fun g => (D.hd g.length :: dds).length = n ∧ wp (.hd g.length :: dds) (g ++ [.ins c []]) fun d g' => d = .non ∧ km (env.set i (.gs g')) (.hd g.length)) : mMakeS0 i n c dds wp env km := h
theorem mCallS0_i {i n : Nat} {dds : List D} {wp : List D → List Cell → (D → List Cell → Prop) → Prop} {env : List SV} {km : List SV → D → Prop} (h : gsAt i env fun g => dds.length = n ∧ wp dds g fun d g' => km (env.set i (.gs g')) d) : mCallS0 i n dds wp env km := h
set_option maxHeartbeats 4000000 in
theorem step_i {g : List Cell} {jg jk jm je : Nat} {T : Option KT} {L : List Lv} {P : List Str} {w : Int} {v0 v2 v3 v8 v9 v10 : SV} {N B C : List SV → Prop} {R : D → Prop} {E : List SV → D → Prop} (I : GInv g jg jk jm je T L) (hw : 0 ≤ w ∧ w < 3) (hP : P.length ≤ 26) (tok : ∀ x ∈ P, Tok' x) (hn : P.Nodup) (sub : ∀ x ∈ L, x.1 ∈ P) (hlt : L.length < P.length)
    (hk : ∀ g' T' L', GInv g' jg jk jm je T' L' → (∀ x ∈ L', x.1 ∈ P) → N [v0, SV.val (.deck 1), v2, v3, SV.val (.int w), SV.val (.lst (P.map D.str)), SV.val (.hd jg), SV.val (.hd jm), v8, v9, v10, SV.gs g']) :
    sIfM (mOr (mNot (mOf (mCallS 11 5 [] wp__law_deed (mA (aCons (eV 1) (aCons (eV 6) (aCons (eV 7) (aCons (eV 5) (aCons (eV 4) aNil))))))))) (mNot (mOf (mCallS 11 3 [] wp__law_some_known (mA (aCons (eV 1) (aCons (eV 6) (aCons (eV 7) aNil)))))))) (sRetS (mE (eC (.bl false)))) sNext
     [v0, SV.val (.deck 1), v2, v3, SV.val (.int w), SV.val (.lst (P.map D.str)), SV.val (.hd jg), SV.val (.hd jm), v8, v9, v10, SV.gs g] { nx := N, rt := R, bk := B, ct := C, re := E } := by
  repeat walk_at "sm"
  refine deed_i I hw hP tok hn sub hlt fun g' T' L' I' s' => ?_
  repeat walk_at "sm"
  refine some_i' I' ?_
  repeat walk_at "sm"
  exact hk g' T' L' I' s'
set_option maxHeartbeats 4000000 in
theorem body_i {g : List Cell} {jg jk jm je : Nat} {T : Option KT} {L : List Lv} {P : List Str} {w : Int} {v0 v2 v3 v8 v9 v10 : SV} {N B C : List SV → Prop} {R : D → Prop} {E : List SV → D → Prop} (I : GInv g jg jk jm je T L) (hw : 0 ≤ w ∧ w < 3) (hP : P.length ≤ 26) (h0 : 0 < P.length) (tok : ∀ x ∈ P, Tok' x) (hn : P.Nodup) (sub : ∀ x ∈ L, x.1 ∈ P)
    (hk : ∀ g' T' L' v9, GInv g' jg jk jm je T' L' → (∀ x ∈ L', x.1 ∈ P) → N [v0, SV.val (.deck 1), v2, v3, SV.val (.int w), SV.val (.lst (P.map D.str)), SV.val (.hd jg), SV.val (.hd jm), v8, v9, v10, SV.gs g']) :
    (sSeq (sIf (tOf (eOp dEq (gsLen 11 (eSubS 11 (eV 7) (eC (.str (Str.ofString "ends"))))) (eCall gLen (aCons (eV 5) aNil)))) (sSeq (sSet 9 (eOp dIx (eV 5) (eCall (fun ds k => ds.length = 2 ∧ wp__law_draw ds k) (aCons (eV 1) (aCons (eCall gLen (aCons (eV 5) aNil)) aNil)))))
    (sSeq (sDropM (mCallS 11 2 [] wp__law_go (mA (aCons (eV 7) (aCons (eV 9) aNil)))))
    (sDropM (mMethS 11 2 1 "go" [] wp_Grove_go (eV 6) (mA (aCons (eV 9) aNil)))))) sNext)
    (sIfM (mOr (mNot (mOf (mCallS 11 5 [] wp__law_deed (mA (aCons (eV 1) (aCons (eV 6) (aCons (eV 7) (aCons (eV 5) (aCons (eV 4) aNil))))))))) (mNot (mOf (mCallS 11 3 [] wp__law_some_known (mA (aCons (eV 1) (aCons (eV 6) (aCons (eV 7) aNil)))))))) (sRetS (mE (eC (.bl false)))) sNext))
     [v0, SV.val (.deck 1), v2, v3, SV.val (.int w), SV.val (.lst (P.map D.str)), SV.val (.hd jg), SV.val (.hd jm), v8, v9, v10, SV.gs g] { nx := N, rt := R, bk := B, ct := C, re := E } := by
  obtain ⟨n, G⟩ := I.G
  obtain ⟨m, M⟩ := I.M
  have h1 := M.md
  have h2 := M.ed
  have hPn : (P.map D.str).length = P.length := by simp
  have hLn : (ekD L).length = L.length := List.length_map _
  have hle : L.length ≤ P.length := by
    have := nodup_len (P := L.map (·.1)) (Q := P) G.nd fun x hx => by
      obtain ⟨y, hy, rfl⟩ := List.mem_map.mp hx
      exact sub y hy
    rw [List.length_map] at this
    exact this
  repeat walk_at "sm"
  rw [hPn, hLn]
  refine ite_d (fun q => ?_) (fun q => ?_)
  · have q : L.length = P.length := by omega
    repeat walk_at "sm"
    rw [hPn]
    refine draw_i (by omega) (by omega) fun t b0 b1 => ?_
    have b2 : t.toNat < P.length := by omega
    have hx : P[t.toNat]? = some (P[t.toNat]) := List.getElem?_eq_getElem b2
    generalize P[t.toNat] = s at hx
    have hs := List.mem_of_getElem? hx
    refine dIx_l (d := .str s) (at_nat b0 (by rw [List.getElem?_map, hx]; rfl)) ?_
    have hsL : s ∈ L.map (·.1) := by
      apply Classical.byContradiction
      intro hc
      have := nodup_len (P := L.map (·.1)) (Q := P.erase s) G.nd fun x hx => by
        obtain ⟨y, hy, rfl⟩ := List.mem_map.mp hx
        exact (List.mem_erase_of_ne fun e : y.1 = s => hc (e ▸ List.mem_map.mpr ⟨y, hy, rfl⟩)).mpr (sub y hy)
      rw [List.length_map, List.length_erase_of_mem hs] at this
      omega
    repeat walk_at "sm"
    refine both_go I hsL fun g1 r m' hg1 hgo => ?_
    repeat walk_at "sm"
    refine hgo _ fun g' T' I' => ?_
    refine nx_s ?_
    refine step_i I' hw hP tok hn (fun x hx => sub x (List.mem_filter.mp hx).1) ?_ fun g2 T2 L2 I2 s2 => hk g2 T2 L2 _ I2 s2
    obtain ⟨y, hy, e⟩ := List.mem_map.mp hsL
    have : (L.filter fun x => decide (x.1 ≠ s)).length < L.length := by
      apply Nat.lt_of_le_of_ne (List.length_filter_le _ _)
      intro e2
      have := List.length_filter_eq_length_iff.mp e2 y hy
      simp [e] at this
    omega
  · refine sNext_i ?_
    refine nx_s ?_
    exact step_i I hw hP tok hn sub (by omega) fun g2 T2 L2 I2 s2 => hk g2 T2 L2 _ I2 s2
theorem cut8 {P : List Str} : Pu.cutD (P.map D.str) none (some 8) = (P.take 8).map D.str := by
  unfold Pu.cutD
  rw [HT.sIx_none, show ((8 : Int)) = ((8 : Nat) : Int) from rfl, HT.sIx_nat]
  rw [List.drop_zero, ← List.map_take]
  congr 1
  rw [List.length_map, Nat.sub_zero]
  by_cases h : 8 ≤ P.length
  · rw [Nat.min_eq_left h]
  · rw [Nat.min_eq_right (by omega), List.take_of_length_le (Nat.le_refl _), List.take_of_length_le (by omega)]
set_option maxHeartbeats 8000000 in
theorem law_pure : P_law (envL 1 12) { nx := fun _ => False, rt := fun _ => False, re := fun _ d => d = .bl true } := by
  unfold envL P_law
  walk_at "psenv"
  repeat walk_at "sm"
  refine draw_i (by decide) (by decide) fun t1 a0 a1 => ?_
  repeat walk_at "sm"
  refine draw_i (by decide) (by decide) fun t2 b0 b1 => ?_
  repeat walk_at "sm"
  refine draw_i (by decide) (by decide) fun t3 c0 c1 => ?_
  repeat walk_at "sm"
  refine dIx_in (by split <;> decide) (by simp only [List.length_cons, List.length_nil]; split <;> decide) fun y hy => ?_
  obtain ⟨many, rfl, m0, m1⟩ : ∃ z : Int, y = .int z ∧ 0 ≤ z ∧ z ≤ 100 := by
    simp only [List.mem_cons, List.not_mem_nil, or_false] at hy
    rcases hy with rfl | rfl
    · exact ⟨_, rfl, by omega, by omega⟩
    · exact ⟨_, rfl, by omega, by omega⟩
  repeat walk_at "sm"
  refine draw_i (by decide) (by decide) fun w w0 w1 => ?_
  repeat walk_at "sm"
  refine pool_i fun P hP hn tok => ?_
  refine nx_s ?_
  refine sSeq_mid (fun e => ∃ P : List Str, e = [SV.no, SV.val (.deck 1), SV.val (.bl (decide (t1 = 5))), SV.val (.int many), SV.val (.int w), SV.val (.lst (P.map D.str)), SV.no, SV.no, SV.no, SV.no, SV.no, SV.gs []] ∧ 0 < P.length ∧ P.length ≤ 26 ∧ P.Nodup ∧ ∀ x ∈ P, Tok' x) ?_ ?_
  · intro N hN
    repeat walk_at "sm"
    refine ite_n (fun q => ?_) (fun q => ?_)
    · repeat walk_at "sm"
      rw [cut8]
      refine hN _ ⟨P.take 8, rfl, by rw [List.length_take]; omega, by rw [List.length_take]; omega, (List.take_sublist 8 P).nodup hn, fun x hx => tok x (List.mem_of_mem_take hx)⟩
    · repeat walk_at "sm"
      exact hN _ ⟨P, rfl, by omega, by omega, hn, tok⟩
  clear hP hn tok P
  rintro e ⟨P, rfl, p0, p1, hn, tok⟩
  repeat walk_at "sm"
  refine mMakeS0_i ?_
  repeat walk_at "sm"
  refine grove_init (g := []) ⟨rfl, ?_⟩
  repeat walk_at "sm"
  refine mCallS0_i ?_
  repeat walk_at "sm"
  refine empty_i ?_
  have I0 : GInv ([Cell.ins 1 (grF 1 .non 0), Cell.dic [], Cell.dic [], Cell.dic (mdD (.tup []) 2 0)]) 0 1 3 2 none [] := by
    refine ⟨⟨0, ⟨rfl, rfl, List.nodup_nil, Nat.zero_le _, by decide, rfl⟩⟩, ⟨0, ⟨rfl, rfl, by decide⟩⟩, fun x h => (nomatch h), fun j hj => ?_⟩
    rcases hj with rfl | rfl
    · exact ⟨by decide, by decide, fun h => (nomatch h)⟩
    · exact ⟨by decide, by decide, fun h => nomatch h⟩
  repeat walk_at "sm"
  refine rgK1_i (by omega) (by omega) ?_
  refine forS_i (fun _ env => ∃ g T L v8 v9 v10, env = [SV.no, SV.val (.deck 1), SV.val (.bl (decide (t1 = 5))), SV.val (.int many), SV.val (.int w), SV.val (.lst (P.map D.str)), SV.val (.hd 0), SV.val (.hd 3), v8, v9, v10, SV.gs g] ∧ GInv g 0 1 3 2 T L ∧ ∀ x ∈ L, x.1 ∈ P) _ 0 ⟨_, none, [], _, _, _, rfl, I0, fun x h => (nomatch h)⟩ ?_ ?_
  · rintro i d env hd ⟨g, T, L, v8, v9, v10, rfl, I, sub⟩ N hN
    refine gtName_i ?_
    exact body_i I ⟨w0, w1⟩ p1 p0 tok hn sub fun g' T' L' v9 I' s' => hN _ ⟨g', T', L', _, v9, _, rfl, I', s'⟩
  · rintro env ⟨g, T, L, v8, v9, v10, rfl, I, sub⟩
    obtain ⟨n, G⟩ := I.G
    obtain ⟨m, M⟩ := I.M
    have h1 := M.md
    have h2 := M.ed
    repeat walk_at "sm"
    rw [keys_e, names_e, cut8]
    repeat walk_at "sm"
    refine forS_i (fun _ env => ∃ v8 v9 v10, env = [SV.no, SV.val (.deck 1), SV.val (.bl (decide (t1 = 5))), SV.val (.int many), SV.val (.int w), SV.val (.lst (P.map D.str)), SV.val (.hd 0), SV.val (.hd 3), v8, v9, v10, SV.gs g]) _ 0 ⟨_, _, _, rfl⟩ ?_ ?_
    · rintro i d env hd ⟨v8, v9, v10, rfl⟩ N hN
      rw [List.getElem?_map] at hd
      obtain ⟨s, hs, rfl⟩ := Option.map_eq_some_iff.mp hd
      have hs := List.mem_of_mem_take (List.mem_of_getElem? hs)
      obtain ⟨x, hx, rfl⟩ := List.mem_map.mp hs
      obtain ⟨t, rfl⟩ : ∃ t, T = some t := by
        cases T with
        | none => have q : L = [] := G.tr; rw [q] at hx; cases hx
        | some t => exact ⟨t, rfl⟩
      have Tt := I.tl
      obtain ⟨c, rfl⟩ := find_ctx (Tt.pm.mem_iff.mpr hx)
      have hcl := ctx_len Tt.pm Tt.le
      replace h1 : g[3]? = some (.dic (mdD (plug c (lf x.2.1 x.1 x.2.2)).trD 2 m)) := h1
      repeat walk_at "sm"
      refine lpath_i Tt ?_
      repeat walk_at "sm"
      rw [pth_len]
      refine rgK1_i (by omega) (by omega) ?_
      refine forS_i (fun _ env => ∃ v8 v10, env = [SV.no, SV.val (.deck 1), SV.val (.bl (decide (t1 = 5))), SV.val (.int many), SV.val (.int w), SV.val (.lst (P.map D.str)), SV.val (.hd 0), SV.val (.hd 3), v8, SV.val (.str x.1), v10, SV.gs g]) _ 0 ⟨_, _, rfl⟩ ?_ ?_
      · rintro j d env hd ⟨v8, v10, rfl⟩ N' hN'
        obtain ⟨rfl, hj⟩ := rangeD_at hd
        have e1 : c = c.take j ++ c.drop j := (List.take_append_drop j c).symm
        have e2 : (0 + (j : Int)) = ((c.take j).length : Int) := by rw [List.length_take]; omega
        rw [e2]
        rw [e1] at I
        repeat walk_at "sm"
        refine known_i I ?_
        repeat walk_at "sm"
        exact hN' _ ⟨_, _, rfl⟩
      · rintro env ⟨v8, v10, rfl⟩
        exact hN _ ⟨_, _, _, rfl⟩
    · rintro env ⟨v8, v9, v10, rfl⟩
      repeat walk_at "sm"
      rfl
end
end Ew
theorem PySem.Challenge.cw_evenwires_k73_rows_and_loads_kept_holds : PySem.Challenge.rw_evenwires_k73_rows_and_loads_kept.Holds :=
  Ew.last (@Ew.law_pure)

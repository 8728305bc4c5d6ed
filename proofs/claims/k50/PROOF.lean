import PyProof.Rows.All
import Wide.All
import OpenK.AllK
import Wide.FinOn
import HandS.ForMost
import HandS.IsInst
import HandS.Style
import HandS.Wide
import HandS.NoneIn
import HandS.Codes
import HandS.TupAny
import HandS.TupLe
import HandS.Conv
import HandS.Deep
import HandS.AnyAll
import HandS.Strs
import HandS.Iter
import HandS.SortKw
import KE.GoesEnumKw
import KE.GoesNew
import KE.GoesMore
import HandS.RevRange
import HandS.SortInts
import HandS.Zip
import KE.GoesEnum
import HandS.More
import KE.DataMinMax
import KE.KTupSum
import HandS.TupMul
import HandS.SetFor
import HandS.Defaults
import HandS.GenList
import HandS.EndTab
import KE.KSortTupG
import HandS.Exc
import HandS.ExcOwn
import HandS.ExcIs
import HandS.WordsExc
import HandS.TryOnly
import PySem.Challenge.RW_evenwires_k50_whole_the_same_fraction
set_option Elab.async false
set_option linter.all false
set_option maxRecDepth 100000
namespace Ew
open PySem PySem.Spec PyProof.Rows L2

/-- what may have happened between two heaps: only what stands in S is changed; tuples and locked things stay -/
structure Evo (S : List Addr) (H H' : Hp) : Prop where
  old : ∀ a o, H a = some o → a ∉ S → H' a = some o
  tup : ∀ a xs, H a = some (.tup xs) → H' a = some (.tup xs)
  frz : ∀ a o u, H a = some (.frz o u) → H' a = some (.frz o u)
section
variable {K : PySem.W.Frag} {S S' : List Addr} {H H1 H2 H' : Hp} {a p q : Addr} {o x y : HO} {xs ys : List V}
theorem get_new (hp : H p = none) (h : H a = some x) : upd H p o a = some x := by rw [upd_ne (ne_of_none h hp)]; exact h
theorem get_ne (hn : a ≠ p) (h : H a = some x) : upd H p o a = some x := by rw [upd_ne hn]; exact h
theorem Evo.refl (S : List Addr) (H : Hp) : Evo S H H := ⟨fun _ _ h _ => h, fun _ _ h => h, fun _ _ _ h => h⟩
theorem Evo.trans (e : Evo S H H1) (f : Evo S H1 H2) : Evo S H H2 := ⟨fun a o h n => f.old a o (e.old a o h n) n, fun a xs h => f.tup a xs (e.tup a xs h), fun a o u h => f.frz a o u (e.frz a o u h)⟩
/-- a new thing -/
theorem Evo.new (e : Evo S H H1) (hp : H1 p = none) : Evo S H (upd H1 p o) :=
  ⟨fun a u h n => get_new hp (e.old a u h n), fun a ys h => get_new hp (e.tup a ys h), fun a u v h => get_new hp (e.frz a u v h)⟩
/-- a thing that was not there at the beginning is changed -/
theorem Evo.mut (e : Evo S H H1) (hp : H p = none) : Evo S H (upd H1 p o) :=
  ⟨fun a u h n => get_ne (ne_of_none h hp) (e.old a u h n), fun a ys h => get_ne (ne_of_none h hp) (e.tup a ys h), fun a u v h => get_ne (ne_of_none h hp) (e.frz a u v h)⟩
/-- a thing of S is changed -/
theorem Evo.set (e : Evo S H H1) (hp : p ∈ S) (hm : ∀ ys, H p ≠ some (.tup ys)) (hf : ∀ u v, H p ≠ some (.frz u v)) : Evo S H (upd H1 p o) :=
  ⟨fun a u h n => get_ne (fun z => n (z ▸ hp)) (e.old a u h n), fun a ys h => get_ne (fun z => hm ys (z ▸ h)) (e.tup a ys h), fun a u v h => get_ne (fun z => hf u v (z ▸ h)) (e.frz a u v h)⟩
/-- a callee's changes -/
theorem Evo.call (e : Evo S H H1) (f : Evo S' H1 H2) (h : ∀ s ∈ S', s ∈ S ∨ H s = none) : Evo S H H2 :=
  ⟨fun a o ha n => f.old a o (e.old a o ha n) fun m => (h a m).elim n (fun z => nomatch (ha.symm.trans z)), fun a xs h => f.tup a xs (e.tup a xs h), fun a o u h => f.frz a o u (e.frz a o u h)⟩
theorem Evo.call0 (e : Evo S H H1) (f : Evo [] H1 H2) : Evo S H H2 := e.call f fun _ h => by cases h
theorem Evo.get (e : Evo S H H') (hn : a ∉ S) (h : H a = some x) : H' a = some x := e.old a x h hn
theorem Evo.sqT (e : Evo S H H') (h : SqT K H a xs) : SqT K H' a xs := by
  rcases h with (h | ⟨o, h⟩) | h
  · exact .inl (.inl (e.tup _ _ h))
  · exact .inl (.inr ⟨o, e.frz _ _ _ h⟩)
  · exact .inr h
theorem Evo.fresh (e : Evo [] H H') (h : H' p = none) : H p = none := by
  cases q : H p with
  | none => rfl
  | some o =>
    rw [e.old p o q (by intro z; cases z)] at h
    cases h
theorem sqT_new (hp : H p = none) (h : SqT K H a xs) : SqT K (upd H p o) a xs := ((Evo.refl [] H).new hp).sqT h
theorem sqT_mut (hm : H p = some (.lst ys)) (h : SqT K H a xs) : SqT K (upd H p o) a xs := by
  rcases h with (h | ⟨o, h⟩) | h
  · exact .inl (.inl (get_ne (ne_of h hm (by intro z; cases z)) h))
  · exact .inl (.inr ⟨o, get_ne (ne_of h hm (by intro z; cases z)) h⟩)
  · exact .inr h
theorem sqT_mutD {kvs : List (Key × V)} (hm : H p = some (.dK kvs)) (h : SqT K H a xs) : SqT K (upd H p o) a xs := by
  rcases h with (h | ⟨o, h⟩) | h
  · exact .inl (.inl (get_ne (ne_of h hm (by intro z; cases z)) h))
  · exact .inl (.inr ⟨o, get_ne (ne_of h hm (by intro z; cases z)) h⟩)
  · exact .inr h
end
theorem sz {n : Nat} (h : n ≤ 100000) : n ≤ sizeLine := Nat.le_trans h (by decide)
theorem szl {n : Nat} (h : n < 100000) : n < sizeLine := Nat.lt_of_lt_of_le h (by decide)
section
variable {H : Hp} {a : Addr} {kvs kvs' : List (Key × V)} {s : Str} {v : V}
theorem dget (h : H a = some (.dK kvs)) (e : valV kvs (.inr s) = some v) : DGet H a (.str s) (some v) := e ▸ DGet.k (k := Sum.inr s) h
theorem dput (h : H a = some (.dK kvs)) (hl : kvs.length ≤ 1000) (e : putK kvs (.inr s) v = kvs') : DPut H a (.str s) v (upd H a (.dK kvs')) := e ▸ DPut.k (k := Sum.inr s) h (small1000 hl)
end
/-- a test by its answer -/
theorem iteD {c : Prop} [Decidable c] {A B : Prop} (h1 : c → A) (h2 : ¬ c → B) : if decide c = true then A else B := by
  by_cases h : c
  · rw [if_pos (decide_eq_true h)]; exact h1 h
  · rw [if_neg (by rw [decide_eq_false h]; exact Bool.false_ne_true)]; exact h2 h
theorem iteN {c : Prop} [Decidable c] {A B : Prop} (h1 : ¬ c → A) (h2 : c → B) : if (!decide c) = true then A else B := by
  by_cases h : c
  · rw [if_neg (by rw [decide_eq_true h]; exact Bool.false_ne_true)]; exact h2 h
  · rw [if_pos (by rw [decide_eq_false h]; rfl)]; exact h1 h
theorem iteB {b : Bool} {A B : Prop} (h1 : b = true → A) (h2 : b = false → B) : if b = true then A else B := by
  cases b with
  | true => exact h1 rfl
  | false => exact h2 rfl
end Ew
namespace Ew
open PySem PySem.Spec PyProof.Rows L2
/-! readings by lemmas: what is asked, in the form that it has when it is asked -/
section
variable {K : PySem.W.Frag} {H : Hp} {a b p : Addr} {xs ys : List V} {i : Int} {v x y : V} {R : V → Prop} {kvs kvs' : List (Key × V)} {s : Str}
theorem ixT (h : SqT K H p xs) (e : atI xs i = some v) (k : R v) : ∃ p' xs' i' v', V.ref p = .ref p' ∧ V.int i = .int i' ∧ SqT K H p' xs' ∧ atI xs' i' = some v' ∧ R v' := ⟨p, xs, i, v, rfl, rfl, h, e, k⟩
theorem ixL (h : SqL K H p xs) (e : atI xs i = some v) (k : R v) : ∃ p' xs' i' v', V.ref p = .ref p' ∧ V.int i = .int i' ∧ SqL K H p' xs' ∧ atI xs' i' = some v' ∧ R v' := ⟨p, xs, i, v, rfl, rfl, h, e, k⟩
theorem dgetE (h : H a = some (.dK kvs)) (e : valV kvs (.inr s) = some v) (k : R v) : ∃ a' v', V.ref a = .ref a' ∧ DGet H a' (.str s) (some v') ∧ R v' := ⟨a, v, rfl, dget h e, k⟩
theorem dputE {R : Hp → Prop} (h : H a = some (.dK kvs)) (e : putK kvs (.inr s) v = kvs') (k : R (upd H a (.dK kvs'))) (hl : kvs.length ≤ 1000) : ∃ a' H4, V.ref a = .ref a' ∧ DPut H a' (.str s) v H4 ∧ R H4 := ⟨a, _, rfl, dput h hl e, k⟩
theorem lenT {R : List V → Prop} (h : SqT K H p xs) (k : R xs) : ∃ p' ys, [V.ref p] = [.ref p'] ∧ (SqL K H p' ys ∨ SqT K H p' ys) ∧ R ys := ⟨p, xs, rfl, .inr h, k⟩
theorem lenL {R : List V → Prop} (h : SqL K H p xs) (k : R xs) : ∃ p' ys, [V.ref p] = [.ref p'] ∧ (SqL K H p' ys ∨ SqT K H p' ys) ∧ R ys := ⟨p, xs, rfl, .inl h, k⟩
theorem iib {R : Bool → Prop} {x : V} {n : String} {t : Value} {r : Bool} (ht : TyOf K H x t) (hb : PySem.W.kitOne K t (.type n) = some r) (k : R r) : ∃ (x' c : V) (t u : Value) (b : Bool), [x, V.ty n] = [x', c] ∧ ClsV c u ∧ TyX K H x' t ∧ PySem.W.kitOne K t u = some b ∧ R b :=
  ⟨x, .ty n, t, .type n, r, rfl, .ty n, .base ht, hb, k⟩
theorem lt2 {b : Bool} {r : V} : ∀ {i : Int}, 0 ≤ i → i < 2 → i = 0 ∨ i = 1 := by intro i h1 h2; omega
end
theorem apd {H : Hp} {l : Addr} {xs : List V} {y : V} {R : Addr → List V → V → Prop} (h : H l = some (.lst xs)) (hl : xs.length ≤ 1000) (k : R l xs y) : ∃ l' xs' y', V.ref l = .ref l' ∧ [y] = [y'] ∧ H l' = some (.lst xs') ∧ xs'.length < sizeLine ∧ R l' xs' y' :=
  ⟨l, xs, y, rfl, rfl, h, small1000 hl, k⟩
end Ew
namespace Ew
open PySem PySem.Spec PyProof.Rows L2
theorem tup_mut {H : Hp} {a p : Addr} {o : HO} {xs ys : List V} (hm : H p = some (.lst ys)) (h : H a = some (.tup xs)) : upd H p o a = some (.tup xs) := get_ne (ne_of h hm (by intro z; cases z)) h
theorem tup_mutD {H : Hp} {a p : Addr} {o : HO} {xs : List V} {kvs : List (Key × V)} (hm : H p = some (.dK kvs)) (h : H a = some (.tup xs)) : upd H p o a = some (.tup xs) := get_ne (ne_of h hm (by intro z; cases z)) h
theorem Evo.tupE {S : List Addr} {H H' : Hp} {a : Addr} {xs : List V} (e : Evo S H H') (h : H a = some (.tup xs)) : H' a = some (.tup xs) := e.tup a xs h
/-- a written power -/
theorem op_powC {X : Cx} (b e r : Int) (hc : CPow b e := by exact ⟨by decide, by decide, by decide⟩) (hr : b ^ e.toNat = r := by rfl) : OpR X (binaryOp .Pow) (fun x y H Q => x = .int b ∧ y = .int e ∧ Q (.int r) H) :=
  fun pins s σ H x y v u Q I rx ry h => op_pow pins s σ H x y v u Q I rx ry ⟨b, e, h.1, h.2.1, hc, by show Q (.int (b ^ e.toNat)) H; rw [hr]; exact h.2.2⟩
end Ew
namespace Ew
open PySem PySem.Spec PyProof.Rows L2
/-! data that are rows of whole numbers -/
def intsOf : List V → Option (List Int)
  | [] => some []
  | .int i :: r => match intsOf r with
    | some z => some (i :: z)
    | none => none
  | _ => none
theorem intsOf_map : ∀ {vs : List V} {xs : List Int}, intsOf vs = some xs → vs = xs.map V.int
  | [], _, h => by cases h; rfl
  | .int i :: r, xs, h => by
    unfold intsOf at h
    cases e : intsOf r with
    | none => rw [e] at h; cases h
    | some z =>
      rw [e] at h
      cases h
      rw [intsOf_map e]
      rfl
  | .non :: _, _, h => by cases h
  | .bl _ :: _, _, h => by cases h
  | .str _ :: _, _, h => by cases h
  | .byt _ :: _, _, h => by cases h
  | .flt _ :: _, _, h => by cases h
  | .ref _ :: _, _, h => by cases h
  | .ty _ :: _, _, h => by cases h
theorem intsOf_of : ∀ xs : List Int, intsOf (xs.map V.int) = some xs
  | [] => rfl
  | x :: r => by
    show (match intsOf (r.map V.int) with | some z => some (x :: z) | none => none) = _
    rw [intsOf_of r]
theorem dpInts {K : PySem.W.Frag} {H : Hp} : ∀ xs : List Int, DpAll K H (xs.map V.int) (xs.map PyData.int)
  | [] => .nil
  | x :: r => .cons (.int x) (dpInts r)
theorem canInts : ∀ xs : List Int, PyData.canLayAll0 (xs.map PyData.int) = true
  | [] => by simp [PyData.canLayAll0]
  | x :: r => by
    show PyData.canLayAll0 (PyData.int x :: r.map PyData.int) = true
    simp [PyData.canLayAll0, PyData.canLay0, canInts r]
theorem depInts : ∀ xs : List Int, PyData.depthAll (xs.map PyData.int) ≤ 1
  | [] => by simp [PyData.depthAll]
  | x :: r => by
    show PyData.depthAll (PyData.int x :: r.map PyData.int) ≤ 1
    have h := depInts r
    simp [PyData.depthAll, PyData.depth]
    omega
theorem shInts (xs : List Int) : SeqAt.shaped (.tuple (xs.map PyData.int)) = true := by
  have h := depInts xs
  simp [SeqAt.shaped, PyData.canLay0, canInts xs, PyData.depth]
  omega
theorem shIntsL (xs : List Int) : SeqAt.shaped (.list (xs.map PyData.int)) = true := by
  have h := depInts xs
  simp [SeqAt.shaped, PyData.canLay0, canInts xs, PyData.depth]
  omega
theorem eqvAllInts : ∀ xs ys : List Int, PyData.eqvAll (xs.map PyData.int) (ys.map PyData.int) = decide (xs = ys)
  | [], [] => by simp [PyData.eqvAll]
  | [], y :: _ => by simp [PyData.eqvAll]
  | x :: _, [] => by simp [PyData.eqvAll]
  | x :: r, y :: q => by
    show PyData.eqvAll (PyData.int x :: r.map PyData.int) (PyData.int y :: q.map PyData.int) = _
    have e : PyData.eqvAll (PyData.int x :: r.map PyData.int) (PyData.int y :: q.map PyData.int) = ((x == y) && PyData.eqvAll (r.map PyData.int) (q.map PyData.int)) := by simp [PyData.eqvAll, PyData.eqv]
    rw [e, eqvAllInts r q]
    by_cases h : x = y
    · by_cases h2 : r = q
      · simp [h, h2]
      · simp [h, h2]
    · simp [h]
theorem eqvT (xs ys : List Int) : PyData.eqv (.tuple (xs.map PyData.int)) (.tuple (ys.map PyData.int)) = decide (xs = ys) := by
  rw [← eqvAllInts]; simp [PyData.eqv]
theorem eqvL (xs ys : List Int) : PyData.eqv (.list (xs.map PyData.int)) (.list (ys.map PyData.int)) = decide (xs = ys) := by
  rw [← eqvAllInts]; simp [PyData.eqv]
section
variable {K : PySem.W.Frag} {H : Hp} {a b p : Addr} {vs us : List V} {xs ys : List Int} {R : V → Prop}
/-- == of data: its answer -/
def EqR (K : PySem.W.Frag) (H : Hp) (x y : V) (c : Bool) : Prop := ∃ d e, Dp K H x d ∧ Dp K H y e ∧ SeqAt.shaped d = true ∧ SeqAt.shaped e = true ∧ PyData.eqv d e = c
def rEqX (K : PySem.W.Frag) : R2 := fun x y H Q => ∃ c, EqR K H x y c ∧ Q (.bl c) H
def rNeX (K : PySem.W.Frag) : R2 := fun x y H Q => ∃ c, EqR K H x y c ∧ Q (.bl (!c)) H
theorem op_eqX {X : Cx} (hu : X.A.units + 64 < cLine) : OpR X (compareOp .Eq) (rEqX X.K) := fun pins s σ H x y v u Q I rx ry ⟨c, ⟨d, e, h1, h2, h3, h4, h5⟩, q⟩ =>
  op_eqD hu pins s σ H x y v u Q I rx ry ⟨d, e, h1, h2, h3, h4, h5 ▸ q⟩
theorem op_neX {X : Cx} (hu : X.A.units + 64 < cLine) : OpR X (compareOp .NotEq) (rNeX X.K) := fun pins s σ H x y v u Q I rx ry ⟨c, ⟨d, e, h1, h2, h3, h4, h5⟩, q⟩ =>
  op_neD hu pins s σ H x y v u Q I rx ry ⟨d, e, h1, h2, h3, h4, h5 ▸ q⟩
theorem eqT (h1 : H a = some (.tup vs)) (h2 : H b = some (.tup us)) (e1 : intsOf vs = some xs) (e2 : intsOf us = some ys) : EqR K H (.ref a) (.ref b) (decide (xs = ys)) := by
  have q1 := intsOf_map e1; have q2 := intsOf_map e2; subst q1 q2
  exact ⟨_, _, .tup (SqT.of h1) (dpInts xs), .tup (SqT.of h2) (dpInts ys), shInts _, shInts _, eqvT _ _⟩
theorem eqL (h1 : H a = some (.lst vs)) (h2 : H b = some (.lst us)) (e1 : intsOf vs = some xs) (e2 : intsOf us = some ys) : EqR K H (.ref a) (.ref b) (decide (xs = ys)) := by
  have q1 := intsOf_map e1; have q2 := intsOf_map e2; subst q1 q2
  exact ⟨_, _, .lst (SqL.of h1) (dpInts xs), .lst (SqL.of h2) (dpInts ys), shIntsL _, shIntsL _, eqvL _ _⟩
end
theorem sqL_new {K : PySem.W.Frag} {H : Hp} {a p : Addr} {o : HO} {xs : List V} (hp : H p = none) (h : SqL K H a xs) : SqL K (upd H p o) a xs := by
  rcases h with (h | ⟨o, h⟩) | h
  · exact .inl (.inl (get_new hp h))
  · exact .inl (.inr ⟨o, get_new hp h⟩)
  · exact .inr h
theorem cut63 {xs : List V} (h : xs.length ≤ 63) : cutV xs none (some 63) = xs := by
  unfold cutV
  rw [show HT.sIx xs.length xs.length (some 63) = min 63 xs.length from HT.sIx_nat xs.length xs.length 63, HT.sIx_none, List.drop_zero, Nat.sub_zero]
  exact List.take_of_length_le (by omega)
end Ew
namespace Ew
open PySem PySem.Spec PyProof.Rows L2
/-! == of whole numbers, of truths -/
theorem decV {i j : Int} : decide (V.int i = V.int j) = decide (i = j) := by
  by_cases h : i = j
  · subst h; simp
  · rw [decide_eq_false h, decide_eq_false fun e => h (V.int.inj e)]
theorem decB {i j : Bool} : decide (V.bl i = V.bl j) = decide (i = j) := by
  by_cases h : i = j
  · subst h; simp
  · rw [decide_eq_false h, decide_eq_false fun e => h (V.bl.inj e)]
section
variable {X : Cx}
theorem op_eqI : OpR X (compareOp .Eq) (fun x y H Q => ∃ i j, x = .int i ∧ y = .int j ∧ Q (.bl (decide (i = j))) H) := fun pins s σ H x y v u Q I rx ry ⟨i, j, h1, h2, q⟩ =>
  op_eq pins s σ H x y v u Q I rx ry ⟨by rw [h1, h2]; rfl, by rw [h1, h2, decV]; exact q⟩
theorem op_neI : OpR X (compareOp .NotEq) (fun x y H Q => ∃ i j, x = .int i ∧ y = .int j ∧ Q (.bl (!decide (i = j))) H) := fun pins s σ H x y v u Q I rx ry ⟨i, j, h1, h2, q⟩ =>
  op_ne pins s σ H x y v u Q I rx ry ⟨by rw [h1, h2]; rfl, by rw [h1, h2, decV]; exact q⟩
theorem op_eqB : OpR X (compareOp .Eq) (fun x y H Q => ∃ i j, x = .bl i ∧ y = .bl j ∧ Q (.bl (decide (i = j))) H) := fun pins s σ H x y v u Q I rx ry ⟨i, j, h1, h2, q⟩ =>
  op_eq pins s σ H x y v u Q I rx ry ⟨by rw [h1, h2]; rfl, by rw [h1, h2, decB]; exact q⟩
theorem op_neB : OpR X (compareOp .NotEq) (fun x y H Q => ∃ i j, x = .bl i ∧ y = .bl j ∧ Q (.bl (!decide (i = j))) H) := fun pins s σ H x y v u Q I rx ry ⟨i, j, h1, h2, q⟩ =>
  op_ne pins s σ H x y v u Q I rx ry ⟨by rw [h1, h2]; rfl, by rw [h1, h2, decB]; exact q⟩
end
end Ew
namespace Ew
open PySem PySem.Spec PyProof.Rows L2
theorem Qeq {Q : VK} {H : Hp} {v v' : V} (e : v = v') (k : Q v H) : Q v' H := e ▸ k
section
variable {K : PySem.W.Frag} {H : Hp} {R : Bool → Prop}
theorem ii_ii {a : Int} (k : R true) : ∃ (x' c : V) (t u : Value) (b : Bool), [V.int a, V.ty "int"] = [x', c] ∧ ClsV c u ∧ TyX K H x' t ∧ PySem.W.kitOne K t u = some b ∧ R b := iib (.int _) (kit_ty (by decide +kernel)) k
theorem ii_ib {a : Int} (k : R false) : ∃ (x' c : V) (t u : Value) (b : Bool), [V.int a, V.ty "bool"] = [x', c] ∧ ClsV c u ∧ TyX K H x' t ∧ PySem.W.kitOne K t u = some b ∧ R b := iib (.int _) (kit_ty (by decide +kernel)) k
theorem ii_it {a : Int} (k : R false) : ∃ (x' c : V) (t u : Value) (b : Bool), [V.int a, V.ty "tuple"] = [x', c] ∧ ClsV c u ∧ TyX K H x' t ∧ PySem.W.kitOne K t u = some b ∧ R b := iib (.int _) (kit_ty (by decide +kernel)) k
theorem ii_bb {a : Bool} (k : R true) : ∃ (x' c : V) (t u : Value) (b : Bool), [V.bl a, V.ty "bool"] = [x', c] ∧ ClsV c u ∧ TyX K H x' t ∧ PySem.W.kitOne K t u = some b ∧ R b := iib (.bl _) (kit_ty (by decide +kernel)) k
theorem ii_bi {a : Bool} (k : R true) : ∃ (x' c : V) (t u : Value) (b : Bool), [V.bl a, V.ty "int"] = [x', c] ∧ ClsV c u ∧ TyX K H x' t ∧ PySem.W.kitOne K t u = some b ∧ R b := iib (.bl _) (kit_ty (by decide +kernel)) k
theorem ii_tt {a : Addr} {xs : List V} (h : H a = some (.tup xs)) (k : R true) : ∃ (x' c : V) (t u : Value) (b : Bool), [V.ref a, V.ty "tuple"] = [x', c] ∧ ClsV c u ∧ TyX K H x' t ∧ PySem.W.kitOne K t u = some b ∧ R b := iib (.tup h) (kit_ty (by decide +kernel)) k
end
end Ew
namespace Ew
open PySem PySem.Spec PyProof.Rows L2
def rLen (K : PySem.W.Frag) : List V → Hp → VK → Prop := fun xs H Q => ∃ p ys, xs = [.ref p] ∧ (SqL K H p ys ∨ SqT K H p ys) ∧ Q (.int ys.length) H
theorem call_len {X : Cx} : CallR X (.builtin "len") (rLen X.K) := call_len_seq
def rTupleOf (K : PySem.W.Frag) : List V → Hp → VK → Prop := fun xs H Q => ∃ p ys, xs = [.ref p] ∧ ((SqL K H p ys ∧ ∀ l, H l = none → Q (.ref l) (upd H l (.tup ys))) ∨ (SqT K H p ys ∧ Q (.ref p) H))
theorem call_tuple {X : Cx} : CallR X (.type "tuple") (rTupleOf X.K) := call_tuple_of
end Ew
namespace Ew
open PySem PySem.Spec PyProof.Rows L2
/-- [a, b][int(test)] -/
theorem ixB {K : PySem.W.Frag} {H : Hp} {p : Addr} {a0 a1 : V} {b : Bool} {R : V → Prop} (h : SqL K H p [a0, a1]) (k0 : b = false → R a0) (k1 : b = true → R a1) :
    ∃ p' xs' i' v', V.ref p = .ref p' ∧ V.int (if b = true then 1 else 0) = .int i' ∧ SqL K H p' xs' ∧ atI xs' i' = some v' ∧ R v' := by
  cases b with
  | false => exact ⟨p, _, 0, a0, rfl, rfl, h, rfl, k0 rfl⟩
  | true => exact ⟨p, _, 1, a1, rfl, rfl, h, rfl, k1 rfl⟩
theorem inI {x : Int} {xs : List Int} : inV (.int x) (xs.map V.int) = decide (x ∈ xs) := by
  induction xs with
  | nil => rfl
  | cons y r ih =>
    have e : inV (.int x) ((y :: r).map V.int) = (eqV (.int y) (.int x) || inV (.int x) (r.map V.int)) := rfl
    rw [e, ih]
    have e2 : eqV (.int y) (.int x) = decide (y = x) := by
      show (y == x) = _
      by_cases h : y = x
      · simp [h]
      · simp [h]
    rw [e2]
    by_cases h : y = x
    · simp [h]
    · have h' : ¬ x = y := fun e => h e.symm
      simp [h, h']
end Ew
namespace Ew
abbrev ab (x : Int) : Int := if x < 0 then -x else x
end Ew
namespace Ew
open PySem PySem.Spec PyProof.Rows L2
def isImm : HO → Bool
  | .tup _ => true
  | _ => false
theorem Evo.getI {S : List Addr} {H H' : Hp} {a : Addr} {x : HO} (e : Evo S H H') (h : H a = some x) (hx : isImm x = true) : H' a = some x := by
  cases x with
  | tup xs => exact e.tup a xs h
  | _ => cases hx
theorem getI_mut {H : Hp} {a p : Addr} {o x : HO} {ys : List V} (hm : H p = some (.lst ys)) (h : H a = some x) (hx : isImm x = true) : upd H p o a = some x :=
  get_ne (ne_of h hm (by intro z; rw [z] at hx; cases hx)) h
theorem getI_mutD {H : Hp} {a p : Addr} {o x : HO} {kvs : List (Key × V)} (hm : H p = some (.dK kvs)) (h : H a = some x) (hx : isImm x = true) : upd H p o a = some x :=
  get_ne (ne_of h hm (by intro z; rw [z] at hx; cases hx)) h
end Ew
namespace Ew
open PySem PySem.Spec PyProof.Rows L2
/-! lists of rows of whole numbers -/
inductive RowsAt (H : Hp) : List V → List (List Int) → Prop
  | nil : RowsAt H [] []
  | cons {a : Addr} {vs : List V} {r : List Int} {rs : List (List Int)} : H a = some (.tup (r.map V.int)) → RowsAt H vs rs → RowsAt H (.ref a :: vs) (r :: rs)
theorem RowsAt.mono {H H' : Hp} (f : ∀ a xs, H a = some (.tup xs) → H' a = some (.tup xs)) : ∀ {vs : List V} {rs : List (List Int)}, RowsAt H vs rs → RowsAt H' vs rs
  | _, _, .nil => .nil
  | _, _, .cons h t => .cons (f _ _ h) (RowsAt.mono f t)
theorem RowsAt.evo {S : List Addr} {H H' : Hp} {vs : List V} {rs : List (List Int)} (e : Evo S H H') (h : RowsAt H vs rs) : RowsAt H' vs rs := h.mono e.tup
theorem RowsAt.new {H : Hp} {p : Addr} {o : HO} {vs : List V} {rs : List (List Int)} (h : RowsAt H vs rs) (hp : H p = none) : RowsAt (upd H p o) vs rs := h.mono fun _ _ q => get_new hp q
theorem RowsAt.mut {H : Hp} {p : Addr} {o : HO} {ys vs : List V} {rs : List (List Int)} (h : RowsAt H vs rs) (hp : H p = some (.lst ys)) : RowsAt (upd H p o) vs rs := h.mono fun _ _ q => tup_mut hp q
theorem RowsAt.length {H : Hp} : ∀ {vs : List V} {rs : List (List Int)}, RowsAt H vs rs → vs.length = rs.length
  | _, _, .nil => rfl
  | _, _, .cons _ t => congrArg Nat.succ (RowsAt.length t)
theorem RowsAt.snoc {H : Hp} {a : Addr} {r : List Int} (h : H a = some (.tup (r.map V.int))) : ∀ {vs : List V} {rs : List (List Int)}, RowsAt H vs rs → RowsAt H (vs ++ [.ref a]) (rs ++ [r])
  | _, _, .nil => .cons h .nil
  | _, _, .cons q t => .cons q (RowsAt.snoc h t)
theorem RowsAt.get {H : Hp} : ∀ {vs : List V} {rs : List (List Int)} {i : Nat} {r : List Int}, RowsAt H vs rs → rs[i]? = some r → ∃ a, vs[i]? = some (.ref a) ∧ H a = some (.tup (r.map V.int))
  | _, _, _, _, .nil, e => by cases e
  | _, _, 0, _, .cons q _, e => by cases e; exact ⟨_, rfl, q⟩
  | _, _, i + 1, _, .cons _ t, e => RowsAt.get (i := i) t e
theorem RowsAt.dp {K : PySem.W.Frag} {H : Hp} : ∀ {vs : List V} {rs : List (List Int)}, RowsAt H vs rs → DpAll K H vs (rs.map fun r => .tuple (r.map PyData.int))
  | _, _, .nil => .nil
  | _, _, .cons h t => .cons (.tup (SqT.of h) (dpInts _)) (RowsAt.dp t)
theorem canRows : ∀ rs : List (List Int), PyData.canLayAll0 (rs.map fun r => .tuple (r.map PyData.int)) = true
  | [] => by simp [PyData.canLayAll0]
  | r :: q => by
    show PyData.canLayAll0 (PyData.tuple (r.map PyData.int) :: q.map fun r => .tuple (r.map PyData.int)) = true
    have h := canRows q
    simp only [PyData.canLayAll0, PyData.canLay0, canInts r, h]
    rfl
theorem depRows : ∀ rs : List (List Int), PyData.depthAll (rs.map fun r => .tuple (r.map PyData.int)) ≤ 2
  | [] => by simp [PyData.depthAll]
  | r :: q => by
    show PyData.depthAll (PyData.tuple (r.map PyData.int) :: q.map fun r => .tuple (r.map PyData.int)) ≤ 2
    have h := depRows q
    have h2 := depInts r
    simp only [PyData.depthAll, PyData.depth]
    omega
theorem shRows (rs : List (List Int)) : SeqAt.shaped (.list (rs.map fun r => .tuple (r.map PyData.int))) = true := by
  have h := depRows rs
  have h2 := canRows rs
  simp [SeqAt.shaped, PyData.canLay0, h2, PyData.depth]
  omega
theorem shRowsT (rs : List (List Int)) : SeqAt.shaped (.tuple (rs.map fun r => .tuple (r.map PyData.int))) = true := by
  have h := depRows rs
  have h2 := canRows rs
  simp [SeqAt.shaped, PyData.canLay0, h2, PyData.depth]
  omega
theorem eqNil {K : PySem.W.Frag} {H : Hp} {l e : Addr} {vs : List V} {rs : List (List Int)} (h : H l = some (.lst vs)) (hr : RowsAt H vs rs) (he : H e = some (.lst [])) : EqR K H (.ref l) (.ref e) (decide (rs = [])) := by
  refine ⟨_, _, .lst (SqL.of h) hr.dp, .lst (SqL.of he) .nil, shRows rs, shRows [], ?_⟩
  cases rs with
  | nil => simp [PyData.eqv, PyData.eqvAll]
  | cons r q => simp [PyData.eqv, PyData.eqvAll]
end Ew
namespace Ew
open PySem PySem.Spec PyProof.Rows L2
theorem RowsAt.last {H : Hp} : ∀ {vs : List V} {rs : List (List Int)}, RowsAt H vs rs → rs ≠ [] → ∃ vs' q rs' r, vs = vs' ++ [.ref q] ∧ rs = rs' ++ [r] ∧ H q = some (.tup (r.map V.int))
  | _, _, .nil, h => absurd rfl h
  | _, _, @RowsAt.cons _ a vs r rs h t, _ => by
    cases rs with
    | nil =>
      cases t
      exact ⟨[], a, [], r, rfl, rfl, h⟩
    | cons r1 rs1 =>
      obtain ⟨vs', q, rs', r', e1, e2, hq⟩ := RowsAt.last t (by intro z; cases z)
      exact ⟨.ref a :: vs', q, r :: rs', r', by rw [e1]; rfl, by rw [e2]; rfl, hq⟩
end Ew
namespace Ew
open PySem PySem.Spec PyProof.Rows L2
/-- an item of a written row of whole numbers, at any place within it -/
theorem ixI {K : PySem.W.Frag} {H : Hp} {p : Addr} {vs : List V} {ns : List Int} {i : Int} {R : V → Prop} (h : SqL K H p vs) (e : intsOf vs = some ns) (h0 : 0 ≤ i) (h1 : i < ns.length) (k : ∀ z, z ∈ ns → R (.int z)) :
    ∃ p' xs' i' v', V.ref p = .ref p' ∧ V.int i = .int i' ∧ SqL K H p' xs' ∧ atI xs' i' = some v' ∧ R v' := by
  have q := intsOf_map e
  subst q
  have hi : i.toNat < ns.length := by omega
  refine ⟨p, _, i, .int ns[i.toNat], rfl, rfl, h, ?_, k _ (List.getElem_mem hi)⟩
  exact at_of (j := i.toNat) (by omega) (by rw [List.getElem?_map, List.getElem?_eq_getElem hi]; rfl)
/-- a list or a tuple -/
def Sq2 (H : Hp) (a : Addr) (vs : List V) : Prop := H a = some (.lst vs) ∨ H a = some (.tup vs)
theorem ixQ {K : PySem.W.Frag} {H : Hp} {p : Addr} {xs : List V} {i : Int} {v : V} {R : V → Prop} {Z : Prop} (h : Sq2 H p xs) (e : atI xs i = some v) (k : R v) :
    (∃ p' xs' i' v', V.ref p = .ref p' ∧ V.int i = .int i' ∧ SqL K H p' xs' ∧ atI xs' i' = some v' ∧ R v') ∨ (∃ p' xs' i' v', V.ref p = .ref p' ∧ V.int i = .int i' ∧ SqT K H p' xs' ∧ atI xs' i' = some v' ∧ R v') ∨ Z := by
  rcases h with h | h
  · exact .inl (ixL (SqL.of h) e k)
  · exact .inr (.inl (ixT (SqT.of h) e k))
end Ew
namespace Ew
open PySem PySem.Spec PyProof.Rows L2
/-! slices, by what they come to -/
def rSlE (K : PySem.W.Frag) : V → Option Int → Option Int → Hp → VK → Prop := fun x lo hi H Q => ∃ a xs ys, x = .ref a ∧ SqL K H a xs ∧ cutV xs lo hi = ys ∧ ∀ p, H p = none → Q (.ref p) (upd H p (.lst ys))
theorem sl_listE {X : Cx} : SlR X (rSlE X.K) := fun pins s σ H x v vl vu lo hi sl Q I rx hs pl pu ⟨a, xs, ys, h1, h2, h3, h4⟩ =>
  sl_list pins s σ H x v vl vu lo hi sl Q I rx hs pl pu ⟨a, xs, h1, h2, fun p hp => h3 ▸ h4 p hp⟩
def rSlTE (K : PySem.W.Frag) : V → Option Int → Option Int → Hp → VK → Prop := fun x lo hi H Q => ∃ a xs ys, x = .ref a ∧ SqT K H a xs ∧ cutV xs lo hi = ys ∧ ys.length < xs.length ∧ ∀ p, H p = none → Q (.ref p) (upd H p (.tup ys))
theorem sl_tupE {X : Cx} : SlR X (rSlTE X.K) := fun pins s σ H x v vl vu lo hi sl Q I rx hs pl pu ⟨a, xs, ys, h1, h2, h3, h5, h4⟩ =>
  sl_tup pins s σ H x v vl vu lo hi sl Q I rx hs pl pu ⟨a, xs, h1, h2, fun ⟨e1, e2⟩ => by
    have e3 : cutV xs lo hi = xs := by unfold cutV; rw [e1, e2]; simp
    rw [← h3, e3] at h5
    exact Nat.lt_irrefl _ h5, fun p hp => h3 ▸ h4 p hp⟩
section
variable {a b c d : V}
theorem cut_lo2 : cutV [a, b, c, d] none (some 2) = [a, b] := rfl
theorem cut_hi2 : cutV [a, b, c, d] (some 2) none = [c, d] := rfl
end
end Ew

/-- the tables of codes of the defs that hold generator expressions -/
class Tbs where
  tb : List PySem.Addr
  wd : PySem.World
namespace Pu
open PySem PySem.Spec PyProof.Rows L2
variable [Tbs]

/-! Data without places: what a value shows. -/
inductive D where
  | non | bl (b : Bool) | int (i : Int) | str (s : Str) | ty (n : String)
  | tup (xs : List D) | lst (xs : List D) | dic (kvs : List (Key × D))
  | deck (n : Nat)
  | dpr (kvs : List (List Int × Int))
  | dfz (kvs : List (Int × Int))
  | st (ns : List Int)
  | bor (xs : List D)
  | opq (a : Addr)
/-- the members of a set -/
def memB (ns : List Int) : Int → Bool := fun j => decide (j ∈ ns)

/-- a dict by pairs of whole numbers, its values whole numbers -/
def dtV (ds : List (List Int × Int)) : List (List Key × V) := ds.map fun q => (q.1.map Sum.inl, V.int q.2)
/-- a dict by whole numbers, its values whole numbers, that is changed no more -/
def dzV (ds : List (Int × Int)) : List (Key × V) := ds.map fun p => (Sum.inl p.1, V.int p.2)
/-! the decks of the laws: what a deck at dk with its cells at c is, by its kind -/
def dkA (c : Addr) (l s n : Int) : List (Key × V) := [(.inr "cells", .ref c), (.inr "left", .int l), (.inr "seed", .int s), (.inr "count", .int n)]
def dkB (c : Addr) (a r s : Int) : List (Key × V) := [(.inr "cells", .ref c), (.inr "at", .int a), (.inr "rest", .int r), (.inr "seed", .int s)]
def dkC (c : Addr) (g s t : Int) : List (Key × V) := [(.inr "cells", .ref c), (.inr "great", .int g), (.inr "seed", .int s), (.inr "turn", .int t)]
def dkE (c : Addr) (s : Int) : List (Key × V) := [(.inr "cells", .ref c), (.inr "seed", .int s)]
def DkF : Nat → Hp → Addr → Addr → Prop
  | 1, H, dk, c => ∃ (l s n : Int) (cs : List Int), H dk = some (.dK (dkA c l s n)) ∧ H c = some (.lst (cs.map V.int)) ∧ 0 ≤ s ∧ s < 4294967296
  | 2, H, dk, c => ∃ (a r s : Int) (cs : List Int), H dk = some (.dK (dkB c a r s)) ∧ H c = some (.lst (cs.map V.int)) ∧ 0 ≤ a ∧ 0 ≤ s ∧ s < 4294967296
  | 3, H, dk, c => ∃ (s n g : Int) (cs : List Int), H dk = some (.lst [.ref c, .int s, .int n, .int g]) ∧ H c = some (.lst (cs.map V.int)) ∧ True
  | 4, H, dk, c => ∃ (g s t : Int) (cs : List Int), H dk = some (.dK (dkC c g s t)) ∧ H c = some (.lst (cs.map V.int)) ∧ True
  | 5, H, dk, c => ∃ (s n _g : Int) (cs : List Int), H dk = some (.lst [.ref c, .int s, .int n]) ∧ H c = some (.lst (cs.map V.int)) ∧ 0 ≤ s ∧ s < 4294967296
  | 6, H, dk, c => ∃ (s n g : Int) (cs : List Int), H dk = some (.lst [.ref c, .int s, .int n, .int g]) ∧ H c = some (.lst (cs.map V.int)) ∧ True
  | 8, H, dk, c => ∃ (s n g : Int) (cs : List Int), H dk = some (.lst [.int g, .int s, .int n]) ∧ H c = some (.lst (cs.map V.int)) ∧ True
  | 7, H, dk, c => ∃ (s _n _g : Int) (cs : List Int), H dk = some (.dK (dkE c s)) ∧ H c = some (.lst (cs.map V.int)) ∧ 0 ≤ s ∧ s < 4294967296
  | _, _, _, _ => False
theorem DkF.keep {n : Nat} {H H' : Hp} {dk c : Addr} (h : DkF n H dk c) (h1 : ∀ o, H dk = some o → H' dk = some o) (h2 : ∀ o, H c = some o → H' c = some o) : DkF n H' dk c := by
  unfold DkF at h ⊢
  split at h
  · obtain ⟨l, s, n, cs, e1, e2, r⟩ := h; exact ⟨l, s, n, cs, h1 _ e1, h2 _ e2, r⟩
  · obtain ⟨l, s, n, cs, e1, e2, r⟩ := h; exact ⟨l, s, n, cs, h1 _ e1, h2 _ e2, r⟩
  · obtain ⟨l, s, n, cs, e1, e2, r⟩ := h; exact ⟨l, s, n, cs, h1 _ e1, h2 _ e2, r⟩
  · obtain ⟨l, s, n, cs, e1, e2, r⟩ := h; exact ⟨l, s, n, cs, h1 _ e1, h2 _ e2, r⟩
  · obtain ⟨l, s, n, cs, e1, e2, r⟩ := h; exact ⟨l, s, n, cs, h1 _ e1, h2 _ e2, r⟩
  · obtain ⟨l, s, n, cs, e1, e2, r⟩ := h; exact ⟨l, s, n, cs, h1 _ e1, h2 _ e2, r⟩
  · obtain ⟨l, s, n, cs, e1, e2, r⟩ := h; exact ⟨l, s, n, cs, h1 _ e1, h2 _ e2, r⟩
  · obtain ⟨l, s, n, cs, e1, e2, r⟩ := h; exact ⟨l, s, n, cs, h1 _ e1, h2 _ e2, r⟩
  · exact h.elim
theorem DkF.al {n : Nat} {H : Hp} {dk c : Addr} (h : DkF n H dk c) : H dk ≠ none ∧ H c ≠ none := by
  have nt : ∀ {u : HO}, some u ≠ none := fun q => by cases q
  unfold DkF at h
  split at h
  · obtain ⟨l, s, n, cs, e1, e2, r⟩ := h; rw [e1, e2]; exact ⟨nt, nt⟩
  · obtain ⟨l, s, n, cs, e1, e2, r⟩ := h; rw [e1, e2]; exact ⟨nt, nt⟩
  · obtain ⟨l, s, n, cs, e1, e2, r⟩ := h; rw [e1, e2]; exact ⟨nt, nt⟩
  · obtain ⟨l, s, n, cs, e1, e2, r⟩ := h; rw [e1, e2]; exact ⟨nt, nt⟩
  · obtain ⟨l, s, n, cs, e1, e2, r⟩ := h; rw [e1, e2]; exact ⟨nt, nt⟩
  · obtain ⟨l, s, n, cs, e1, e2, r⟩ := h; rw [e1, e2]; exact ⟨nt, nt⟩
  · obtain ⟨l, s, n, cs, e1, e2, r⟩ := h; rw [e1, e2]; exact ⟨nt, nt⟩
  · obtain ⟨l, s, n, cs, e1, e2, r⟩ := h; rw [e1, e2]; exact ⟨nt, nt⟩
  · exact h.elim
/-- the count of a deck that counts (kinds 6, 8) -/
def CtF : Nat → Hp → Addr → Addr → Nat → Prop
  | 6, H, dk, c, n => ∃ s g : Int, H dk = some (.lst [.ref c, .int s, .int (n : Int), .int g])
  | 8, H, dk, _, n => ∃ g s : Int, H dk = some (.lst [.int g, .int s, .int (n : Int)])
  | _, _, _, _, _ => True
theorem CtF.keep {k : Nat} {H H' : Hp} {dk c : Addr} {n : Nat} (h : CtF k H dk c n) (h1 : ∀ o, H dk = some o → H' dk = some o) : CtF k H' dk c n := by
  unfold CtF at h ⊢
  split at h
  · obtain ⟨s, g, q⟩ := h; exact ⟨s, g, h1 _ q⟩
  · obtain ⟨s, g, q⟩ := h; exact ⟨s, g, h1 _ q⟩
  · trivial
/-- the zone of places that calls may change: the law's deck (nt: its kind, 0: none) -/
structure Zn where
  dk : Addr
  c : Addr
  nt : Nat
  /-- a list that is borrowed -/
  bo : Option Addr := Option.none
  /-- how many draws there were, of a deck that counts (kind 6) -/
  ct : Nat := 0
def Zn.Z (z : Zn) : Addr → Prop := fun a => (z.nt ≠ 0 ∧ (a = z.dk ∨ a = z.c)) ∨ a ∈ Tbs.tb
/-- the tables stand -/
def Tabs (H : Hp) : Prop := ∀ P ∈ Tbs.tb, GxR.TabG H P
def Zn.ok (z : Zn) (H : Hp) (a : Addr) : Prop := a = z.dk ∧ z.nt ≠ 0 ∧ DkF z.nt H z.dk z.c ∧ CtF z.nt H z.dk z.c z.ct
theorem Zn.keep (z : Zn) : ∀ (H H' : Hp) (a : Addr), z.ok H a → (∀ b o, z.Z b → H b = some o → H' b = some o) → z.ok H' a := fun H H' a ⟨h1, h2, h3, h4⟩ k => ⟨h1, h2, h3.keep (fun o q => k _ o (.inl ⟨h2, .inl rfl⟩) q) (fun o q => k _ o (.inl ⟨h2, .inr rfl⟩) q), h4.keep fun o q => k _ o (.inl ⟨h2, .inl rfl⟩) q⟩
/-- no deck yet -/
def Zn.none : Zn := ⟨0, 0, 0, Option.none, 0⟩

mutual
/-- the value v shows d; no list or dict of it stands in M -/
inductive Is (z : Zn) (M : Addr → Prop) (H : Hp) : V → D → Prop
  | non : Is z M H .non .non
  | bl (b : Bool) : Is z M H (.bl b) (.bl b)
  | int (i : Int) : Is z M H (.int i) (.int i)
  | str (s : Str) : Is z M H (.str s) (.str s)
  | ty (n : String) : Is z M H (.ty n) (.ty n)
  | tup {a : Addr} {vs : List V} {ds : List D} : H a = some (.tup vs) → ¬ M a → IsA z M H vs ds → Is z M H (.ref a) (.tup ds)
  | lst {a : Addr} {vs : List V} {ds : List D} : H a = some (.lst vs) → ¬ M a → IsA z M H vs ds → Is z M H (.ref a) (.lst ds)
  | dic {a : Addr} {vs : List (Key × V)} {ds : List (Key × D)} : H a = some (.dK vs) → ¬ M a → IsK z M H vs ds → Is z M H (.ref a) (.dic ds)
  | deck {a : Addr} : z.ok H a → Is z M H (.ref a) (.deck z.nt)
  | dpr {a : Addr} {ds : List (List Int × Int)} : H a = some (.dT (dtV ds)) → ¬ M a → Is z M H (.ref a) (.dpr ds)
  | dfz {a : Addr} {o : Obj} {ds : List (Int × Int)} : H a = some (.frz o (.dK (dzV ds))) → ¬ M a → Is z M H (.ref a) (.dfz ds)
  | st {a : Addr} {ns : List Int} {n : Nat} : H a = some (SetO Tbs.wd a (memB ns) n) → n ≤ ns.length → ¬ M a → Is z M H (.ref a) (.st ns)
  | bor {a : Addr} {vs : List V} {ds : List D} : H a = some (.lst vs) → ¬ M a → IsA z M H vs ds → Is z M H (.ref a) (.bor ds)
  | opq (a : Addr) : Is z M H (.ref a) (.opq a)
inductive IsA (z : Zn) (M : Addr → Prop) (H : Hp) : List V → List D → Prop
  | nil : IsA z M H [] []
  | cons {v : V} {d : D} {vs : List V} {ds : List D} : Is z M H v d → IsA z M H vs ds → IsA z M H (v :: vs) (d :: ds)
inductive IsK (z : Zn) (M : Addr → Prop) (H : Hp) : List (Key × V) → List (Key × D) → Prop
  | nil : IsK z M H [] []
  | cons {k : Key} {v : V} {d : D} {vs : List (Key × V)} {ds : List (Key × D)} : Is z M H v d → IsK z M H vs ds → IsK z M H ((k, v) :: vs) ((k, d) :: ds)
end

section
variable {z : Zn} {M M' : Addr → Prop} {H H' : Hp}
mutual
theorem Is.gen (h1 : ∀ a o, H a = some o → ¬ M a → H' a = some o ∧ ¬ M' a) (h2 : ∀ a, z.ok H a → z.ok H' a) : ∀ {v : V} {d : D}, Is z M H v d → Is z M' H' v d
  | _, _, .non => .non
  | _, _, .bl b => .bl b
  | _, _, .int i => .int i
  | _, _, .str s => .str s
  | _, _, .ty n => .ty n
  | _, _, .tup e n r => .tup (h1 _ _ e n).1 (h1 _ _ e n).2 (IsA.gen h1 h2 r)
  | _, _, .lst e n r => .lst (h1 _ _ e n).1 (h1 _ _ e n).2 (IsA.gen h1 h2 r)
  | _, _, .dic e n r => .dic (h1 _ _ e n).1 (h1 _ _ e n).2 (IsK.gen h1 h2 r)
  | _, _, .deck e => .deck (h2 _ e)
  | _, _, .dpr e n => .dpr (h1 _ _ e n).1 (h1 _ _ e n).2
  | _, _, .dfz e n => .dfz (h1 _ _ e n).1 (h1 _ _ e n).2
  | _, _, .st e l n => .st (h1 _ _ e n).1 l (h1 _ _ e n).2
  | _, _, .bor e n r => .bor (h1 _ _ e n).1 (h1 _ _ e n).2 (IsA.gen h1 h2 r)
  | _, _, .opq v => .opq v
theorem IsA.gen (h1 : ∀ a o, H a = some o → ¬ M a → H' a = some o ∧ ¬ M' a) (h2 : ∀ a, z.ok H a → z.ok H' a) : ∀ {v : List V} {d : List D}, IsA z M H v d → IsA z M' H' v d
  | _, _, .nil => .nil
  | _, _, .cons h t => .cons (Is.gen h1 h2 h) (IsA.gen h1 h2 t)
theorem IsK.gen (h1 : ∀ a o, H a = some o → ¬ M a → H' a = some o ∧ ¬ M' a) (h2 : ∀ a, z.ok H a → z.ok H' a) : ∀ {v : List (Key × V)} {d : List (Key × D)}, IsK z M H v d → IsK z M' H' v d
  | _, _, .nil => .nil
  | _, _, .cons h t => .cons (Is.gen h1 h2 h) (IsK.gen h1 h2 t)
end
theorem IsA.length : ∀ {vs : List V} {ds : List D}, IsA z M H vs ds → vs.length = ds.length
  | _, _, .nil => rfl
  | _, _, .cons _ t => congrArg Nat.succ (IsA.length t)
theorem IsA.append : ∀ {vs us : List V} {ds es : List D}, IsA z M H vs ds → IsA z M H us es → IsA z M H (vs ++ us) (ds ++ es)
  | _, _, _, _, .nil, h => h
  | _, _, _, _, .cons q t, h => .cons q (IsA.append t h)
theorem IsA.get : ∀ {vs : List V} {ds : List D} {i : Nat} {d : D}, IsA z M H vs ds → ds[i]? = some d → ∃ v, vs[i]? = some v ∧ Is z M H v d
  | _, _, _, _, .nil, e => by cases e
  | _, _, 0, _, .cons q _, e => by cases e; exact ⟨_, rfl, q⟩
  | _, _, i + 1, _, .cons _ t, e => IsA.get (i := i) t e
theorem IsA.take : ∀ {vs : List V} {ds : List D} (n : Nat), IsA z M H vs ds → IsA z M H (vs.take n) (ds.take n)
  | _, _, 0, _ => .nil
  | _, _, _ + 1, .nil => .nil
  | _, _, n + 1, .cons q t => .cons q (IsA.take n t)
theorem IsA.drop : ∀ {vs : List V} {ds : List D} (n : Nat), IsA z M H vs ds → IsA z M H (vs.drop n) (ds.drop n)
  | _, _, 0, h => h
  | _, _, _ + 1, .nil => .nil
  | _, _, n + 1, .cons _ t => IsA.drop n t
theorem IsA.set {v : V} {d : D} (h : Is z M H v d) : ∀ {vs : List V} {ds : List D} (n : Nat), IsA z M H vs ds → IsA z M H (vs.set n v) (ds.set n d)
  | _, _, _, .nil => .nil
  | _, _, 0, .cons _ t => .cons h t
  | _, _, n + 1, .cons q t => .cons q (IsA.set h n t)
theorem IsA.eraseIdx : ∀ {vs : List V} {ds : List D} (n : Nat), IsA z M H vs ds → IsA z M H (vs.eraseIdx n) (ds.eraseIdx n)
  | _, _, _, .nil => .nil
  | _, _, 0, .cons _ t => t
  | _, _, n + 1, .cons q t => .cons q (IsA.eraseIdx n t)
theorem IsA.reverse {vs : List V} {ds : List D} (h : IsA z M H vs ds) : IsA z M H vs.reverse ds.reverse := by
  induction h using IsA.rec (motive_1 := fun _ _ _ => True) (motive_3 := fun _ _ _ => True) with
  | nil => exact .nil
  | cons q t _ ih =>
    rw [List.reverse_cons, List.reverse_cons]
    exact ih.append (.cons q .nil)
  | _ => trivial
theorem IsA.dropLast : ∀ {vs : List V} {ds : List D}, IsA z M H vs ds → IsA z M H vs.dropLast ds.dropLast
  | _, _, .nil => .nil
  | _, _, .cons _ .nil => .nil
  | _, _, .cons q (.cons r t) => .cons q (IsA.dropLast (.cons r t))
theorem IsA.ints : ∀ {vs : List V} {ns : List Int}, IsA z M H vs (ns.map D.int) → vs = ns.map V.int
  | _, [], .nil => rfl
  | _, n :: ns, .cons q t => by cases q; rw [IsA.ints t]; rfl
theorem IsA.ofInts : ∀ (ns : List Int), IsA z M H (ns.map V.int) (ns.map D.int)
  | [] => .nil
  | n :: ns => .cons (.int n) (IsA.ofInts ns)
end

/-! what may happen to the heap -/
structure Evo (z : Zn) (H H' : Hp) : Prop where
  old : ∀ a o, H a = some o → ¬ z.Z a → H' a = some o
  al : ∀ a, H a ≠ none → H' a ≠ none
  dk : ∀ a, z.ok H a → z.ok H' a
  tab : Tabs H → Tabs H'
section
variable {z : Zn} {M M' : Addr → Prop} {H H1 H2 H' : Hp} {p : Addr} {o : HO} {v : V} {d : D}
theorem Tabs.at (h : Tabs H) {P : Addr} (hP : P ∈ Tbs.tb) : H P ≠ none := by
  obtain ⟨ps, e, _⟩ := h P hP
  rw [e]; intro q; cases q
theorem Tabs.new (h : Tabs H) (hp : H p = none) : Tabs (upd H p o) := fun P hP => by
  obtain ⟨ps, e, t⟩ := h P hP
  exact ⟨ps, by rw [upd_ne (ne_of_none e hp)]; exact e, t⟩
theorem Tabs.mut (h : Tabs H) (hp : ¬ z.Z p) : Tabs (upd H p o) := fun P hP => by
  obtain ⟨ps, e, t⟩ := h P hP
  exact ⟨ps, by rw [upd_ne (fun w => hp (.inr (by rw [← w]; exact hP)))]; exact e, t⟩
theorem Evo.refl (z : Zn) (H : Hp) : Evo z H H := ⟨fun _ _ h _ => h, fun _ h => h, fun _ h => h, fun h => h⟩
theorem Evo.trans (a : Evo z H H1) (b : Evo z H1 H2) : Evo z H H2 := ⟨fun x o h n => b.old x o (a.old x o h n) n, fun x h => b.al x (a.al x h), fun x h => b.dk x (a.dk x h), fun h => b.tab (a.tab h)⟩
theorem Evo.fresh (a : Evo z H H1) (h : H1 p = none) : H p = none := by
  cases q : H p with
  | none => rfl
  | some o => exact absurd h (a.al p (by rw [q]; intro z; cases z))
theorem ok_new (hp : H p = none) {a : Addr} (h : z.ok H a) : z.ok (upd H p o) a :=
  z.keep _ _ _ h fun b u _ e => by rw [upd_ne (ne_of_none e hp)]; exact e
theorem ok_mut (hp : ¬ z.Z p) {a : Addr} (h : z.ok H a) : z.ok (upd H p o) a :=
  z.keep _ _ _ h fun b u zb e => by rw [upd_ne (fun q => hp (by rw [← q]; exact zb))]; exact e
theorem Evo.new (a : Evo z H H1) (hp : H1 p = none) : Evo z H (upd H1 p o) :=
  ⟨fun x u h n => by rw [upd_ne (ne_of_none (a.old x u h n) hp)]; exact a.old x u h n, fun x h => by
    by_cases e : x = p
    · rw [e, upd_same]; intro z; cases z
    · rw [upd_ne e]; exact a.al x h, fun x h => ok_new hp (a.dk x h), fun h => (a.tab h).new hp⟩
/-- a thing that was not there at first is changed -/
theorem Evo.mut (a : Evo z H H1) (hp : H p = none) (hz : ¬ z.Z p) : Evo z H (upd H1 p o) :=
  ⟨fun x u h n => by rw [upd_ne (ne_of_none h hp)]; exact a.old x u h n, fun x h => by
    by_cases e : x = p
    · rw [e, upd_same]; intro z; cases z
    · rw [upd_ne e]; exact a.al x h, fun x h => ok_mut hz (a.dk x h), fun h => (a.tab h).mut hz⟩
theorem Is.evo (hM : ∀ a, z.Z a → M a) (e : Evo z H H') (h : Is z M H v d) : Is z M H' v d := h.gen (fun a o q n => ⟨e.old a o q (fun x => n (hM a x)), n⟩) e.dk
theorem IsA.evo {vs : List V} {ds : List D} (hM : ∀ a, z.Z a → M a) (e : Evo z H H') (h : IsA z M H vs ds) : IsA z M H' vs ds := h.gen (fun a o q n => ⟨e.old a o q (fun x => n (hM a x)), n⟩) e.dk
theorem Is.weak (hM : ∀ a, M' a → M a) (h : Is z M H v d) : Is z M' H v d := h.gen (fun a o q n => ⟨q, fun x => n (hM a x)⟩) fun _ h => h
theorem IsA.weak {vs : List V} {ds : List D} (hM : ∀ a, M' a → M a) (h : IsA z M H vs ds) : IsA z M' H vs ds := h.gen (fun a o q n => ⟨q, fun x => n (hM a x)⟩) fun _ h => h
theorem Is.new (hp : H p = none) (h : Is z M H v d) : Is z M (upd H p o) v d := h.gen (fun a u q n => ⟨by rw [upd_ne (ne_of_none q hp)]; exact q, n⟩) fun _ h => ok_new hp h
theorem IsA.new {vs : List V} {ds : List D} (hp : H p = none) (h : IsA z M H vs ds) : IsA z M (upd H p o) vs ds := h.gen (fun a u q n => ⟨by rw [upd_ne (ne_of_none q hp)]; exact q, n⟩) fun _ h => ok_new hp h
end

theorem DkF.notbl {n : Nat} {H : Hp} {dk c P : Addr} {ps : Array Value} (h : DkF n H dk c) (e : H P = some (.tbl ps)) : dk ≠ P ∧ c ≠ P := by
  unfold DkF at h
  split at h
  all_goals first
    | exact h.elim
    | (obtain ⟨l, s, n, cs, e1, e2, r⟩ := h
       refine ⟨fun w => ?_, fun w => ?_⟩
       · rw [w, e] at e1; cases e1
       · rw [w, e] at e2; cases e2)
/-- a draw leaves the tables -/
theorem tab_deck {n : Nat} {H H' : Hp} {dk c : Addr} (d : DkF n H dk c) (ev : ∀ b o, H b = some o → b ∉ [dk, c] → H' b = some o) (h : Tabs H) : Tabs H' := fun P hP => by
  obtain ⟨ps, e, t⟩ := h P hP
  obtain ⟨n1, n2⟩ := d.notbl e
  exact ⟨ps, ev P _ e (by simp only [List.mem_cons, List.not_mem_nil, or_false, not_or]; exact ⟨fun w => n1 w.symm, fun w => n2 w.symm⟩), t⟩
/-- what the thing at a holds -/
def Con (z : Zn) (M : Addr → Prop) (H : Hp) (a : Addr) : D → Prop
  | .tup ds => ∃ vs, H a = some (.tup vs) ∧ IsA z M H vs ds
  | .lst ds => ∃ vs, H a = some (.lst vs) ∧ IsA z M H vs ds
  | .dic ds => ∃ vs, H a = some (.dK vs) ∧ IsK z M H vs ds
  | .dpr ds => H a = some (.dT (dtV ds))
  | .st ns => ∃ n, H a = some (SetO Tbs.wd a (memB ns) n) ∧ n ≤ ns.length
  | .bor ds => z.bo = some a ∧ ∃ vs, H a = some (.lst vs) ∧ IsA z M H vs ds
  | _ => False
section
variable {z : Zn} {M M' : Addr → Prop} {H H' : Hp} {a : Addr} {d : D}
theorem Con.gen (ha : ∀ o, H a = some o → H' a = some o) (h1 : ∀ a o, H a = some o → ¬ M a → H' a = some o ∧ ¬ M' a) (h2 : ∀ a, z.ok H a → z.ok H' a) (h : Con z M H a d) : Con z M' H' a d := by
  cases d with
  | tup ds => obtain ⟨vs, e, r⟩ := h; exact ⟨vs, ha _ e, r.gen h1 h2⟩
  | lst ds => obtain ⟨vs, e, r⟩ := h; exact ⟨vs, ha _ e, r.gen h1 h2⟩
  | dic ds => obtain ⟨vs, e, r⟩ := h; exact ⟨vs, ha _ e, r.gen h1 h2⟩
  | dpr ds => exact ha _ h
  | st ns => obtain ⟨n, e, l⟩ := h; exact ⟨n, ha _ e, l⟩
  | bor ds => obtain ⟨w, vs, e, r⟩ := h; exact ⟨w, vs, ha _ e, r.gen h1 h2⟩
  | _ => exact h.elim
theorem Con.is (n : ¬ M a) (h : Con z M H a d) : Is z M H (.ref a) d := by
  cases d with
  | tup ds => obtain ⟨vs, e, r⟩ := h; exact .tup e n r
  | lst ds => obtain ⟨vs, e, r⟩ := h; exact .lst e n r
  | dic ds => obtain ⟨vs, e, r⟩ := h; exact .dic e n r
  | dpr ds => exact .dpr h n
  | st ns => obtain ⟨m, e, l⟩ := h; exact .st e l n
  | bor ds => obtain ⟨w, vs, e, r⟩ := h; exact .bor e n r
  | _ => exact h.elim
theorem Con.some (h : Con z M H a d) : ∃ o, H a = some o := by
  cases d with
  | tup ds => obtain ⟨vs, e, r⟩ := h; exact ⟨_, e⟩
  | lst ds => obtain ⟨vs, e, r⟩ := h; exact ⟨_, e⟩
  | dic ds => obtain ⟨vs, e, r⟩ := h; exact ⟨_, e⟩
  | dpr ds => exact ⟨_, h⟩
  | st ns => obtain ⟨m, e, l⟩ := h; exact ⟨_, e⟩
  | bor ds => obtain ⟨w, vs, e, r⟩ := h; exact ⟨_, e⟩
  | _ => exact h.elim
theorem Is.con {ds : List D} {v : V} (h : Is z M H v (.lst ds)) : ∃ a, v = .ref a ∧ Con z M H a (.lst ds) := by
  cases h with
  | lst e n r => exact ⟨_, rfl, _, e, r⟩
end

/-! slots -/
abbrev Sl := List (Option V)
abbrev AP := Addr → Prop
inductive SV where
  | no | val (d : D) | own (d : D)
/-- the places that no plain value of the slots has: the zone, what X names, what slots own -/
def Ms (z : Zn) (X : AP) (σ : Sl) (env : List SV) : AP := fun a => z.Z a ∨ X a ∨ ∃ (i : Nat) (d : D), env[i]? = some (.own d) ∧ σ[i]? = some (some (V.ref a))
structure Ok (z : Zn) (X : AP) (H0 H : Hp) (σ : Sl) (env : List SV) : Prop where
  len : σ.length = env.length
  evo : Evo z H0 H
  zal : ∀ a, z.Z a → H a ≠ none
  xal : ∀ a, X a → H a ≠ none ∧ ¬ z.Z a
  val : ∀ (i : Nat) (d : D), env[i]? = some (.val d) → ∃ v, σ[i]? = some (some v) ∧ Is z (Ms z X σ env) H v d
  own : ∀ (i : Nat) (d : D), env[i]? = some (.own d) → ∃ a, σ[i]? = some (some (V.ref a)) ∧ Con z (Ms z X σ env) H a d ∧ ¬ z.Z a ∧ ¬ X a ∧ H0 a = none
  inj : ∀ (i j : Nat) (a : Addr) (d e : D), env[i]? = some (.own d) → env[j]? = some (.own e) → σ[i]? = some (some (V.ref a)) → σ[j]? = some (some (V.ref a)) → i = j
  tab : Tabs H
/-- what stood outside M stands, outside M' -/
structure Fr (z : Zn) (X : AP) (M : AP) (H : Hp) (M' : AP) (H' : Hp) : Prop where
  old : ∀ a o, H a = some o → ¬ M a → H' a = some o ∧ ¬ M' a
  dk : ∀ a, z.ok H a → z.ok H' a
  al : ∀ a, H a ≠ none → H' a ≠ none
section
variable {z : Zn} {X : AP} {H0 H H' H1 H2 : Hp} {σ σ' : Sl} {env env' : List SV} {M M1 M2 : AP}
theorem Fr.refl : Fr z X M H M H := ⟨fun _ _ h n => ⟨h, n⟩, fun _ h => h, fun _ h => h⟩
theorem Fr.trans (a : Fr z X M H M1 H1) (b : Fr z X M1 H1 M2 H2) : Fr z X M H M2 H2 := ⟨fun x o h n => b.old x o (a.old x o h n).1 (a.old x o h n).2, fun x h => b.dk x (a.dk x h), fun x h => b.al x (a.al x h)⟩
theorem Fr.is {v : V} {d : D} (f : Fr z X M H M1 H1) (h : Is z M H v d) : Is z M1 H1 v d := h.gen f.old f.dk
theorem Fr.isA {v : List V} {d : List D} (f : Fr z X M H M1 H1) (h : IsA z M H v d) : IsA z M1 H1 v d := h.gen f.old f.dk
theorem Ok.keepX (k : Ok z X H0 H σ env) (e : Evo z H H') : ∀ a, X a → H' a = H a := fun a h => by
  cases q : H a with
  | none => exact absurd q (k.xal a h).1
  | some o => exact e.old a o q (k.xal a h).2
theorem Ok.fr (k : Ok z X H0 H σ env) (e : Evo z H H') : Fr z X (Ms z X σ env) H (Ms z X σ env) H' := ⟨fun a o h n => ⟨e.old a o h fun x => n (.inl x), n⟩, e.dk, e.al⟩
theorem Ok.go (k : Ok z X H0 H σ env) (e : Evo z H H') : Ok z X H0 H' σ env :=
  ⟨k.len, k.evo.trans e, fun a h => e.al a (k.zal a h), fun a h => ⟨e.al a (k.xal a h).1, (k.xal a h).2⟩, fun i d h => let ⟨v, h1, h2⟩ := k.val i d h; ⟨v, h1, h2.evo (fun _ h => .inl h) e⟩,
   fun i d h => let ⟨a, h1, h2, h3, h4⟩ := k.own i d h; ⟨a, h1, h2.gen (fun o q => e.old a o q h3) (fun b o q n => ⟨e.old b o q fun x => n (.inl x), n⟩) e.dk, h3, h4⟩, k.inj, e.tab k.tab⟩
theorem set_own {i j : Nat} {d e : D} (h : (env.set i (.val d))[j]? = some (.own e)) : j ≠ i ∧ env[j]? = some (.own e) := by
  by_cases hj : i = j
  · subst hj
    rw [List.getElem?_set] at h
    split at h
    · split at h <;> cases h
    · exact absurd rfl (by assumption)
  · rw [List.getElem?_set_ne hj] at h
    exact ⟨fun q => hj q.symm, h⟩
/-- a plain store: the slot i shows d -/
theorem Ok.set (k : Ok z X H0 H σ env) {i : Nat} {v : V} {d : D} (hv : Is z (Ms z X σ env) H v d) : Ok z X H0 H (σ.set i (some v)) (env.set i (.val d)) ∧ Fr z X (Ms z X σ env) H (Ms z X (σ.set i (some v)) (env.set i (.val d))) H := by
  have sub : ∀ a, Ms z X (σ.set i (some v)) (env.set i (.val d)) a → Ms z X σ env a := by
    rintro a (h | h | ⟨j, e, h1, h2⟩)
    · exact .inl h
    · exact .inr (.inl h)
    · obtain ⟨hj, h1⟩ := set_own h1
      rw [List.getElem?_set_ne (Ne.symm hj)] at h2
      exact .inr (.inr ⟨j, e, h1, h2⟩)
  refine ⟨⟨by simp [k.len], k.evo, k.zal, k.xal, fun j e h => ?_, fun j e h => ?_, fun j l a e f h1 h2 h3 h4 => ?_, k.tab⟩, ⟨fun a o q n => ⟨q, fun x => n (sub a x)⟩, fun _ h => h, fun _ h => h⟩⟩
  · by_cases hj : i = j
    · subst hj
      rw [List.getElem?_set] at h
      split at h
      · split at h
        · rename_i hl
          cases h
          refine ⟨v, ?_, hv.weak sub⟩
          rw [List.getElem?_set_self (by rw [k.len]; exact hl)]
        · cases h
      · exact absurd rfl (by assumption)
    · rw [List.getElem?_set_ne hj] at h ⊢
      obtain ⟨u, h1, h2⟩ := k.val j e h
      exact ⟨u, h1, h2.weak sub⟩
  · obtain ⟨hj, h⟩ := set_own h
    rw [List.getElem?_set_ne (Ne.symm hj)]
    obtain ⟨a, h1, h2, h3, h4⟩ := k.own j e h
    exact ⟨a, h1, h2.gen (fun _ q => q) (fun b o q n => ⟨q, fun x => n (sub b x)⟩) fun _ h => h, h3, h4⟩
  · obtain ⟨hj, h1⟩ := set_own h1
    obtain ⟨hl, h2⟩ := set_own h2
    rw [List.getElem?_set_ne (Ne.symm hj)] at h3
    rw [List.getElem?_set_ne (Ne.symm hl)] at h4
    exact k.inj j l a e f h1 h2 h3 h4
abbrev AP.or (X : AP) (a : Addr) : AP := fun b => X b ∨ b = a
/-- a store of a new thing that the slot owns -/
theorem Ok.take (k : Ok z X H0 H σ env) {i : Nat} {a : Addr} {d : D} (hl : i < env.length) (e : Evo z H H') (hn : H a = none) (hc : Con z (Ms z (X.or a) σ env) H' a d) :
    Ok z X H0 H' (σ.set i (some (V.ref a))) (env.set i (.own d)) ∧ Fr z X (Ms z X σ env) H (Ms z X (σ.set i (some (V.ref a))) (env.set i (.own d))) H' := by
  have hz : ¬ z.Z a := fun q => k.zal a q hn
  have hx : ¬ X a := fun q => (k.xal a q).1 hn
  have ms : ∀ b, Ms z X (σ.set i (some (V.ref a))) (env.set i (.own d)) b → Ms z (X.or a) σ env b := by
    rintro b (h | h | ⟨j, f, h1, h2⟩)
    · exact .inl h
    · exact .inr (.inl (.inl h))
    · by_cases hj : i = j
      · subst hj
        rw [List.getElem?_set_self (by rw [k.len]; exact hl)] at h2
        cases h2
        exact .inr (.inl (.inr rfl))
      · rw [List.getElem?_set_ne hj] at h1 h2
        exact .inr (.inr ⟨j, f, h1, h2⟩)
  have ms2 : ∀ b, Ms z (X.or a) σ env b → Ms z X σ env b ∨ b = a := by
    rintro b (h | (h | h) | h)
    · exact .inl (.inl h)
    · exact .inl (.inr (.inl h))
    · exact .inr h
    · exact .inl (.inr (.inr h))
  have old : ∀ b o, H b = some o → ¬ Ms z X σ env b → H' b = some o ∧ ¬ Ms z X (σ.set i (some (V.ref a))) (env.set i (.own d)) b := fun b o q n =>
    ⟨e.old b o q fun x => n (.inl x), fun x => (ms2 b (ms b x)).elim n fun y => by rw [y, hn] at q; cases q⟩
  refine ⟨⟨by simp [k.len], k.evo.trans e, fun b h => e.al b (k.zal b h), fun b h => ⟨e.al b (k.xal b h).1, (k.xal b h).2⟩, fun j f h => ?_, fun j f h => ?_, fun j l b f g h1 h2 h3 h4 => ?_, e.tab k.tab⟩, ⟨old, e.dk, e.al⟩⟩
  · by_cases hj : i = j
    · subst hj
      rw [List.getElem?_set_self hl] at h
      cases h
    · rw [List.getElem?_set_ne hj] at h ⊢
      obtain ⟨u, h1, h2⟩ := k.val j f h
      exact ⟨u, h1, h2.gen old e.dk⟩
  · by_cases hj : i = j
    · subst hj
      rw [List.getElem?_set_self hl] at h
      cases h
      exact ⟨a, by rw [List.getElem?_set_self (by rw [k.len]; exact hl)], hc.gen (fun _ q => q) (fun b o q n => ⟨q, fun x => n (ms b x)⟩) fun _ h => h, hz, hx, k.evo.fresh hn⟩
    · rw [List.getElem?_set_ne hj] at h ⊢
      obtain ⟨b, h1, h2, h3, h4⟩ := k.own j f h
      exact ⟨b, h1, h2.gen (fun o q => e.old b o q h3) old e.dk, h3, h4⟩
  · have own' : ∀ (j : Nat) (f : D), (env.set i (.own d))[j]? = some (.own f) → j ≠ i → env[j]? = some (.own f) := fun j f h hj => by rw [List.getElem?_set_ne (Ne.symm hj)] at h; exact h
    have no : ∀ (j : Nat) (f : D), env[j]? = some (.own f) → σ[j]? = some (some (V.ref a)) → False := fun j f h1 h2 => by
      obtain ⟨b, h3, h4, _⟩ := k.own j f h1
      rw [h2] at h3
      cases h3
      obtain ⟨o, h5⟩ := h4.some
      rw [hn] at h5
      cases h5
    by_cases hj : j = i
    · by_cases hl2 : l = i
      · rw [hj, hl2]
      · rw [hj, List.getElem?_set_self (by rw [k.len]; exact hl)] at h3
        cases h3
        rw [List.getElem?_set_ne (Ne.symm hl2)] at h4
        exact (no l g (own' l g h2 hl2) h4).elim
    · by_cases hl2 : l = i
      · rw [hl2, List.getElem?_set_self (by rw [k.len]; exact hl)] at h4
        cases h4
        rw [List.getElem?_set_ne (Ne.symm hj)] at h3
        exact (no j f (own' j f h1 hj) h3).elim
      · rw [List.getElem?_set_ne (Ne.symm hj)] at h3
        rw [List.getElem?_set_ne (Ne.symm hl2)] at h4
        exact k.inj j l b f g (own' j f h1 hj) (own' l g h2 hl2) h3 h4
/-- what a slot owns is changed -/
theorem Ok.mut (k : Ok z X H0 H σ env) {i : Nat} {a : Addr} {d d' : D} {o : HO} (hi : env[i]? = some (.own d)) (hs : σ[i]? = some (some (V.ref a))) (hc : Con z (Ms z X σ env) (upd H a o) a d') :
    Ok z X H0 (upd H a o) σ (env.set i (.own d')) ∧ Fr z X (Ms z X σ env) H (Ms z X σ (env.set i (.own d'))) (upd H a o) := by
  have hl : i < env.length := (List.getElem?_eq_some_iff.mp hi).1
  obtain ⟨a', hs', hc0, hz, hx, h0⟩ := k.own i d hi
  have ea : a' = a := by rw [hs] at hs'; cases hs'; rfl
  subst ea
  have ms : ∀ b, Ms z X σ (env.set i (.own d')) b → Ms z X σ env b := by
    rintro b (h | h | ⟨j, f, h1, h2⟩)
    · exact .inl h
    · exact .inr (.inl h)
    · by_cases hj : i = j
      · subst hj
        exact .inr (.inr ⟨i, d, hi, h2⟩)
      · rw [List.getElem?_set_ne hj] at h1
        exact .inr (.inr ⟨j, f, h1, h2⟩)
  have ain : Ms z X σ env a' := .inr (.inr ⟨i, d, hi, hs⟩)
  have old : ∀ b u, H b = some u → ¬ Ms z X σ env b → upd H a' o b = some u ∧ ¬ Ms z X σ (env.set i (.own d')) b := fun b u q n =>
    ⟨by rw [upd_ne (fun e => n (by rw [e]; exact ain))]; exact q, fun x => n (ms b x)⟩
  have dk : ∀ b, z.ok H b → z.ok (upd H a' o) b := fun b h => ok_mut hz h
  have al : ∀ b, H b ≠ none → upd H a' o b ≠ none := fun b h => by
    by_cases e : b = a'
    · rw [e, upd_same]; intro q; cases q
    · rw [upd_ne e]; exact h
  refine ⟨⟨by simp [k.len], k.evo.mut h0 hz, fun b h => al b (k.zal b h), fun b h => ⟨al b (k.xal b h).1, (k.xal b h).2⟩, fun j f h => ?_, fun j f h => ?_, fun j l b f g h1 h2 h3 h4 => ?_, k.tab.mut hz⟩, ⟨old, dk, al⟩⟩
  · by_cases hj : i = j
    · subst hj
      rw [List.getElem?_set_self hl] at h
      cases h
    · rw [List.getElem?_set_ne hj] at h
      obtain ⟨u, h1, h2⟩ := k.val j f h
      exact ⟨u, h1, h2.gen old dk⟩
  · by_cases hj : i = j
    · subst hj
      rw [List.getElem?_set_self hl] at h
      cases h
      exact ⟨a', hs, hc.gen (fun _ q => q) (fun b o q n => ⟨q, fun x => n (ms b x)⟩) fun _ h => h, hz, hx, h0⟩
    · rw [List.getElem?_set_ne hj] at h
      obtain ⟨b, h1, h2, h3, h4⟩ := k.own j f h
      have nb : b ≠ a' := fun e => hj (k.inj i j a' d f hi h hs (e ▸ h1))
      exact ⟨b, h1, h2.gen (fun o q => by rw [upd_ne nb]; exact q) old dk, h3, h4⟩
  · have un : ∀ (j : Nat) (f : D), (env.set i (.own d'))[j]? = some (.own f) → ∃ f', env[j]? = some (.own f') := fun j f h => by
      by_cases hj : i = j
      · subst hj; exact ⟨d, hi⟩
      · rw [List.getElem?_set_ne hj] at h; exact ⟨f, h⟩
    obtain ⟨f', h1'⟩ := un j f h1
    obtain ⟨g', h2'⟩ := un l g h2
    exact k.inj j l b f' g' h1' h2' h3 h4
end
end Pu

namespace Pu
open PySem PySem.Spec PyProof.Rows L2
variable [Tbs]

/-! == of data -/
mutual
def pd : D → PyData
  | .non => .none
  | .bl b => .bool b
  | .int i => .int i
  | .str s => .str s
  | .ty _ => .none
  | .tup xs => .tuple (pdA xs)
  | .lst xs => .list (pdA xs)
  | .dic _ => .none
  | .deck _ => .none
  | .dpr _ => .none
  | .dfz _ => .none
  | .st _ => .none
  | .bor _ => .none
  | .opq _ => .none
def pdA : List D → List PyData
  | [] => []
  | x :: xs => pd x :: pdA xs
end
mutual
/-- of None, truths, numbers, texts, tuples and lists, at most n deep -/
def shp : Nat → D → Bool
  | _, .non => true
  | _, .bl _ => true
  | _, .int _ => true
  | _, .str s => PyData.strOk s
  | 0, .tup _ => false
  | n + 1, .tup xs => shpA n xs
  | 0, .lst _ => false
  | n + 1, .lst xs => shpA n xs
  | _, .ty _ => false
  | _, .dic _ => false
  | _, .deck _ => false
  | _, .dpr _ => false
  | _, .dfz _ => false
  | _, .st _ => false
  | _, .bor _ => false
  | _, .opq _ => false
def shpA : Nat → List D → Bool
  | _, [] => true
  | n, x :: xs => shp n x && shpA n xs
end
mutual
/-- the same without truths -/
def pln : Nat → D → Bool
  | _, .non => true
  | _, .bl _ => false
  | _, .int _ => true
  | _, .str s => PyData.strOk s
  | 0, .tup _ => false
  | n + 1, .tup xs => plnA n xs
  | 0, .lst _ => false
  | n + 1, .lst xs => plnA n xs
  | _, .ty _ => false
  | _, .dic _ => false
  | _, .deck _ => false
  | _, .dpr _ => false
  | _, .dfz _ => false
  | _, .st _ => false
  | _, .bor _ => false
  | _, .opq _ => false
def plnA : Nat → List D → Bool
  | _, [] => true
  | n, x :: xs => pln n x && plnA n xs
end
theorem plnA_iff {n : Nat} : ∀ {xs : List D}, plnA n xs = true ↔ ∀ x ∈ xs, pln n x = true
  | [] => by simp [plnA]
  | x :: xs => by simp [plnA, plnA_iff (xs := xs)]
theorem shpA_iff {n : Nat} : ∀ {xs : List D}, shpA n xs = true ↔ ∀ x ∈ xs, shp n x = true
  | [] => by simp [shpA]
  | x :: xs => by simp [shpA, shpA_iff (xs := xs)]
mutual
theorem pln_shp : ∀ (n : Nat) (d : D), pln n d = true → shp n d = true
  | _, .non, _ => by simp [shp]
  | _, .bl _, h => by simp [pln] at h
  | _, .int _, _ => by simp [shp]
  | _, .str s, h => by simp only [pln] at h; simp only [shp]; exact h
  | 0, .tup _, h => by simp [pln] at h
  | n + 1, .tup xs, h => by simp only [pln] at h; simp only [shp]; exact plnA_shp n xs h
  | 0, .lst _, h => by simp [pln] at h
  | n + 1, .lst xs, h => by simp only [pln] at h; simp only [shp]; exact plnA_shp n xs h
  | _, .ty _, h => by simp [pln] at h
  | _, .dic _, h => by simp [pln] at h
  | _, .deck _, h => by simp [pln] at h
  | _, .dpr _, h => by simp [pln] at h
  | _, .dfz _, h => by simp [pln] at h
  | _, .st _, h => by simp [pln] at h
  | _, .bor _, h => by simp [pln] at h
  | _, .opq _, h => by simp [pln] at h
theorem plnA_shp : ∀ (n : Nat) (xs : List D), plnA n xs = true → shpA n xs = true
  | _, [], _ => by simp [shpA]
  | n, x :: xs, h => by
    simp only [plnA, Bool.and_eq_true] at h
    simp only [shpA, Bool.and_eq_true]
    exact ⟨pln_shp n x h.1, plnA_shp n xs h.2⟩
end
mutual
theorem shp_lay : ∀ (n : Nat) (d : D), shp n d = true → (pd d).canLay0 = true ∧ (pd d).depth ≤ n + 1
  | n, .non, _ => by simp [pd, PyData.canLay0, PyData.depth]
  | n, .bl _, h => by simp [pd, PyData.canLay0, PyData.depth]
  | n, .int _, _ => by simp [pd, PyData.canLay0, PyData.depth]
  | n, .str s, h => by simp only [shp] at h; simp [pd, PyData.canLay0, PyData.depth, h]
  | 0, .tup _, h => by simp [shp] at h
  | n + 1, .tup xs, h => by
    simp only [shp] at h
    have q := shp_layA n xs h
    simp only [pd, PyData.canLay0, PyData.depth, q.1, true_and]
    omega
  | 0, .lst _, h => by simp [shp] at h
  | n + 1, .lst xs, h => by
    simp only [shp] at h
    have q := shp_layA n xs h
    simp only [pd, PyData.canLay0, PyData.depth, q.1, true_and]
    omega
  | _, .ty _, h => by simp [shp] at h
  | _, .dic _, h => by simp [shp] at h
  | _, .deck _, h => by simp [shp] at h
  | _, .dpr _, h => by simp [shp] at h
  | _, .dfz _, h => by simp [shp] at h
  | _, .st _, h => by simp [shp] at h
  | _, .bor _, h => by simp [shp] at h
  | _, .opq _, h => by simp [shp] at h
theorem shp_layA : ∀ (n : Nat) (xs : List D), shpA n xs = true → PyData.canLayAll0 (pdA xs) = true ∧ PyData.depthAll (pdA xs) ≤ n + 1
  | n, [], _ => by simp [pdA, PyData.canLayAll0, PyData.depthAll]
  | n, x :: xs, h => by
    simp only [shpA, Bool.and_eq_true] at h
    have q := shp_lay n x h.1
    have r := shp_layA n xs h.2
    simp only [pdA, PyData.canLayAll0, PyData.depthAll, q.1, r.1, Bool.and_self, true_and]
    omega
end
theorem shaped_of {d : D} (h : shp 60 d = true) : SeqAt.shaped (pd d) = true := by
  have q := shp_lay 60 d h
  simp only [SeqAt.shaped, q.1, Bool.true_and, decide_eq_true_eq]
  omega
section
variable {z : Zn} {M : Addr → Prop} {H : Hp} {K : PySem.W.Frag}
mutual
theorem Is.dp : ∀ {v : V} {d : D} {n : Nat}, Is z M H v d → shp n d = true → Dp K H v (pd d)
  | _, _, _, .non, _ => by simp only [pd]; exact .non
  | _, _, _, .bl b, _ => by simp only [pd]; exact .bl b
  | _, _, _, .int b, _ => by simp only [pd]; exact .int b
  | _, _, _, .str b, _ => by simp only [pd]; exact .str b
  | _, _, _, .ty b, h => by simp [shp] at h
  | _, _, 0, .tup e _ r, h => by simp [shp] at h
  | _, _, n + 1, .tup e _ r, h => by simp only [pd]; exact .tup (SqT.of e) (IsA.dp r (by simpa only [shp] using h))
  | _, _, 0, .lst e _ r, h => by simp [shp] at h
  | _, _, n + 1, .lst e _ r, h => by simp only [pd]; exact .lst (SqL.of e) (IsA.dp r (by simpa only [shp] using h))
  | _, _, _, .dic _ _ _, h => by simp [shp] at h
  | _, _, _, .deck _, h => by simp [shp] at h
  | _, _, _, .dpr _ _, h => by simp [shp] at h
  | _, _, _, .dfz _ _, h => by simp [shp] at h
  | _, _, _, .st _ _ _, h => by simp [shp] at h
  | _, _, _, .bor _ _ _, h => by simp [shp] at h
  | _, _, _, .opq _, h => by simp [shp] at h
theorem IsA.dp : ∀ {vs : List V} {ds : List D} {n : Nat}, IsA z M H vs ds → shpA n ds = true → DpAll K H vs (pdA ds)
  | _, _, _, .nil, _ => by simp only [pdA]; exact .nil
  | _, _, _, .cons q t, h => by
    simp only [shpA, Bool.and_eq_true] at h
    simp only [pdA]
    exact .cons (Is.dp q h.1) (IsA.dp t h.2)
end
end
def eqvD (a b : D) : Bool := PyData.eqv (pd a) (pd b)
theorem strBeq {a b : Str} : (a == b) = true ↔ a = b := beq_iff_eq
mutual
theorem eqv_iff : ∀ (n m : Nat) (a b : D), pln n a = true → pln m b = true → (PyData.eqv (pd a) (pd b) = true ↔ a = b)
  | n, m, a, b, ha, hb => by
    cases a with
    | non => cases b <;> simp_all [pd, PyData.eqv, pln]
    | bl _ => simp [pln] at ha
    | int i => cases b <;> simp_all [pd, PyData.eqv, pln]
    | str s => cases b <;> simp_all [pd, PyData.eqv, pln]
    | ty _ => simp [pln] at ha
    | dic _ => simp [pln] at ha
    | deck _ => simp [pln] at ha
    | dpr _ => simp [pln] at ha
    | dfz _ => simp [pln] at ha
    | st _ => simp [pln] at ha
    | bor _ => simp [pln] at ha
    | opq _ => simp [pln] at ha
    | tup xs =>
      cases b with
      | tup ys =>
        cases n with
        | zero => simp [pln] at ha
        | succ n =>
          cases m with
          | zero => simp [pln] at hb
          | succ m =>
            simp only [pln] at ha hb
            simp only [pd, PyData.eqv, D.tup.injEq]
            exact eqv_iffA n m xs ys ha hb
      | bl _ => simp [pln] at hb
      | _ => simp_all [pd, PyData.eqv, pln]
    | lst xs =>
      cases b with
      | lst ys =>
        cases n with
        | zero => simp [pln] at ha
        | succ n =>
          cases m with
          | zero => simp [pln] at hb
          | succ m =>
            simp only [pln] at ha hb
            simp only [pd, PyData.eqv, D.lst.injEq]
            exact eqv_iffA n m xs ys ha hb
      | bl _ => simp [pln] at hb
      | _ => simp_all [pd, PyData.eqv, pln]
theorem eqv_iffA : ∀ (n m : Nat) (a b : List D), plnA n a = true → plnA m b = true → (PyData.eqvAll (pdA a) (pdA b) = true ↔ a = b)
  | n, m, [], [], _, _ => by simp [pdA, PyData.eqvAll]
  | n, m, [], _ :: _, _, _ => by simp [pdA, PyData.eqvAll]
  | n, m, _ :: _, [], _, _ => by simp [pdA, PyData.eqvAll]
  | n, m, x :: xs, y :: ys, ha, hb => by
    simp only [plnA, Bool.and_eq_true] at ha hb
    simp only [pdA, PyData.eqvAll, Bool.and_eq_true, List.cons.injEq]
    rw [eqv_iff n m x y ha.1 hb.1, eqv_iffA n m xs ys ha.2 hb.2]
end
theorem eqvD_iff {a b : D} (ha : pln 60 a = true) (hb : pln 60 b = true) : eqvD a b = true ↔ a = b := eqv_iff 60 60 a b ha hb
end Pu

namespace Pu
open PySem PySem.Spec PyProof.Rows L2
variable [Tbs]

/-! readings without places -/
abbrev PX := List SV → (D → Prop) → Prop
abbrev PTs' := List SV → (Bool → Prop) → Prop
abbrev PAs := List SV → (List D → Prop) → Prop
/-- the zone and X -/
def Zx (z : Zn) (X : AP) : AP := fun a => z.Z a ∨ X a
/-- how an expression's value stands: f new and alone; e plain; c its parts plain; b for a look only -/
inductive Mode where | f | e | c | b
  deriving DecidableEq
def mutD : D → Bool
  | .lst _ => true
  | .dic _ => true
  | .dpr _ => true
  | .st _ => true
  | _ => false
def Rel (m : Mode) (z : Zn) (X : AP) (H H' : Hp) (σ : Sl) (env : List SV) (v : V) (d : D) : Prop := match m with
  | .f => ∃ a, v = .ref a ∧ H a = none ∧ Con z (Ms z (X.or a) σ env) H' a d
  | .e => Is z (Ms z X σ env) H' v d
  | .c => Is z (Ms z X σ env) H' v d ∨ ∃ a, v = .ref a ∧ Con z (Ms z X σ env) H' a d ∧ ¬ Zx z X a ∧ mutD d = true
  | .b => Is z (Zx z X) H' v d
section
variable {z : Zn} {X : AP} {H0 H H1 H' : Hp} {σ : Sl} {env : List SV} {v : V} {d : D} {m : Mode}
theorem Zx.ms {a : Addr} (h : Zx z X a) : Ms z X σ env a := h.elim .inl fun q => .inr (.inl q)
theorem Ms.orL {a b : Addr} (h : Ms z X σ env b) : Ms z (X.or a) σ env b := by
  rcases h with h | h | h
  · exact .inl h
  · exact .inr (.inl (.inl h))
  · exact .inr (.inr h)
theorem Ok.notMs (k : Ok z X H0 H σ env) {a : Addr} (h : H a = none) : ¬ Ms z X σ env a := by
  rintro (q | q | ⟨i, d, q1, q2⟩)
  · exact k.zal a q h
  · exact (k.xal a q).1 h
  · obtain ⟨b, h1, h2, _⟩ := k.own i d q1
    rw [q2] at h1
    cases h1
    obtain ⟨o, h3⟩ := h2.some
    rw [h] at h3
    cases h3
theorem Rel.fe (k : Ok z X H0 H σ env) (h : Rel .f z X H H' σ env v d) : Rel .e z X H H' σ env v d := by
  obtain ⟨a, rfl, hn, hc⟩ := h
  exact (hc.gen (fun _ q => q) (fun b o q n => ⟨q, fun x => n x.orL⟩) fun _ h => h).is (k.notMs hn)
theorem Rel.ec (h : Rel .e z X H H' σ env v d) : Rel .c z X H H' σ env v d := .inl h
theorem Rel.cb (h : Rel .c z X H H' σ env v d) : Rel .b z X H H' σ env v d := by
  rcases h with h | ⟨a, rfl, hc, n, _⟩
  · exact Is.weak (fun a q => q.ms) h
  · exact (hc.gen (fun _ q => q) (fun b o q n => ⟨q, fun x => n x.ms⟩) fun _ h => h).is n
theorem Rel.eb (h : Rel .e z X H H' σ env v d) : Rel .b z X H H' σ env v d := h.ec.cb
theorem Rel.toB (k : Ok z X H0 H σ env) (h : Rel m z X H H' σ env v d) : Rel .b z X H H' σ env v d := by
  cases m with
  | f => exact (h.fe k).eb
  | e => exact h.eb
  | c => exact h.cb
  | b => exact h
/-- a later heap -/
theorem Rel.evo (k : Ok z X H0 H σ env) (e : Evo z H1 H') (h : Rel m z X H H1 σ env v d) (h0 : Evo z H H1) : Rel m z X H H' σ env v d := by
  cases m with
  | f =>
    obtain ⟨a, rfl, hn, hc⟩ := h
    refine ⟨a, rfl, hn, hc.gen (fun o q => e.old a o q fun x => ?_) (fun b o q n => ⟨e.old b o q fun x => n (.inl x), n⟩) e.dk⟩
    exact k.zal a x hn
  | e => exact Is.evo (fun _ q => .inl q) e h
  | c =>
    rcases h with h | ⟨a, rfl, hc, n, md⟩
    · exact .inl (Is.evo (fun _ q => .inl q) e h)
    · exact .inr ⟨a, rfl, hc.gen (fun o q => e.old a o q fun x => n (.inl x)) (fun b o q n => ⟨e.old b o q fun x => n (.inl x), n⟩) e.dk, n, md⟩
  | b => exact Is.evo (fun _ q => .inl q) e h
/-- a later start: for all but f -/
theorem Rel.later (hm : m ≠ .f) (h : Rel m z X H H' σ env v d) : Rel m z X H1 H' σ env v d := by
  cases m with
  | f => exact absurd rfl hm
  | _ => exact h
/-- an earlier start -/
theorem Rel.early (e : Evo z H H1) (h : Rel m z X H1 H' σ env v d) : Rel m z X H H' σ env v d := by
  cases m with
  | f => obtain ⟨a, rfl, hn, hc⟩ := h; exact ⟨a, rfl, e.fresh hn, hc⟩
  | e => exact h
  | c => exact h
  | b => exact h
end

def RE (m : Mode) (t : TE) (p : PX) : Prop := ∀ (z : Zn) (X : AP) (H0 H : Hp) (σ : Sl) (env : List SV) (Q : VK) (k : D → Prop), Ok z X H0 H σ env →
  (∀ d v H', Evo z H H' → Rel m z X H H' σ env v d → k d → Q v H') → p env k → t σ H Q
def RT (t : TT) (p : PTs') : Prop := ∀ (z : Zn) (X : AP) (H0 H : Hp) (σ : Sl) (env : List SV) (Q : Bool → Hp → Prop) (k : Bool → Prop), Ok z X H0 H σ env →
  (∀ b H', Evo z H H' → k b → Q b H') → p env k → t σ H Q
/-- arguments: plain (l = true), or for a look only -/
def RA (l : Bool) (t : TA) (p : PAs) : Prop := ∀ (z : Zn) (X : AP) (H0 H : Hp) (σ : Sl) (env : List SV) (Q : List V → Hp → Prop) (k : List D → Prop), Ok z X H0 H σ env →
  (∀ ds vs H', Evo z H H' → IsA z (if l = true then Ms z X σ env else Zx z X) H' vs ds → k ds → Q vs H') → p env k → t σ H Q
structure E (m : Mode) (C : Cx) (e : Expr) (p : PX) : Prop where
  ex : ∃ t, PE C e t ∧ RE m t p
structure T (C : Cx) (e : Expr) (p : PTs') : Prop where
  ex : ∃ t, PT C e t ∧ RT t p
structure W (C : Cx) (e : Expr) (p : PTs') : Prop where
  ex : ∃ t, PW C e t ∧ RT t p
structure A (l : Bool) (C : Cx) (es : List Expr) (p : PAs) : Prop where
  ex : ∃ t, PA C es t ∧ RA l t p

section
variable {C : Cx} {e a b : Expr} {p q : PX} {m m' : Mode} {pos : Pos}
theorem E.toB (h : E m C e p) : E .b C e p := by
  obtain ⟨t, h1, h2⟩ := h
  exact ⟨t, h1, fun z X H0 H σ env Q k o c hp => h2 z X H0 H σ env Q k o (fun d v H' ev r kd => c d v H' ev (r.toB o) kd) hp⟩
theorem E.fe (h : E .f C e p) : E .e C e p := by
  obtain ⟨t, h1, h2⟩ := h
  exact ⟨t, h1, fun z X H0 H σ env Q k o c hp => h2 z X H0 H σ env Q k o (fun d v H' ev r kd => c d v H' ev (r.fe o) kd) hp⟩
theorem E.ec (h : E .e C e p) : E .c C e p := by
  obtain ⟨t, h1, h2⟩ := h
  exact ⟨t, h1, fun z X H0 H σ env Q k o c hp => h2 z X H0 H σ env Q k o (fun d v H' ev r kd => c d v H' ev r.ec kd) hp⟩

/-! ### names, constants -/
def eC (d : D) : PX := fun _ k => k d
def eV (i : Nat) : PX := fun env k => match env[i]? with
  | some (.val d) => k d
  | _ => False
def eO (i : Nat) : PX := fun env k => match env[i]? with
  | some (.own (.lst xs)) => k (.lst xs)
  | some (.own (.dic xs)) => k (.dic xs)
  | some (.own (.dpr xs)) => k (.dpr xs)
  | some (.own (.st xs)) => k (.st xs)
  | some (.own (.bor xs)) => k (.lst xs)
  | _ => False
theorem re_c {v : V} {d : D} (h : ∀ z M H, Is z M H v d) : RE .e (tC v) (eC d) := fun z X H0 H σ env Q k o c hp => c d v H (Evo.refl _ _) (h _ _ _) hp
theorem e_int {i : Int} {j} : E .e C (.Constant (.int i) j pos) (eC (.int i)) := ⟨_, pe_int, re_c fun _ _ _ => .int i⟩
theorem e_bl {i : Bool} {j} : E .e C (.Constant (.bool i) j pos) (eC (.bl i)) := ⟨_, pe_bl, re_c fun _ _ _ => .bl i⟩
theorem e_non {j} : E .e C (.Constant .none j pos) (eC .non) := ⟨_, pe_non, re_c fun _ _ _ => .non⟩
theorem e_str {i : Str} {j} : E .e C (.Constant (.str i) j pos) (eC (.str i)) := ⟨_, pe_str, re_c fun _ _ _ => .str i⟩
theorem e_gint {x : Str} {i : Int} {t : Tok} (hg : Gl C x) (hm : C.mg x = some (.int i t)) (hd : (x == ("__debug__" : Str)) = false := by decide) : E .e C (.Name x pos) (eC (.int i)) := ⟨_, pe_glob (v := .int i) hg hm ⟨_, rfl⟩ hd, re_c fun _ _ _ => .int i⟩
theorem e_gstr {x : Str} {i : Str} {t : Tok} (hg : Gl C x) (hm : C.mg x = some (.str i t)) (hd : (x == ("__debug__" : Str)) = false := by decide) : E .e C (.Name x pos) (eC (.str i)) := ⟨_, pe_glob (v := .str i) hg hm ⟨_, rfl⟩ hd, re_c fun _ _ _ => .str i⟩
theorem e_ty {x : Str} {n : String} (hg : Gl C x) (hm : C.mg x = none) (hv : bootBuiltins x = some (.type n)) (hn : x ≠ "__name__" := by decide) (hd : (x == ("__debug__" : Str)) = false := by decide) : E .e C (.Name x pos) (eC (.ty n)) :=
  ⟨_, pe_bltn (v := .ty n) hg hm hv rfl hn hd, re_c fun _ _ _ => .ty n⟩
theorem re_v (i : Nat) : RE .e (tVar i) (eV i) := fun z X H0 H σ env Q k o c hp => by
  unfold eV at hp
  split at hp
  · rename_i d he
    obtain ⟨v, h1, h2⟩ := o.val i d he
    exact ⟨v, h1, c d v H (Evo.refl _ _) h2 hp⟩
  · exact hp.elim
theorem re_o (i : Nat) : RE .c (tVar i) (eO i) := fun z X H0 H σ env Q k o c hp => by
  unfold eO at hp
  split at hp
  · rename_i xs he
    obtain ⟨a, h1, h2, h3, h4⟩ := o.own i _ he
    exact ⟨_, h1, c _ _ H (Evo.refl _ _) (.inr ⟨a, rfl, h2, fun q => q.elim h3 h4.1, rfl⟩) hp⟩
  · rename_i xs he
    obtain ⟨a, h1, h2, h3, h4⟩ := o.own i _ he
    exact ⟨_, h1, c _ _ H (Evo.refl _ _) (.inr ⟨a, rfl, h2, fun q => q.elim h3 h4.1, rfl⟩) hp⟩
  · rename_i xs he
    obtain ⟨a, h1, h2, h3, h4⟩ := o.own i _ he
    exact ⟨_, h1, c _ _ H (Evo.refl _ _) (.inr ⟨a, rfl, h2, fun q => q.elim h3 h4.1, rfl⟩) hp⟩
  · rename_i xs he
    obtain ⟨a, h1, h2, h3, h4⟩ := o.own i _ he
    exact ⟨_, h1, c _ _ H (Evo.refl _ _) (.inr ⟨a, rfl, h2, fun q => q.elim h3 h4.1, rfl⟩) hp⟩
  · rename_i xs he
    obtain ⟨a, h1, h2, h3, h4⟩ := o.own i _ he
    exact ⟨_, h1, c (.lst xs) _ H (Evo.refl _ _) (.inr ⟨a, rfl, h2.2, fun q => q.elim h3 h4.1, rfl⟩) hp⟩
  · exact hp.elim
theorem e_v (i : Nat) {x : Str} (hN : C.N[i]? = some x := by rfl) (hv : Vis C.env.scope x := by first | exact Or.inl rfl | exact Or.inr (Or.inl rfl) | exact Or.inr (Or.inr rfl)) (hd : (x == ("__debug__" : Str)) = false := by decide)
    (hcd : (x == ("__classdict__" : Str)) = false := by decide) : E .e C (.Name x pos) (eV i) := ⟨_, pe_var hN hv hd hcd, re_v i⟩
theorem e_o (i : Nat) {x : Str} (hN : C.N[i]? = some x := by rfl) (hv : Vis C.env.scope x := by first | exact Or.inl rfl | exact Or.inr (Or.inl rfl) | exact Or.inr (Or.inr rfl)) (hd : (x == ("__debug__" : Str)) = false := by decide)
    (hcd : (x == ("__classdict__" : Str)) = false := by decide) : E .c C (.Name x pos) (eO i) := ⟨_, pe_var hN hv hd hcd, re_o i⟩

/-! ### operators, by values -/
/-- the pure operation g stands for r: operands of mode mi, the answer of mode mo -/
def OpD (mi mo : Mode) (r : R2) (g : D → D → (D → Prop) → Prop) : Prop := ∀ (z : Zn) (X : AP) (H0 H : Hp) (σ : Sl) (env : List SV) (v u : V) (x y : D) (Q : VK) (k : D → Prop), Ok z X H0 H σ env → Rel mi z X H H σ env v x → Rel mi z X H H σ env u y →
  (∀ d w H', Evo z H H' → Rel mo z X H H' σ env w d → k d → Q w H') → g x y k → r v u H Q
def eOp (g : D → D → (D → Prop) → Prop) (p q : PX) : PX := fun env k => p env fun x => q env fun y => g x y k
theorem RE.op {mi mo : Mode} {r : R2} {g : D → D → (D → Prop) → Prop} {ta tb : TE} (hm : mi ≠ .f) (ho : OpD mi mo r g) (ha : RE mi ta p) (hb : RE mi tb q) : RE mo (tOp r ta tb) (eOp g p q) := fun z X H0 H σ env Q k o c hp => by
  refine ha z X H0 H σ env _ _ o (fun x v H1 e1 r1 hp1 => ?_) hp
  refine hb z X H0 H1 σ env _ _ (o.go e1) (fun y u H2 e2 r2 hp2 => ?_) hp1
  refine ho z X H0 H2 σ env v u x y Q k ((o.go e1).go e2) ((r1.evo o e2 e1).later hm) (r2.later hm) (fun d w H3 e3 r3 kd => ?_) hp2
  exact c d w H3 (e1.trans (e2.trans e3)) (r3.early (e1.trans e2)) kd
theorem e_op {mi mo : Mode} {op : Operator} {r : R2} {g : D → D → (D → Prop) → Prop} (hr : OpR C (binaryOp op) r) (ho : OpD mi mo r g) (ha : E mi C a p) (hb : E mi C b q) (hm : mi ≠ .f := by decide) : E mo C (.BinOp a op b pos) (eOp g p q) := by
  obtain ⟨ta, a1, a2⟩ := ha
  obtain ⟨tb, b1, b2⟩ := hb
  exact ⟨_, pe_op hr a1 b1, RE.op hm ho a2 b2⟩
theorem e_cmp {mi mo : Mode} {op : CmpOp} {r : R2} {g : D → D → (D → Prop) → Prop} (hr : OpR C (compareOp op) r) (ho : OpD mi mo r g) (ha : E mi C a p) (hb : E mi C b q) (hk : behindInMarks op b = false) (hm : mi ≠ .f := by decide) : E mo C (.Compare a [op] [b] pos) (eOp g p q) := by
  obtain ⟨ta, a1, a2⟩ := ha
  obtain ⟨tb, b1, b2⟩ := hb
  exact ⟨_, pe_cmpR hr a1 b1 hk, RE.op hm ho a2 b2⟩
/-- a value that is a truth, as a test -/
def blK (d : D) (k : Bool → Prop) : Prop := match d with
  | .bl b => k b
  | _ => False
def tOf (p : PX) : PTs' := fun env k => p env fun d => blK d k
theorem RT.of {t : TE} (h : RE .b t p) : RT (tTest t) (tOf p) := fun z X H0 H σ env Q k o c hp => by
  refine h z X H0 H σ env _ _ o (fun d v H' e r hd => ?_) hp
  cases d with
  | bl b =>
    cases (show Is z _ H' v (.bl b) from r)
    exact ⟨b, rfl, c b H' e hd⟩
  | _ => exact (show False from hd).elim
theorem t_cmp {mi : Mode} {op : CmpOp} {r : R2} {g : D → D → (D → Prop) → Prop} (hr : OpR C (compareOp op) r) (ho : OpD mi .b r g) (ha : E mi C a p) (hb : E mi C b q) (hk : behindInMarks op b = false) (hm : mi ≠ .f := by decide) : T C (.Compare a [op] [b] pos) (tOf (eOp g p q)) := by
  obtain ⟨ta, a1, a2⟩ := ha
  obtain ⟨tb, b1, b2⟩ := hb
  exact ⟨_, pt_cmpR hr a1 b1 hk, RT.of (RE.op hm ho a2 b2)⟩
theorem t_val (h : E m C e p) (he : ∀ whole, isTrue e C.env whole = (do let v ← whole; standAt e.pos; holding [v] (truthy v)) := by intro _; rfl) : T C e (tOf p) := by
  obtain ⟨t, h1, h2⟩ := h.toB
  exact ⟨_, pt_val h1 he, RT.of h2⟩
/-- a op b op' c -/
def bCase (d : D) (A B : Prop) : Prop := match d with
  | .bl true => A
  | .bl false => B
  | _ => False
def eChain (g g' : D → D → (D → Prop) → Prop) (p q r : PX) : PX := fun env k => p env fun x => q env fun y => g x y fun w => bCase w (r env fun u => g' y u k) (k (.bl false))
theorem RE.chain {s : PX} {r r' : R2} {g g' : D → D → (D → Prop) → Prop} {ta tb tc : TE} (ho : OpD .b .b r g) (ho' : OpD .b .e r' g') (ha : RE .b ta p) (hb : RE .b tb q) (hc : RE .b tc s) : RE .e (tChain r r' ta tb tc) (eChain g g' p q s) := fun z X H0 H σ env Q k o c hp => by
  refine ha z X H0 H σ env _ _ o (fun x v H1 e1 r1 hp1 => ?_) hp
  refine hb z X H0 H1 σ env _ _ (o.go e1) (fun y u H2 e2 r2 hp2 => ?_) hp1
  have o2 := (o.go e1).go e2
  refine ho z X H0 H2 σ env v u x y _ _ o2 ((r1.evo o e2 e1).later (by decide)) (r2.later (by decide)) (fun d w H3 e3 r3 kd => ?_) hp2
  cases d with
  | bl b =>
    cases (show Is z _ H3 w (.bl b) from r3)
    refine ⟨b, rfl, ?_⟩
    cases b with
    | false =>
      rw [if_neg Bool.false_ne_true]
      exact c _ _ H3 (e1.trans (e2.trans e3)) (Is.bl false) kd
    | true =>
      rw [if_pos rfl]
      refine hc z X H0 H3 σ env _ _ (o2.go e3) (fun l w H4 e4 r4 hp4 => ?_) kd
      refine ho' z X H0 H4 σ env u w y l Q k ((o2.go e3).go e4) ((r2.evo (o.go e1) (e3.trans e4) e2).later (by decide)) (r4.later (by decide)) (fun d x H5 e5 r5 kd => ?_) hp4
      exact c d x H5 (e1.trans (e2.trans (e3.trans (e4.trans e5)))) r5 kd
  | _ => exact (show False from kd).elim
theorem e_chain {c : Expr} {s : PX} {op op' : CmpOp} {r r' : R2} {g g' : D → D → (D → Prop) → Prop} (hr : OpR C (compareOp op) r) (hr' : OpR C (compareOp op') r') (ho : OpD .b .b r g) (ho' : OpD .b .e r' g') (ha : E .b C a p) (hb : E .b C b q) (hc : E .b C c s)
    (hm : lastMarks [op, op'] [b, c] = false := by with_unfolding_all rfl) : E .e C (.Compare a [op, op'] [b, c] pos) (eChain g g' p q s) := by
  obtain ⟨ta, a1, a2⟩ := ha
  obtain ⟨tb, b1, b2⟩ := hb
  obtain ⟨tc, c1, c2⟩ := hc
  exact ⟨_, pe_chain hr hr' a1 b1 c1 hm, RE.chain ho ho' a2 b2 c2⟩
theorem t_chain {c : Expr} {s : PX} {op op' : CmpOp} {r r' : R2} {g g' : D → D → (D → Prop) → Prop} (hr : OpR C (compareOp op) r) (hr' : OpR C (compareOp op') r') (ho : OpD .b .b r g) (ho' : OpD .b .e r' g') (ha : E .b C a p) (hb : E .b C b q) (hc : E .b C c s)
    (hm : lastMarks [op, op'] [b, c] = false := by with_unfolding_all rfl) : T C (.Compare a [op, op'] [b, c] pos) (tOf (eChain g g' p q s)) := by
  obtain ⟨ta, a1, a2⟩ := ha
  obtain ⟨tb, b1, b2⟩ := hb
  obtain ⟨tc, c1, c2⟩ := hc
  exact ⟨_, pt_chain hr hr' a1 b1 c1 hm, RT.of (fun z X H0 H σ env Q k o c hp => RE.chain ho ho' a2 b2 c2 z X H0 H σ env Q k o (fun d v H' ev r kd => c d v H' ev r.eb kd) hp)⟩

/-! whole numbers -/
def dII (Cc : Int → Int → Prop) (g : Int → Int → D) : D → D → (D → Prop) → Prop := fun x y k => match x, y with
  | .int i, .int j => Cc i j ∧ k (g i j)
  | _, _ => False
def dI0 (g : Int → Int → D) : D → D → (D → Prop) → Prop := fun x y k => match x, y with
  | .int i, .int j => k (g i j)
  | _, _ => False
theorem Is.intI {z : Zn} {M : AP} {H : Hp} {v : V} {i : Int} (h : Is z M H v (.int i)) : v = .int i := by cases h; rfl
theorem opd_II {Cc : Int → Int → Prop} {g : Int → Int → D} {g' : Int → Int → V} (h : ∀ i j z M H, Is z M H (g' i j) (g i j)) : OpD .b .e (rI Cc g') (dII Cc g) := fun z X H0 H σ env v u x y Q k o r1 r2 c hp => by
  cases x with
  | int i =>
    cases y with
    | int j => exact ⟨i, j, Is.intI r1, Is.intI r2, hp.1, c _ _ H (Evo.refl _ _) (h i j _ _ _) hp.2⟩
    | _ => exact (show False from hp).elim
  | _ => exact (show False from hp).elim
theorem opd_I0 {g : Int → Int → D} {g' : Int → Int → V} (h : ∀ i j z M H, Is z M H (g' i j) (g i j)) : OpD .b .e (rI0 g') (dI0 g) := fun z X H0 H σ env v u x y Q k o r1 r2 c hp => by
  cases x with
  | int i =>
    cases y with
    | int j => exact ⟨i, j, Is.intI r1, Is.intI r2, c _ _ H (Evo.refl _ _) (h i j _ _ _) hp⟩
    | _ => exact (show False from hp).elim
  | _ => exact (show False from hp).elim
theorem OpD.eb {mi : Mode} {r : R2} {g : D → D → (D → Prop) → Prop} (h : OpD mi .e r g) : OpD mi .b r g := fun z X H0 H σ env v u x y Q k o r1 r2 c hp => h z X H0 H σ env v u x y Q k o r1 r2 (fun d w H' e r kd => c d w H' e r.eb kd) hp
abbrev dSub := dI0 fun i j => .int (i - j)
abbrev dMul := dII CMul fun i j => .int (i * j)
abbrev dDiv := dII CDiv fun i j => .int (i / j)
abbrev dMod := dII (fun _ j => 0 < j) fun i j => .int (i % j)
abbrev dPow := dII CPow fun i j => .int (i ^ j.toNat)
abbrev dLt := dI0 fun i j => .bl (decide (i < j))
abbrev dLe := dI0 fun i j => .bl (decide (i ≤ j))
abbrev dGt := dI0 fun i j => .bl (decide (j < i))
abbrev dGe := dI0 fun i j => .bl (decide (j ≤ i))
theorem opd_sub : OpD .b .e (rI0 fun i j => .int (i - j)) dSub := opd_I0 fun i j _ _ _ => .int _
theorem opd_mul : OpD .b .e (rI CMul fun i j => .int (i * j)) dMul := opd_II fun i j _ _ _ => .int _
theorem opd_div : OpD .b .e (rI CDiv fun i j => .int (i / j)) dDiv := opd_II fun i j _ _ _ => .int _
theorem opd_mod : OpD .b .e (rI (fun _ j => 0 < j) fun i j => .int (i % j)) dMod := opd_II fun i j _ _ _ => .int _
theorem opd_pow : OpD .b .e (rI CPow fun i j => .int (i ^ j.toNat)) dPow := opd_II fun i j _ _ _ => .int _
theorem opd_lt : OpD .b .e (rI0 fun i j => .bl (decide (i < j))) dLt := opd_I0 fun i j _ _ _ => .bl _
theorem opd_le : OpD .b .e (rI0 fun i j => .bl (decide (i ≤ j))) dLe := opd_I0 fun i j _ _ _ => .bl _
theorem opd_gt : OpD .b .e (rI0 fun i j => .bl (decide (j < i))) dGt := opd_I0 fun i j _ _ _ => .bl _
theorem opd_ge : OpD .b .e (rI0 fun i j => .bl (decide (j ≤ i))) dGe := opd_I0 fun i j _ _ _ => .bl _
def eUn (g : D → (D → Prop) → Prop) (p : PX) : PX := fun env k => p env fun x => g x k
def dNeg : D → (D → Prop) → Prop := fun x k => match x with
  | .int i => k (.int (-i))
  | _ => False
theorem e_neg (ha : E m C a p) : E .e C (.UnaryOp .USub a pos) (eUn dNeg p) := by
  obtain ⟨t, h1, h2⟩ := ha.toB
  refine ⟨_, pe_un un_neg h1, fun z X H0 H σ env Q k o c hp => h2 z X H0 H σ env _ _ o (fun d v H' e r hd => ?_) hp⟩
  cases d with
  | int i => exact ⟨i, Is.intI r, c _ _ H' e (Is.int _) hd⟩
  | _ => exact (show False from hd).elim
end

/-! + -/
/-- of two rules one -/
theorem opr_or {C : Cx} {f : Value → Value → Sem Value} {r r' : R2} (h : OpR C f r) (h' : OpR C f r') : OpR C f (fun x y H Q => r x y H Q ∨ r' x y H Q) := fun pins s σ H x y v u Q I rx ry q => q.elim (h pins s σ H x y v u Q I rx ry) (h' pins s σ H x y v u Q I rx ry)
def rAddA (K : PySem.W.Frag) : R2 := fun x y H Q => (rI0 fun i j => .int (i + j)) x y H Q ∨ (rCatA K x y H Q ∨ (rCat x y H Q ∨ (∃ i j, x = .str i ∧ y = .str j ∧ i.length + j.length ≤ sizeLine ∧ Q (.str (i ++ j)) H)))
theorem op_addA {C : Cx} : OpR C (binaryOp .Add) (rAddA C.K) := opr_or op_add (opr_or op_catA (opr_or op_cat op_add_str))
def dAdd : D → D → (D → Prop) → Prop := fun x y k => match x, y with
  | .int i, .int j => k (.int (i + j))
  | .tup xs, .tup ys => xs.length + ys.length ≤ 100000 ∧ k (.tup (xs ++ ys))
  | .lst xs, .lst ys => xs.length + ys.length ≤ 100000 ∧ k (.lst (xs ++ ys))
  | .str xs, .str ys => xs.length + ys.length ≤ 100000 ∧ k (.str (xs ++ ys))
  | _, _ => False
theorem sz {n : Nat} (h : n ≤ 100000) : n ≤ sizeLine := Nat.le_trans h (by decide)
section
variable {z : Zn} {X : AP} {H0 H H1 H' : Hp} {σ : Sl} {env : List SV} {v : V} {d : D} {m : Mode} {M : AP}
theorem Rel.conT {xs : List D} (h : Rel .c z X H H' σ env v (.tup xs)) : ∃ a vs, v = .ref a ∧ H' a = some (.tup vs) ∧ IsA z (Ms z X σ env) H' vs xs ∧ ¬ Ms z X σ env a := by
  rcases h with h | ⟨a, rfl, ⟨vs, e, r⟩, n, md⟩
  · cases h with
    | tup e n r => exact ⟨_, _, rfl, e, r, n⟩
  · cases md
theorem Rel.conL {xs : List D} (h : Rel .c z X H H' σ env v (.lst xs)) : ∃ a vs, v = .ref a ∧ H' a = some (.lst vs) ∧ IsA z (Ms z X σ env) H' vs xs ∧ ¬ Zx z X a := by
  rcases h with h | ⟨a, rfl, ⟨vs, e, r⟩, n, md⟩
  · cases h with
    | lst e n r => exact ⟨_, _, rfl, e, r, fun q => n q.ms⟩
  · exact ⟨a, vs, rfl, e, r, n⟩
theorem Rel.strC {s : Str} (h : Rel .c z X H H' σ env v (.str s)) : v = .str s := by
  rcases h with h | ⟨a, _, hc, _⟩
  · cases h; rfl
  · exact hc.elim
theorem Rel.intC {s : Int} (h : Rel .c z X H H' σ env v (.int s)) : v = .int s := by
  rcases h with h | ⟨a, _, hc, _⟩
  · cases h; rfl
  · exact hc.elim
/-- parts of something that stood ahead of a new thing at a -/
theorem IsA.newer {a : Addr} {o : HO} {vs : List V} {ds : List D} (ha : H a = none) (h : IsA z (Ms z X σ env) H vs ds) : IsA z (Ms z (X.or a) σ env) (upd H a o) vs ds :=
  h.gen (fun b u q n => ⟨by rw [upd_ne (ne_of_none q ha)]; exact q, fun x => by
    rcases x with x | (x | x) | x
    · exact n (.inl x)
    · exact n (.inr (.inl x))
    · rw [x, ha] at q; cases q
    · exact n (.inr (.inr x))⟩) fun _ h => ok_new ha h
theorem Rel.newL {a : Addr} {vs : List V} {ds : List D} (hn : H a = none) (ha : H' a = none) (h : IsA z (Ms z X σ env) H' vs ds) : Rel .f z X H (upd H' a (.lst vs)) σ env (.ref a) (.lst ds) :=
  ⟨a, rfl, hn, vs, upd_same, h.newer ha⟩
theorem Rel.newT {a : Addr} {vs : List V} {ds : List D} (hn : H a = none) (ha : H' a = none) (h : IsA z (Ms z X σ env) H' vs ds) : Rel .f z X H (upd H' a (.tup vs)) σ env (.ref a) (.tup ds) :=
  ⟨a, rfl, hn, vs, upd_same, h.newer ha⟩
end
theorem opd_add {K : PySem.W.Frag} : OpD .c .e (rAddA K) dAdd := fun z X H0 H σ env v u x y Q k o r1 r2 c hp => by
  cases x with
  | int i =>
    cases y with
    | int j => exact .inl ⟨i, j, r1.intC, r2.intC, c _ _ H (Evo.refl _ _) (Is.int _) hp⟩
    | _ => exact (show False from hp).elim
  | str i =>
    cases y with
    | str j => exact .inr (.inr (.inr ⟨i, j, r1.strC, r2.strC, sz hp.1, c _ _ H (Evo.refl _ _) (Is.str _) hp.2⟩))
    | _ => exact (show False from hp).elim
  | tup xs =>
    cases y with
    | tup ys =>
      obtain ⟨a, vs, e1, h1, i1, n1⟩ := r1.conT
      obtain ⟨b, us, e2, h2, i2, n2⟩ := r2.conT
      subst e1 e2
      have l1 := i1.length
      have l2 := i2.length
      refine .inr (.inl ⟨a, b, vs, us, rfl, rfl, SqT.of h1, SqT.of h2, sz (by rw [l1, l2]; exact hp.1), fun e => ?_, fun e1 e => ?_, fun e1 e2 q hq => ?_⟩)
      · subst e
        cases i1
        exact c _ _ H (Evo.refl _ _) (Is.tup h2 n2 i2) hp.2
      · subst e
        cases i2
        have hp2 := hp.2
        rw [List.append_nil] at hp2
        exact c _ _ H (Evo.refl _ _) (Is.tup h1 n1 i1) hp2
      · exact c _ _ _ ((Evo.refl _ _).new hq) ((Rel.newT hq hq (i1.append i2)).fe o) hp.2
    | _ => exact (show False from hp).elim
  | lst xs =>
    cases y with
    | lst ys =>
      obtain ⟨a, vs, e1, h1, i1, n1⟩ := r1.conL
      obtain ⟨b, us, e2, h2, i2, n2⟩ := r2.conL
      subst e1 e2
      refine .inr (.inr (.inl ⟨a, b, vs, us, rfl, rfl, h1, h2, sz (by rw [i1.length, i2.length]; exact hp.1), fun q hq => ?_⟩))
      exact c _ _ _ ((Evo.refl _ _).new hq) ((Rel.newL hq hq (i1.append i2)).fe o) hp.2
    | _ => exact (show False from hp).elim
  | _ => exact (show False from hp).elim
end Pu

namespace Pu
open PySem PySem.Spec PyProof.Rows L2
variable [Tbs]
section
variable {C : Cx} {e a b : Expr} {p q : PX} {m m' : Mode} {pos : Pos}

/-! ### ==, in, is -/
def EqV (x y : D) (c : Bool) : Prop := shp 60 x = true ∧ shp 60 y = true ∧ eqvD x y = c
def dEq : D → D → (D → Prop) → Prop := fun x y k => ∃ c, EqV x y c ∧ k (.bl c)
def dNe : D → D → (D → Prop) → Prop := fun x y k => ∃ c, EqV x y c ∧ k (.bl (!c))
theorem opd_eq {K : PySem.W.Frag} : OpD .b .e (rEqD K) dEq := fun z X H0 H σ env v u x y Q k o r1 r2 c hp => by
  obtain ⟨b, ⟨h1, h2, h3⟩, hk⟩ := hp
  exact ⟨_, _, Is.dp r1 h1, Is.dp r2 h2, shaped_of h1, shaped_of h2, by rw [show PyData.eqv (pd x) (pd y) = b from h3]; exact c _ _ H (Evo.refl _ _) (Is.bl _) hk⟩
theorem opd_ne {K : PySem.W.Frag} : OpD .b .e (rNeD K) dNe := fun z X H0 H σ env v u x y Q k o r1 r2 c hp => by
  obtain ⟨b, ⟨h1, h2, h3⟩, hk⟩ := hp
  exact ⟨_, _, Is.dp r1 h1, Is.dp r2 h2, shaped_of h1, shaped_of h2, by rw [show PyData.eqv (pd x) (pd y) = b from h3]; exact c _ _ H (Evo.refl _ _) (Is.bl _) hk⟩
/-- is None; truths -/
def isD (x y : D) : Option Bool := match x, y with
  | .non, .non => some true
  | .bl a, .bl b => some (decide (a = b))
  | _, .non => some false
  | _, _ => none
def dIs (neg : Bool) : D → D → (D → Prop) → Prop := fun x y k => match x, y with
  | .non, .non => k (.bl (neg ^^ true))
  | .bl a, .bl b => k (.bl (neg ^^ decide (a = b)))
  | _, .non => k (.bl neg)
  | _, _ => False
def rIsA : R2 := fun x y H Q => (y = .non ∧ Q (.bl (decide (x = .non))) H) ∨ (∃ a b, x = .bl a ∧ y = .bl b ∧ Q (.bl (decide (a = b))) H)
def rIsNA : R2 := fun x y H Q => (y = .non ∧ Q (.bl (!decide (x = .non))) H) ∨ (∃ a b, x = .bl a ∧ y = .bl b ∧ Q (.bl (!decide (a = b))) H)
theorem op_isA : OpR C (compareOp .Is) rIsA := opr_or op_isN op_is_bl
theorem op_isNA : OpR C (compareOp .IsNot) rIsNA := opr_or op_notN op_isnot_bl
theorem Is.notNon {z : Zn} {M : AP} {H : Hp} {v : V} {d : D} (h : Is z M H v d) (hd : d ≠ .non) : v ≠ .non := by
  cases h <;> first | exact absurd rfl hd | (intro q; cases q)
theorem opd_is : OpD .b .e rIsA (dIs false) := fun z X H0 H σ env v u x y Q k o r1 r2 c hp => by
  cases y with
  | non =>
    cases (show Is z _ H u .non from r2)
    refine .inl ⟨rfl, ?_⟩
    by_cases hx : x = .non
    · subst hx
      cases (show Is z _ H v .non from r1)
      exact c _ _ H (Evo.refl _ _) (Is.bl _) hp
    · rw [decide_eq_false (Is.notNon r1 hx)]
      refine c (.bl false) _ H (Evo.refl _ _) (Is.bl _) ?_
      cases x <;> first | exact absurd rfl hx | exact hp
  | bl b =>
    cases x with
    | bl a =>
      cases (show Is z _ H u _ from r2)
      cases (show Is z _ H v _ from r1)
      exact .inr ⟨a, b, rfl, rfl, c _ _ H (Evo.refl _ _) (Is.bl _) (by simpa [dIs] using hp)⟩
    | _ => exact (show False from hp).elim
  | _ => cases x <;> exact (show False from hp).elim
theorem opd_isN : OpD .b .e rIsNA (dIs true) := fun z X H0 H σ env v u x y Q k o r1 r2 c hp => by
  cases y with
  | non =>
    cases (show Is z _ H u .non from r2)
    refine .inl ⟨rfl, ?_⟩
    by_cases hx : x = .non
    · subst hx
      cases (show Is z _ H v .non from r1)
      exact c _ _ H (Evo.refl _ _) (Is.bl _) hp
    · rw [decide_eq_false (Is.notNon r1 hx)]
      refine c (.bl true) _ H (Evo.refl _ _) (Is.bl _) ?_
      cases x <;> first | exact absurd rfl hx | exact hp
  | bl b =>
    cases x with
    | bl a =>
      cases (show Is z _ H u _ from r2)
      cases (show Is z _ H v _ from r1)
      exact .inr ⟨a, b, rfl, rfl, c _ _ H (Evo.refl _ _) (Is.bl _) (by simpa [dIs] using hp)⟩
    | _ => exact (show False from hp).elim
  | _ => cases x <;> exact (show False from hp).elim
/-- a number among numbers -/
def intsD : List D → Option (List Int)
  | [] => some []
  | .int i :: r => (intsD r).map (i :: ·)
  | _ => none
theorem intsD_eq : ∀ {ds : List D} {ns : List Int}, intsD ds = some ns → ds = ns.map D.int
  | [], _, h => by cases h; rfl
  | .int i :: r, ns, h => by
    unfold intsD at h
    cases e : intsD r with
    | none => rw [e] at h; cases h
    | some z => rw [e] at h; cases h; rw [intsD_eq e]; rfl
  | .non :: _, _, h => by cases h
  | .bl _ :: _, _, h => by cases h
  | .str _ :: _, _, h => by cases h
  | .ty _ :: _, _, h => by cases h
  | .tup _ :: _, _, h => by cases h
  | .lst _ :: _, _, h => by cases h
  | .dic _ :: _, _, h => by cases h
  | .deck _ :: _, _, h => by cases h
  | .dpr _ :: _, _, h => by cases h
  | .dfz _ :: _, _, h => by cases h
  | .st _ :: _, _, h => by cases h
  | .bor _ :: _, _, h => by cases h
theorem intsD_map : ∀ ns : List Int, intsD (ns.map D.int) = some ns
  | [] => rfl
  | n :: ns => by show (intsD (ns.map D.int)).map (n :: ·) = _; rw [intsD_map ns]; rfl
theorem inI {x : Int} {xs : List Int} : inV (.int x) (xs.map V.int) = decide (x ∈ xs) := by
  induction xs with
  | nil => rfl
  | cons y r ih =>
    have e : inV (.int x) ((y :: r).map V.int) = (eqV (.int y) (.int x) || inV (.int x) (r.map V.int)) := rfl
    rw [e, ih]
    have e2 : eqV (.int y) (.int x) = decide (y = x) := by
      show (y == x) = _
      by_cases h : y = x
      · simp [h]
      · simp [h]
    rw [e2]
    by_cases h : y = x
    · simp [h]
    · have h' : ¬ x = y := fun e => h e.symm
      simp [h, h']
def seqD : D → Option (List D)
  | .tup xs => some xs
  | .lst xs => some xs
  | _ => none
def dIn (neg : Bool) : D → D → (D → Prop) → Prop := fun x y k => ∃ i ds ns, x = .int i ∧ seqD y = some ds ∧ intsD ds = some ns ∧ k (.bl (if neg then !decide (i ∈ ns) else decide (i ∈ ns)))
theorem flatInts : ∀ ns : List Int, (ns.map V.int).all flatV = true
  | [] => rfl
  | n :: ns => by simp only [List.map_cons, List.all_cons, flatInts ns, Bool.and_true]; rfl
theorem opd_in {K : PySem.W.Frag} {neg : Bool} : OpD .b .e (rIn K neg) (dIn neg) := fun z X H0 H σ env v u x y Q k o r1 r2 c hp => by
  obtain ⟨i, ds, ns, rfl, hs, hi, hk⟩ := hp
  cases Is.intI r1
  cases intsD_eq hi
  have fin : ∀ vs : List V, IsA z (Zx z X) H vs (ns.map D.int) → Q (.bl (if neg then !inV (.int i) vs else inV (.int i) vs)) H := fun vs h => by
    rw [h.ints, inI]
    exact c _ _ H (Evo.refl _ _) (Is.bl _) hk
  cases y with
  | tup xs =>
    cases hs
    cases (show Is z _ H u _ from r2) with
    | tup e n r => exact ⟨_, _, rfl, .inr (SqT.of e), rfl, by rw [r.ints]; exact flatInts ns, fin _ r⟩
  | lst xs =>
    cases hs
    cases (show Is z _ H u _ from r2) with
    | lst e n r => exact ⟨_, _, rfl, .inl (SqL.of e), rfl, by rw [r.ints]; exact flatInts ns, fin _ r⟩
  | _ => cases hs

/-! ### tests, and, or, not, if -/
variable {s t : PTs'} {rest : List Expr}
def tAndP (s t : PTs') : PTs' := fun env k => s env fun x => if x = true then t env k else k false
def tOrP (s t : PTs') : PTs' := fun env k => s env fun x => if x = true then k true else t env k
def tNotP (s : PTs') : PTs' := fun env k => s env fun x => k (!x)
theorem w_t (h : W C e s) : T C e s := let ⟨t, h1, h2⟩ := h; ⟨t, h1.pt, h2⟩
theorem w_and1 (h : T C a s) : W C (.BoolOp .And [a] pos) s := let ⟨t, h1, h2⟩ := h; ⟨t, pw_and1 h1, h2⟩
theorem w_or1 (h : T C a s) : W C (.BoolOp .Or [a] pos) s := let ⟨t, h1, h2⟩ := h; ⟨t, pw_or1 h1, h2⟩
theorem w_and (h : T C a s) (g : W C (.BoolOp .And (b :: rest) pos) t) : W C (.BoolOp .And (a :: b :: rest) pos) (tAndP s t) := by
  obtain ⟨t1, h1, h2⟩ := h
  obtain ⟨t2, g1, g2⟩ := g
  refine ⟨_, pw_and h1 g1, fun z X H0 H σ env Q k o c hp => h2 z X H0 H σ env _ _ o (fun x H1 e1 hx => ?_) hp⟩
  cases x with
  | true => exact g2 z X H0 H1 σ env Q k (o.go e1) (fun y H2 e2 hy => c y H2 (e1.trans e2) hy) hx
  | false => exact c false H1 e1 hx
theorem w_or (h : T C a s) (g : W C (.BoolOp .Or (b :: rest) pos) t) : W C (.BoolOp .Or (a :: b :: rest) pos) (tOrP s t) := by
  obtain ⟨t1, h1, h2⟩ := h
  obtain ⟨t2, g1, g2⟩ := g
  refine ⟨_, pw_or h1 g1, fun z X H0 H σ env Q k o c hp => h2 z X H0 H σ env _ _ o (fun x H1 e1 hx => ?_) hp⟩
  cases x with
  | false => exact g2 z X H0 H1 σ env Q k (o.go e1) (fun y H2 e2 hy => c y H2 (e1.trans e2) hy) hx
  | true => exact c true H1 e1 hx
theorem t_not (h : T C a s) : T C (.UnaryOp .Not a pos) (tNotP s) := by
  obtain ⟨t1, h1, h2⟩ := h
  exact ⟨_, pt_not h1, fun z X H0 H σ env Q k o c hp => h2 z X H0 H σ env _ _ o (fun x H1 e1 hx => c _ H1 e1 hx) hp⟩
/-- values -/
def eAnd (p q : PX) : PX := fun env k => p env fun x => bCase x (q env k) (k (.bl false))
def eOr (p q : PX) : PX := fun env k => p env fun x => bCase x (k (.bl true)) (q env k)
def dNot : D → (D → Prop) → Prop := fun x k => match x with
  | .bl c => k (.bl (!c))
  | _ => False
theorem e_one {op} (h : E m C a p) : E m C (.BoolOp op [a] pos) p := let ⟨t, h1, h2⟩ := h; ⟨t, pe_one h1, h2⟩
theorem e_and (h : E m C a p) (g : E .e C (.BoolOp .And (b :: rest) pos) q) : E .e C (.BoolOp .And (a :: b :: rest) pos) (eAnd p q) := by
  obtain ⟨t1, h1, h2⟩ := h.toB
  obtain ⟨t2, g1, g2⟩ := g
  refine ⟨_, pe_and h1 g1, fun z X H0 H σ env Q k o c hp => h2 z X H0 H σ env _ _ o (fun d v H1 e1 r1 hx => ?_) hp⟩
  cases d with
  | bl x =>
    cases (show Is z _ H1 v _ from r1)
    refine ⟨x, rfl, ?_⟩
    cases x with
    | true => rw [if_pos rfl]; exact g2 z X H0 H1 σ env Q k (o.go e1) (fun d v H2 e2 r2 hy => c d v H2 (e1.trans e2) r2 hy) hx
    | false => rw [if_neg Bool.false_ne_true]; exact c _ _ H1 e1 (Is.bl _) hx
  | _ => exact (show False from hx).elim
theorem e_or (h : E m C a p) (g : E .e C (.BoolOp .Or (b :: rest) pos) q) : E .e C (.BoolOp .Or (a :: b :: rest) pos) (eOr p q) := by
  obtain ⟨t1, h1, h2⟩ := h.toB
  obtain ⟨t2, g1, g2⟩ := g
  refine ⟨_, pe_or h1 g1, fun z X H0 H σ env Q k o c hp => h2 z X H0 H σ env _ _ o (fun d v H1 e1 r1 hx => ?_) hp⟩
  cases d with
  | bl x =>
    cases (show Is z _ H1 v _ from r1)
    refine ⟨x, rfl, ?_⟩
    cases x with
    | false => rw [if_neg Bool.false_ne_true]; exact g2 z X H0 H1 σ env Q k (o.go e1) (fun d v H2 e2 r2 hy => c d v H2 (e1.trans e2) r2 hy) hx
    | true => rw [if_pos rfl]; exact c _ _ H1 e1 (Is.bl _) hx
  | _ => exact (show False from hx).elim
theorem e_not (h : E m C a p) : E .e C (.UnaryOp .Not a pos) (eUn dNot p) := by
  obtain ⟨t1, h1, h2⟩ := h.toB
  refine ⟨_, pe_not h1, fun z X H0 H σ env Q k o c hp => h2 z X H0 H σ env _ _ o (fun d v H1 e1 r1 hx => ?_) hp⟩
  cases d with
  | bl x =>
    cases (show Is z _ H1 v _ from r1)
    exact ⟨x, rfl, c _ _ H1 e1 (Is.bl _) hx⟩
  | _ => exact (show False from hx).elim
def eIf (s : PTs') (p q : PX) : PX := fun env k => s env fun x => if x = true then p env k else q env k
theorem e_if {c : Expr} (h : T C c s) (ha : E .e C a p) (hb : E .e C b q) : E .e C (.IfExp c a b pos) (eIf s p q) := by
  obtain ⟨t, h1, h2⟩ := h
  obtain ⟨ta, a1, a2⟩ := ha
  obtain ⟨tb, b1, b2⟩ := hb
  refine ⟨_, pe_ifExp h1 a1 b1, fun z X H0 H σ env Q k o c hp => h2 z X H0 H σ env _ _ o (fun x H1 e1 hx => ?_) hp⟩
  cases x with
  | true => exact a2 z X H0 H1 σ env Q k (o.go e1) (fun d v H2 e2 r2 hy => c d v H2 (e1.trans e2) r2 hy) hx
  | false => exact b2 z X H0 H1 σ env Q k (o.go e1) (fun d v H2 e2 r2 hy => c d v H2 (e1.trans e2) r2 hy) hx
/-- truth of any value -/
def truD : D → Option Bool
  | .non => some false
  | .bl b => some b
  | .int i => some (i != 0)
  | .tup xs => some (!xs.isEmpty)
  | .lst xs => some (!xs.isEmpty)
  | _ => none
def tTru (p : PX) : PTs' := fun env k => p env fun d => ∃ b, truD d = some b ∧ k b
theorem IsA.isEmpty {z : Zn} {M : AP} {H : Hp} {vs : List V} {ds : List D} (h : IsA z M H vs ds) : ds.isEmpty = vs.isEmpty := by cases h <;> rfl
theorem t_tru (h : E m C e p) (he : ∀ whole, isTrue e C.env whole = (do let v ← whole; standAt e.pos; holding [v] (truthy v)) := by intro _; rfl) : T C e (tTru p) := by
  obtain ⟨t, h1, h2⟩ := h.toB
  refine ⟨_, pt_truth h1 he, fun z X H0 H σ env Q k o c hp => h2 z X H0 H σ env _ _ o (fun d v H1 e1 r1 hx => ?_) hp⟩
  obtain ⟨b, hb, hk⟩ := hx
  refine ⟨b, ?_, c b H1 e1 hk⟩
  cases (show Is z _ H1 v d from r1) with
  | non => cases hb; rfl
  | bl b => cases hb; rfl
  | int i => cases hb; rfl
  | tup e n r => cases hb; exact .inr (.inl ⟨_, SqT.of e, by rw [r.isEmpty]⟩)
  | lst e n r => cases hb; exact .inl ⟨_, SqL.of e, by rw [r.isEmpty]⟩
  | _ => cases hb

/-! ### arguments, displays -/
variable {es : List Expr} {l : Bool} {g : PAs}
def lm : Bool → Mode
  | true => .e
  | false => .b
def aNil : PAs := fun _ k => k []
def aCons (p : PX) (g : PAs) : PAs := fun env k => p env fun x => g env fun xs => k (x :: xs)
theorem a_nil : A l C [] aNil := ⟨_, pa_nil, fun z X H0 H σ env Q k o c hp => c [] [] H (Evo.refl _ _) .nil hp⟩
theorem a_cons (h : E (lm l) C e p) (hr : A l C es g) (hs : starEach (e :: es) C.env = (false, eval e C.env) :: starEach es C.env := by rfl) : A l C (e :: es) (aCons p g) := by
  obtain ⟨t, h1, h2⟩ := h
  obtain ⟨u, g1, g2⟩ := hr
  refine ⟨_, pa_cons h1 g1 hs, fun z X H0 H σ env Q k o c hp => h2 z X H0 H σ env _ _ o (fun d v H1 e1 r1 hx => ?_) hp⟩
  refine g2 z X H0 H1 σ env _ _ (o.go e1) (fun ds vs H2 e2 r2 hy => c (d :: ds) (v :: vs) H2 (e1.trans e2) (.cons ?_ r2) hy) hx
  cases l with
  | true => exact Is.evo (fun _ q => .inl q) e2 r1
  | false => exact Is.evo (fun _ q => .inl q) e2 r1
def eTup (g : PAs) : PX := fun env k => g env fun xs => xs.length ≤ 100000 ∧ k (.tup xs)
def eLst (g : PAs) : PX := fun env k => g env fun xs => xs.length ≤ 100000 ∧ k (.lst xs)
theorem e_tup {x1} (h : A true C es g) : E .e C (.Tuple es x1 pos) (eTup g) := by
  obtain ⟨t, h1, h2⟩ := h
  refine ⟨_, pe_tup h1, fun z X H0 H σ env Q k o c hp => h2 z X H0 H σ env _ _ o (fun ds vs H1 e1 r1 hx => ⟨by rw [r1.length]; exact sz hx.1, fun q hq => ?_⟩) hp⟩
  exact c _ _ _ (e1.new hq) ((Rel.newT (e1.fresh hq) hq r1).fe o) hx.2
theorem e_lst (h : A true C es g) : E .f C (.List es pos) (eLst g) := by
  obtain ⟨t, h1, h2⟩ := h
  refine ⟨_, pe_lst h1, fun z X H0 H σ env Q k o c hp => h2 z X H0 H σ env _ _ o (fun ds vs H1 e1 r1 hx => ⟨by rw [r1.length]; exact sz hx.1, fun q hq => ?_⟩) hp⟩
  exact c _ _ _ (e1.new hq) (Rel.newL (e1.fresh hq) hq r1) hx.2
/-- for a look -/
theorem e_tupB {x1} (h : A false C es g) : E .b C (.Tuple es x1 pos) (eTup g) := by
  obtain ⟨t, h1, h2⟩ := h
  refine ⟨_, pe_tup h1, fun z X H0 H σ env Q k o c hp => h2 z X H0 H σ env _ _ o (fun ds vs H1 e1 r1 hx => ⟨by rw [r1.length]; exact sz hx.1, fun q hq => ?_⟩) hp⟩
  exact c _ _ _ (e1.new hq) (Is.tup upd_same (fun hz => (o.go e1).notMs hq hz.ms) (IsA.new hq r1)) hx.2
theorem e_lstB (h : A false C es g) : E .b C (.List es pos) (eLst g) := by
  obtain ⟨t, h1, h2⟩ := h
  refine ⟨_, pe_lst h1, fun z X H0 H σ env Q k o c hp => h2 z X H0 H σ env _ _ o (fun ds vs H1 e1 r1 hx => ⟨by rw [r1.length]; exact sz hx.1, fun q hq => ?_⟩) hp⟩
  exact c _ _ _ (e1.new hq) (Is.lst upd_same (fun hz => (o.go e1).notMs hq hz.ms) (IsA.new hq r1)) hx.2

/-! ### x[i], x[i:j] -/
def dIx : D → D → (D → Prop) → Prop := fun x y k => match x, y with
  | .tup xs, .int i => ∃ d, atI xs i = some d ∧ k d
  | .lst xs, .int i => ∃ d, atI xs i = some d ∧ k d
  | .str s, .int i => ∃ c, s.length ≤ 100000 ∧ atI s.cps.toList i = some c ∧ k (.str ⟨#[c]⟩)
  | _, _ => False
theorem IsA.atI {z : Zn} {M : AP} {H : Hp} {vs : List V} {ds : List D} {i : Int} {d : D} (h : IsA z M H vs ds) (e : L2.atI ds i = some d) : ∃ v, L2.atI vs i = some v ∧ Is z M H v d := by
  unfold L2.atI at e ⊢
  rw [h.length]
  cases q : ixN ds.length i with
  | none => rw [q] at e; cases e
  | some j =>
    rw [q] at e
    obtain ⟨v, h1, h2⟩ := h.get (i := j) e
    exact ⟨v, h1, h2⟩
theorem opd_ix {K : PySem.W.Frag} : OpD .c .e (rIx K) dIx := fun z X H0 H σ env v u x y Q k o r1 r2 c hp => by
  cases x with
  | tup xs =>
    cases y with
    | int i =>
      obtain ⟨d, hd, hk⟩ := hp
      obtain ⟨a, vs, rfl, h1, h2, _⟩ := r1.conT
      obtain ⟨w, h3, h4⟩ := h2.atI hd
      exact .inr (.inl ⟨a, vs, i, w, rfl, r2.intC, SqT.of h1, h3, c d w H (Evo.refl _ _) h4 hk⟩)
    | _ => exact (show False from hp).elim
  | lst xs =>
    cases y with
    | int i =>
      obtain ⟨d, hd, hk⟩ := hp
      obtain ⟨a, vs, rfl, h1, h2, _⟩ := r1.conL
      obtain ⟨w, h3, h4⟩ := h2.atI hd
      exact .inl ⟨a, vs, i, w, rfl, r2.intC, SqL.of h1, h3, c d w H (Evo.refl _ _) h4 hk⟩
    | _ => exact (show False from hp).elim
  | str s =>
    cases y with
    | int i =>
      obtain ⟨d, hl, hd, hk⟩ := hp
      exact .inr (.inr ⟨s, i, d, r1.strC, r2.intC, sz hl, hd, c _ _ H (Evo.refl _ _) (Is.str _) hk⟩)
    | _ => exact (show False from hp).elim
  | _ => exact (show False from hp).elim
theorem e_ix (ha : E .c C a p) (hb : E .c C b q) (hs : PlainIx b := by exact fun _ _ => rfl) : E .e C (.Subscript a b pos) (eOp dIx p q) := by
  obtain ⟨ta, a1, a2⟩ := ha
  obtain ⟨tb, b1, b2⟩ := hb
  exact ⟨_, pe_ix (r := rIx C.K) ix_seq a1 b1 hs, RE.op (by decide) opd_ix a2 b2⟩
def cutD (xs : List D) (lo hi : Option Int) : List D := (xs.drop (HT.sIx xs.length 0 lo)).take (HT.sIx xs.length xs.length hi - HT.sIx xs.length 0 lo)
theorem IsA.cut {z : Zn} {M : AP} {H : Hp} {vs : List V} {ds : List D} {lo hi : Option Int} (h : IsA z M H vs ds) : IsA z M H (cutV vs lo hi) (cutD ds lo hi) := by
  unfold cutV cutD
  rw [h.length]
  exact (h.drop _).take _
theorem cut_whole {α : Type} {xs : List α} {lo hi : Option Int} (h : HT.sIx xs.length 0 lo = 0 ∧ HT.sIx xs.length xs.length hi = xs.length) : (xs.drop (HT.sIx xs.length 0 lo)).take (HT.sIx xs.length xs.length hi - HT.sIx xs.length 0 lo) = xs := by
  rw [h.1, h.2]; simp
def dSl : D → Option Int → Option Int → (D → Prop) → Prop := fun x lo hi k => match x with
  | .tup xs => k (.tup (cutD xs lo hi))
  | .lst xs => k (.lst (cutD xs lo hi))
  | _ => False
def rSlQ (K : PySem.W.Frag) : V → Option Int → Option Int → Hp → VK → Prop := fun x lo hi H Q => rSlA K x lo hi H Q ∨ rSlL K x lo hi H Q
theorem sl_seq : SlR C (rSlQ C.K) := fun pins s σ H x v vl vu lo hi sl Q I rx hs pl pu h => h.elim (sl_tupA pins s σ H x v vl vu lo hi sl Q I rx hs pl pu) (sl_list pins s σ H x v vl vu lo hi sl Q I rx hs pl pu)
abbrev PO' := List SV → (Option Int → Prop) → Prop
def RO (t : TO) (p : PO') : Prop := ∀ (z : Zn) (X : AP) (H0 H : Hp) (σ : Sl) (env : List SV) (Q : Option Int → Hp → Prop) (k : Option Int → Prop), Ok z X H0 H σ env →
  (∀ b H', Evo z H H' → k b → Q b H') → p env k → t σ H Q
structure O (C : Cx) (e : Option Expr) (p : PO') : Prop where
  ex : ∃ t, PO C e t ∧ RO t p
def oNo : PO' := fun _ k => k none
def inK (d : D) (k : Int → Prop) : Prop := match d with
  | .int i => k i
  | _ => False
def oPart (p : PX) : PO' := fun env k => p env fun d => inK d fun i => k (some i)
theorem o_none : O C none oNo := ⟨_, po_none, fun z X H0 H σ env Q k o c hp => c none H (Evo.refl _ _) hp⟩
theorem o_some (h : E m C e p) : O C (some e) (oPart p) := by
  obtain ⟨t, h1, h2⟩ := h.toB
  refine ⟨_, po_some h1, fun z X H0 H σ env Q k o c hp => h2 z X H0 H σ env _ _ o (fun d v H1 e1 r1 hx => ?_) hp⟩
  cases d with
  | int i => exact ⟨i, Is.intI r1, c _ H1 e1 hx⟩
  | _ => exact (show False from hx).elim
def eSl (p : PX) (lo hi : PO') : PX := fun env k => p env fun x => lo env fun i => hi env fun j => dSl x i j k
theorem e_slice {lo hi : Option Expr} {pl ph : PO'} {p2 : Pos} (h : E .c C e p) (hl : O C lo pl) (hh : O C hi ph) : E .e C (.Subscript e (.Slice lo hi none p2) pos) (eSl p pl ph) := by
  obtain ⟨t, h1, h2⟩ := h
  obtain ⟨tl, l1, l2⟩ := hl
  obtain ⟨th, g1, g2⟩ := hh
  refine ⟨_, pe_slice (r := rSlQ C.K) sl_seq h1 l1 g1, fun z X H0 H σ env Q k o c hp => h2 z X H0 H σ env _ _ o (fun d v H1 e1 r1 hx => ?_) hp⟩
  refine l2 z X H0 H1 σ env _ _ (o.go e1) (fun i H2 e2 hx => ?_) hx
  refine g2 z X H0 H2 σ env _ _ ((o.go e1).go e2) (fun j H3 e3 hx => ?_) hx
  have r3 := r1.evo o (e2.trans e3) e1
  have ev := e1.trans (e2.trans e3)
  cases d with
  | tup xs =>
    obtain ⟨a, vs, rfl, q1, q2, n⟩ := r3.conT
    refine .inl ⟨a, vs, rfl, SqT.of q1, fun w => ?_, fun w q hq => ?_⟩
    · refine c _ _ H3 ev ?_ hx
      have e : cutD xs i j = xs := by
        have l := q2.length
        rw [l] at w
        exact cut_whole w
      rw [e]
      exact Is.tup q1 n q2
    · exact c _ _ _ (ev.new hq) ((Rel.newT (ev.fresh hq) hq q2.cut).fe o) hx
  | lst xs =>
    obtain ⟨a, vs, rfl, q1, q2, n⟩ := r3.conL
    exact .inr ⟨a, vs, rfl, SqL.of q1, fun q hq => c _ _ _ (ev.new hq) ((Rel.newL (ev.fresh hq) hq q2.cut).fe o) hx⟩
  | _ => exact (show False from hx).elim
end
end Pu

namespace Ew
open PySem PySem.Spec PyProof.Rows L2
section
variable {prog : Program} {w : World} {A : Around} {E : Value → Shared → Prop} {s : Shared}
/-- what max asks of the tuple of its arguments -/
def Askmax (prog : Program) (w : World) (A : Around) (Q : Value → Shared → Prop) (it : Value) (s₂ : Shared) : Prop := ∃ I fp wr n P St bt, it = .ref I ∧ Walks prog w A.in1 I fp wr n P St ∧ St 0 s₂.heap ∧ (∀ b ∈ fp, b < s₂.heap.objs.size) ∧ 0 < n ∧ CmpOf prog w A.in1 .Gt P bt ∧
  ∀ v h' tk, P (argBest bt (n - 1)) v → (∀ b o, b ∉ wr → s₂.heap.get? b = some o → h'.get? b = some o) → Q v { s₂ with heap := h', toks := tk }
theorem ask_max {xs : Array (Int × Tok)} {Q : Value → Shared → Prop} {c : Sem Value} (hh : A.handled = none) (hne : 0 < xs.size)
    (hc : wpAny (model prog w) A.in1 (pyIter (.ref s.heap.objs.size)) (Askmax prog w A Q) E { s with heap := s.heap.push { cls := .type "tuple", data := .seq (intItems xs) } } → wpAny (model prog w) A c Q E s)
    (h : ∀ h' tk M t', (∀ d o, s.heap.get? d = some o → h'.get? d = some o) → M ∈ xs.toList.map (·.1) → (∀ a, a ∈ xs.toList.map (·.1) → a ≤ M) → Q (.int M t') { s with heap := h', toks := tk }) : wpAny (model prog w) A c Q E s := by
  have hT : (s.heap.push { cls := .type "tuple", data := .seq (intItems xs) }).IsTuple s.heap.objs.size (intItems xs) := ⟨_, Heap.get?_push_size _ rfl, rfl, 0, rfl⟩
  have hsz : (s.heap.push { cls := .type "tuple", data := .seq (intItems xs) }).objs.size = s.heap.objs.size + 1 := Heap.size_push ..
  have hln : (intItems xs).size = xs.size := by simp [intItems]
  refine hc (wpAny_pyIter_tuple hT ?_)
  refine ⟨_, [_, s.heap.objs.size], [_], _, _, _, _, rfl, Walks.tuple (A := A.in1) hh _ s.heap.objs.size (by rw [hsz]; exact Nat.ne_of_lt (Nat.lt_succ_self _)) (intItems xs),
    ⟨⟨_, Heap.get?_push_size _ rfl, rfl, rfl⟩, hT.push _⟩, fun d hd => ?_, by rw [hln]; exact hne, CmpOf.ints_gt (numAt xs) (fun _ _ => intItems_at), fun v h' tk hP hk => ?_⟩
  · show d < ((s.heap.push _).push _).objs.size
    rw [Heap.size_push, hsz]
    rcases List.mem_cons.mp hd with e | hd
    · rw [e, hsz]; exact Nat.lt_succ_self _
    · rw [List.mem_singleton.mp hd]; exact Nat.lt_succ_of_lt (Nat.lt_succ_self _)
  · have hold : ∀ d o, s.heap.get? d = some o → h'.get? d = some o := fun d o e => by
      refine hk d o (fun hm => ?_) (Heap.get?_push_of_some _ (Heap.get?_push_of_some _ e))
      have := Heap.lt_size e
      rw [List.mem_singleton.mp hm, hsz] at this
      exact Nat.lt_irrefl _ (Nat.lt_of_succ_lt this)
    obtain ⟨t, rfl⟩ := intItems_at hP
    obtain ⟨h1, h2⟩ := argBest_gt (numAt xs) ((intItems xs).size - 1)
    refine h h' tk _ t hold ?_ fun a ha => ?_
    · rw [numAt_eq]; exact PySem.getD_mem (by rw [List.length_map, Array.length_toList]; omega)
    · obtain ⟨j, hj, rfl⟩ := PySem.mem_getD ha
      rw [List.length_map, Array.length_toList] at hj
      rw [← numAt_eq]; exact h2 j (by omega)
theorem args_max3 (a0 a1 a2 : Value) : argsOk "max" ⟨[a0, a1, a2], []⟩ := by unfold argsOk; kernel_rfl
theorem tree_max3 {a0 a1 a2 : Value} {Q : Value → Shared → Prop} (h : wpAny (model prog w) A.in1 (pyIter (.ref s.heap.objs.size)) (Askmax prog w A Q) E { s with heap := s.heap.push { cls := .type "tuple", data := .seq #[a0, a1, a2] } }) : wpAny (model prog w) A (call (.builtin "max") [a0, a1, a2]) Q E s := by
  have hname : (toString "max" ++ toString ".loop" : String) = "max.loop" := by decide
  refine call_function_tree F.kind_max F.plain_max F.entry_max (args_max3 _ _ _) ?_
  show wpAny _ A.in1 (Builtin.Builtins.bindParams "max" ["key", "default"] 0 ⟨[], []⟩ >>= _) _ _ s
  refine wpAny_bind (wpAny_of_eq (show Builtin.Builtins.bindParams "max" ["key", "default"] 0 ⟨[], []⟩ = pure [none, none] from rfl) ?_)
  show wpAny _ A.in1 (newTuple [a0, a1, a2] >>= _) _ _ s
  refine wpAny_bind (wpAny_newObj_type ?_)
  refine wpAny_bind (wpAny_mono h (fun it s₂ h₂ => ?_) fun _ _ e => e)
  obtain ⟨I, fp, wr, n, P, St, bt, rfl, W, hst, hfp, hn, hcmp, hQ⟩ := h₂
  refine wpAny_bind (wpAny_newObj_type ?_)
  have hSf : s₂.heap.objs.size ∉ fp := fun hm => Nat.lt_irrefl _ (hfp _ hm)
  rw [hname]
  refine wpAny_pure ⟨plainId_quiet F.plain_max_loop _, codeAny_max_loop_first W bt hcmp s₂.heap.objs.size hSf hn (W.frame _ _ _ hst fun b _ o e => Heap.get?_push_of_some _ e) (Heap.get?_push_size _ rfl) fun v h' tk hP hk => ?_⟩
  exact hQ v h' tk hP fun b o hbw e => hk b o hbw (Nat.ne_of_lt (Heap.lt_size e)) (Heap.get?_push_of_some _ e)
theorem args_max4 (a0 a1 a2 a3 : Value) : argsOk "max" ⟨[a0, a1, a2, a3], []⟩ := by unfold argsOk; kernel_rfl
theorem tree_max4 {a0 a1 a2 a3 : Value} {Q : Value → Shared → Prop} (h : wpAny (model prog w) A.in1 (pyIter (.ref s.heap.objs.size)) (Askmax prog w A Q) E { s with heap := s.heap.push { cls := .type "tuple", data := .seq #[a0, a1, a2, a3] } }) : wpAny (model prog w) A (call (.builtin "max") [a0, a1, a2, a3]) Q E s := by
  have hname : (toString "max" ++ toString ".loop" : String) = "max.loop" := by decide
  refine call_function_tree F.kind_max F.plain_max F.entry_max (args_max4 _ _ _ _) ?_
  show wpAny _ A.in1 (Builtin.Builtins.bindParams "max" ["key", "default"] 0 ⟨[], []⟩ >>= _) _ _ s
  refine wpAny_bind (wpAny_of_eq (show Builtin.Builtins.bindParams "max" ["key", "default"] 0 ⟨[], []⟩ = pure [none, none] from rfl) ?_)
  show wpAny _ A.in1 (newTuple [a0, a1, a2, a3] >>= _) _ _ s
  refine wpAny_bind (wpAny_newObj_type ?_)
  refine wpAny_bind (wpAny_mono h (fun it s₂ h₂ => ?_) fun _ _ e => e)
  obtain ⟨I, fp, wr, n, P, St, bt, rfl, W, hst, hfp, hn, hcmp, hQ⟩ := h₂
  refine wpAny_bind (wpAny_newObj_type ?_)
  have hSf : s₂.heap.objs.size ∉ fp := fun hm => Nat.lt_irrefl _ (hfp _ hm)
  rw [hname]
  refine wpAny_pure ⟨plainId_quiet F.plain_max_loop _, codeAny_max_loop_first W bt hcmp s₂.heap.objs.size hSf hn (W.frame _ _ _ hst fun b _ o e => Heap.get?_push_of_some _ e) (Heap.get?_push_size _ rfl) fun v h' tk hP hk => ?_⟩
  exact hQ v h' tk hP fun b o hbw e => hk b o hbw (Nat.ne_of_lt (Heap.lt_size e)) (Heap.get?_push_of_some _ e)
theorem args_max5 (a0 a1 a2 a3 a4 : Value) : argsOk "max" ⟨[a0, a1, a2, a3, a4], []⟩ := by unfold argsOk; kernel_rfl
theorem tree_max5 {a0 a1 a2 a3 a4 : Value} {Q : Value → Shared → Prop} (h : wpAny (model prog w) A.in1 (pyIter (.ref s.heap.objs.size)) (Askmax prog w A Q) E { s with heap := s.heap.push { cls := .type "tuple", data := .seq #[a0, a1, a2, a3, a4] } }) : wpAny (model prog w) A (call (.builtin "max") [a0, a1, a2, a3, a4]) Q E s := by
  have hname : (toString "max" ++ toString ".loop" : String) = "max.loop" := by decide
  refine call_function_tree F.kind_max F.plain_max F.entry_max (args_max5 _ _ _ _ _) ?_
  show wpAny _ A.in1 (Builtin.Builtins.bindParams "max" ["key", "default"] 0 ⟨[], []⟩ >>= _) _ _ s
  refine wpAny_bind (wpAny_of_eq (show Builtin.Builtins.bindParams "max" ["key", "default"] 0 ⟨[], []⟩ = pure [none, none] from rfl) ?_)
  show wpAny _ A.in1 (newTuple [a0, a1, a2, a3, a4] >>= _) _ _ s
  refine wpAny_bind (wpAny_newObj_type ?_)
  refine wpAny_bind (wpAny_mono h (fun it s₂ h₂ => ?_) fun _ _ e => e)
  obtain ⟨I, fp, wr, n, P, St, bt, rfl, W, hst, hfp, hn, hcmp, hQ⟩ := h₂
  refine wpAny_bind (wpAny_newObj_type ?_)
  have hSf : s₂.heap.objs.size ∉ fp := fun hm => Nat.lt_irrefl _ (hfp _ hm)
  rw [hname]
  refine wpAny_pure ⟨plainId_quiet F.plain_max_loop _, codeAny_max_loop_first W bt hcmp s₂.heap.objs.size hSf hn (W.frame _ _ _ hst fun b _ o e => Heap.get?_push_of_some _ e) (Heap.get?_push_size _ rfl) fun v h' tk hP hk => ?_⟩
  exact hQ v h' tk hP fun b o hbw e => hk b o hbw (Nat.ne_of_lt (Heap.lt_size e)) (Heap.get?_push_of_some _ e)
end
section
variable {X : Cx}
theorem call_max3 (hc : X.calm = true) : CallR X (.builtin "max") (fun xs H Q => ∃ a0 a1 a2 : Int, xs = [.int a0, .int a1, .int a2] ∧ ∀ m, (m = a0 ∨ m = a1 ∨ m = a2) → a0 ≤ m → a1 ≤ m → a2 ≤ m → Q (.int m) H) := by
  intro pins s σ H xs us Q I r h
  obtain ⟨a0, a1, a2, rfl, q⟩ := h
  cases r with | cons q0 r0 =>
  obtain ⟨t0, rfl⟩ := q0
  cases r0 with | cons q1 r1 =>
  obtain ⟨t1, rfl⟩ := q1
  cases r1 with | cons q2 r2 =>
  obtain ⟨t2, rfl⟩ := q2
  cases r2
  refine ask_max (xs := #[(a0, t0), (a1, t1), (a2, t2)]) (I.ok.hd hc) (by simp) (fun h => tree_max3 (by simpa [intItems] using h)) fun h' tk M t' hk hm hle => ⟨.int M, H, I.kept hk, ⟨_, rfl⟩, q M ?_ (hle _ (by simp)) (hle _ (by simp)) (hle _ (by simp))⟩
  · simpa using hm
theorem call_max4 (hc : X.calm = true) : CallR X (.builtin "max") (fun xs H Q => ∃ a0 a1 a2 a3 : Int, xs = [.int a0, .int a1, .int a2, .int a3] ∧ ∀ m, (m = a0 ∨ m = a1 ∨ m = a2 ∨ m = a3) → a0 ≤ m → a1 ≤ m → a2 ≤ m → a3 ≤ m → Q (.int m) H) := by
  intro pins s σ H xs us Q I r h
  obtain ⟨a0, a1, a2, a3, rfl, q⟩ := h
  cases r with | cons q0 r0 =>
  obtain ⟨t0, rfl⟩ := q0
  cases r0 with | cons q1 r1 =>
  obtain ⟨t1, rfl⟩ := q1
  cases r1 with | cons q2 r2 =>
  obtain ⟨t2, rfl⟩ := q2
  cases r2 with | cons q3 r3 =>
  obtain ⟨t3, rfl⟩ := q3
  cases r3
  refine ask_max (xs := #[(a0, t0), (a1, t1), (a2, t2), (a3, t3)]) (I.ok.hd hc) (by simp) (fun h => tree_max4 (by simpa [intItems] using h)) fun h' tk M t' hk hm hle => ⟨.int M, H, I.kept hk, ⟨_, rfl⟩, q M ?_ (hle _ (by simp)) (hle _ (by simp)) (hle _ (by simp)) (hle _ (by simp))⟩
  · simpa using hm
theorem call_max5 (hc : X.calm = true) : CallR X (.builtin "max") (fun xs H Q => ∃ a0 a1 a2 a3 a4 : Int, xs = [.int a0, .int a1, .int a2, .int a3, .int a4] ∧ ∀ m, (m = a0 ∨ m = a1 ∨ m = a2 ∨ m = a3 ∨ m = a4) → a0 ≤ m → a1 ≤ m → a2 ≤ m → a3 ≤ m → a4 ≤ m → Q (.int m) H) := by
  intro pins s σ H xs us Q I r h
  obtain ⟨a0, a1, a2, a3, a4, rfl, q⟩ := h
  cases r with | cons q0 r0 =>
  obtain ⟨t0, rfl⟩ := q0
  cases r0 with | cons q1 r1 =>
  obtain ⟨t1, rfl⟩ := q1
  cases r1 with | cons q2 r2 =>
  obtain ⟨t2, rfl⟩ := q2
  cases r2 with | cons q3 r3 =>
  obtain ⟨t3, rfl⟩ := q3
  cases r3 with | cons q4 r4 =>
  obtain ⟨t4, rfl⟩ := q4
  cases r4
  refine ask_max (xs := #[(a0, t0), (a1, t1), (a2, t2), (a3, t3), (a4, t4)]) (I.ok.hd hc) (by simp) (fun h => tree_max5 (by simpa [intItems] using h)) fun h' tk M t' hk hm hle => ⟨.int M, H, I.kept hk, ⟨_, rfl⟩, q M ?_ (hle _ (by simp)) (hle _ (by simp)) (hle _ (by simp)) (hle _ (by simp)) (hle _ (by simp))⟩
  · simpa using hm
end
section
variable {prog : Program} {w : World} {A : Around} {E : Value → Shared → Prop} {s : Shared}
/-- what min asks of the tuple of its arguments -/
def Askmin (prog : Program) (w : World) (A : Around) (Q : Value → Shared → Prop) (it : Value) (s₂ : Shared) : Prop := ∃ I fp wr n P St bt, it = .ref I ∧ Walks prog w A.in1 I fp wr n P St ∧ St 0 s₂.heap ∧ (∀ b ∈ fp, b < s₂.heap.objs.size) ∧ 0 < n ∧ CmpOf prog w A.in1 .Lt P bt ∧
  ∀ v h' tk, P (argBest bt (n - 1)) v → (∀ b o, b ∉ wr → s₂.heap.get? b = some o → h'.get? b = some o) → Q v { s₂ with heap := h', toks := tk }
theorem ask_min {xs : Array (Int × Tok)} {Q : Value → Shared → Prop} {c : Sem Value} (hh : A.handled = none) (hne : 0 < xs.size)
    (hc : wpAny (model prog w) A.in1 (pyIter (.ref s.heap.objs.size)) (Askmin prog w A Q) E { s with heap := s.heap.push { cls := .type "tuple", data := .seq (intItems xs) } } → wpAny (model prog w) A c Q E s)
    (h : ∀ h' tk M t', (∀ d o, s.heap.get? d = some o → h'.get? d = some o) → M ∈ xs.toList.map (·.1) → (∀ a, a ∈ xs.toList.map (·.1) → M ≤ a) → Q (.int M t') { s with heap := h', toks := tk }) : wpAny (model prog w) A c Q E s := by
  have hT : (s.heap.push { cls := .type "tuple", data := .seq (intItems xs) }).IsTuple s.heap.objs.size (intItems xs) := ⟨_, Heap.get?_push_size _ rfl, rfl, 0, rfl⟩
  have hsz : (s.heap.push { cls := .type "tuple", data := .seq (intItems xs) }).objs.size = s.heap.objs.size + 1 := Heap.size_push ..
  have hln : (intItems xs).size = xs.size := by simp [intItems]
  refine hc (wpAny_pyIter_tuple hT ?_)
  refine ⟨_, [_, s.heap.objs.size], [_], _, _, _, _, rfl, Walks.tuple (A := A.in1) hh _ s.heap.objs.size (by rw [hsz]; exact Nat.ne_of_lt (Nat.lt_succ_self _)) (intItems xs),
    ⟨⟨_, Heap.get?_push_size _ rfl, rfl, rfl⟩, hT.push _⟩, fun d hd => ?_, by rw [hln]; exact hne, CmpOf.ints_lt (numAt xs) (fun _ _ => intItems_at), fun v h' tk hP hk => ?_⟩
  · show d < ((s.heap.push _).push _).objs.size
    rw [Heap.size_push, hsz]
    rcases List.mem_cons.mp hd with e | hd
    · rw [e, hsz]; exact Nat.lt_succ_self _
    · rw [List.mem_singleton.mp hd]; exact Nat.lt_succ_of_lt (Nat.lt_succ_self _)
  · have hold : ∀ d o, s.heap.get? d = some o → h'.get? d = some o := fun d o e => by
      refine hk d o (fun hm => ?_) (Heap.get?_push_of_some _ (Heap.get?_push_of_some _ e))
      have := Heap.lt_size e
      rw [List.mem_singleton.mp hm, hsz] at this
      exact Nat.lt_irrefl _ (Nat.lt_of_succ_lt this)
    obtain ⟨t, rfl⟩ := intItems_at hP
    obtain ⟨h1, h2⟩ := argBest_lt (numAt xs) ((intItems xs).size - 1)
    refine h h' tk _ t hold ?_ fun a ha => ?_
    · rw [numAt_eq]; exact PySem.getD_mem (by rw [List.length_map, Array.length_toList]; omega)
    · obtain ⟨j, hj, rfl⟩ := PySem.mem_getD ha
      rw [List.length_map, Array.length_toList] at hj
      rw [← numAt_eq]; exact h2 j (by omega)
theorem args_min3 (a0 a1 a2 : Value) : argsOk "min" ⟨[a0, a1, a2], []⟩ := by unfold argsOk; kernel_rfl
theorem tree_min3 {a0 a1 a2 : Value} {Q : Value → Shared → Prop} (h : wpAny (model prog w) A.in1 (pyIter (.ref s.heap.objs.size)) (Askmin prog w A Q) E { s with heap := s.heap.push { cls := .type "tuple", data := .seq #[a0, a1, a2] } }) : wpAny (model prog w) A (call (.builtin "min") [a0, a1, a2]) Q E s := by
  have hname : (toString "min" ++ toString ".loop" : String) = "min.loop" := by decide
  refine call_function_tree F.kind_min F.plain_min F.entry_min (args_min3 _ _ _) ?_
  show wpAny _ A.in1 (Builtin.Builtins.bindParams "min" ["key", "default"] 0 ⟨[], []⟩ >>= _) _ _ s
  refine wpAny_bind (wpAny_of_eq (show Builtin.Builtins.bindParams "min" ["key", "default"] 0 ⟨[], []⟩ = pure [none, none] from rfl) ?_)
  show wpAny _ A.in1 (newTuple [a0, a1, a2] >>= _) _ _ s
  refine wpAny_bind (wpAny_newObj_type ?_)
  refine wpAny_bind (wpAny_mono h (fun it s₂ h₂ => ?_) fun _ _ e => e)
  obtain ⟨I, fp, wr, n, P, St, bt, rfl, W, hst, hfp, hn, hcmp, hQ⟩ := h₂
  refine wpAny_bind (wpAny_newObj_type ?_)
  have hSf : s₂.heap.objs.size ∉ fp := fun hm => Nat.lt_irrefl _ (hfp _ hm)
  rw [hname]
  refine wpAny_pure ⟨plainId_quiet F.plain_min_loop _, codeAny_min_loop_first W bt hcmp s₂.heap.objs.size hSf hn (W.frame _ _ _ hst fun b _ o e => Heap.get?_push_of_some _ e) (Heap.get?_push_size _ rfl) fun v h' tk hP hk => ?_⟩
  exact hQ v h' tk hP fun b o hbw e => hk b o hbw (Nat.ne_of_lt (Heap.lt_size e)) (Heap.get?_push_of_some _ e)
theorem args_min4 (a0 a1 a2 a3 : Value) : argsOk "min" ⟨[a0, a1, a2, a3], []⟩ := by unfold argsOk; kernel_rfl
theorem tree_min4 {a0 a1 a2 a3 : Value} {Q : Value → Shared → Prop} (h : wpAny (model prog w) A.in1 (pyIter (.ref s.heap.objs.size)) (Askmin prog w A Q) E { s with heap := s.heap.push { cls := .type "tuple", data := .seq #[a0, a1, a2, a3] } }) : wpAny (model prog w) A (call (.builtin "min") [a0, a1, a2, a3]) Q E s := by
  have hname : (toString "min" ++ toString ".loop" : String) = "min.loop" := by decide
  refine call_function_tree F.kind_min F.plain_min F.entry_min (args_min4 _ _ _ _) ?_
  show wpAny _ A.in1 (Builtin.Builtins.bindParams "min" ["key", "default"] 0 ⟨[], []⟩ >>= _) _ _ s
  refine wpAny_bind (wpAny_of_eq (show Builtin.Builtins.bindParams "min" ["key", "default"] 0 ⟨[], []⟩ = pure [none, none] from rfl) ?_)
  show wpAny _ A.in1 (newTuple [a0, a1, a2, a3] >>= _) _ _ s
  refine wpAny_bind (wpAny_newObj_type ?_)
  refine wpAny_bind (wpAny_mono h (fun it s₂ h₂ => ?_) fun _ _ e => e)
  obtain ⟨I, fp, wr, n, P, St, bt, rfl, W, hst, hfp, hn, hcmp, hQ⟩ := h₂
  refine wpAny_bind (wpAny_newObj_type ?_)
  have hSf : s₂.heap.objs.size ∉ fp := fun hm => Nat.lt_irrefl _ (hfp _ hm)
  rw [hname]
  refine wpAny_pure ⟨plainId_quiet F.plain_min_loop _, codeAny_min_loop_first W bt hcmp s₂.heap.objs.size hSf hn (W.frame _ _ _ hst fun b _ o e => Heap.get?_push_of_some _ e) (Heap.get?_push_size _ rfl) fun v h' tk hP hk => ?_⟩
  exact hQ v h' tk hP fun b o hbw e => hk b o hbw (Nat.ne_of_lt (Heap.lt_size e)) (Heap.get?_push_of_some _ e)
theorem args_min5 (a0 a1 a2 a3 a4 : Value) : argsOk "min" ⟨[a0, a1, a2, a3, a4], []⟩ := by unfold argsOk; kernel_rfl
theorem tree_min5 {a0 a1 a2 a3 a4 : Value} {Q : Value → Shared → Prop} (h : wpAny (model prog w) A.in1 (pyIter (.ref s.heap.objs.size)) (Askmin prog w A Q) E { s with heap := s.heap.push { cls := .type "tuple", data := .seq #[a0, a1, a2, a3, a4] } }) : wpAny (model prog w) A (call (.builtin "min") [a0, a1, a2, a3, a4]) Q E s := by
  have hname : (toString "min" ++ toString ".loop" : String) = "min.loop" := by decide
  refine call_function_tree F.kind_min F.plain_min F.entry_min (args_min5 _ _ _ _ _) ?_
  show wpAny _ A.in1 (Builtin.Builtins.bindParams "min" ["key", "default"] 0 ⟨[], []⟩ >>= _) _ _ s
  refine wpAny_bind (wpAny_of_eq (show Builtin.Builtins.bindParams "min" ["key", "default"] 0 ⟨[], []⟩ = pure [none, none] from rfl) ?_)
  show wpAny _ A.in1 (newTuple [a0, a1, a2, a3, a4] >>= _) _ _ s
  refine wpAny_bind (wpAny_newObj_type ?_)
  refine wpAny_bind (wpAny_mono h (fun it s₂ h₂ => ?_) fun _ _ e => e)
  obtain ⟨I, fp, wr, n, P, St, bt, rfl, W, hst, hfp, hn, hcmp, hQ⟩ := h₂
  refine wpAny_bind (wpAny_newObj_type ?_)
  have hSf : s₂.heap.objs.size ∉ fp := fun hm => Nat.lt_irrefl _ (hfp _ hm)
  rw [hname]
  refine wpAny_pure ⟨plainId_quiet F.plain_min_loop _, codeAny_min_loop_first W bt hcmp s₂.heap.objs.size hSf hn (W.frame _ _ _ hst fun b _ o e => Heap.get?_push_of_some _ e) (Heap.get?_push_size _ rfl) fun v h' tk hP hk => ?_⟩
  exact hQ v h' tk hP fun b o hbw e => hk b o hbw (Nat.ne_of_lt (Heap.lt_size e)) (Heap.get?_push_of_some _ e)
end
section
variable {X : Cx}
theorem call_min3 (hc : X.calm = true) : CallR X (.builtin "min") (fun xs H Q => ∃ a0 a1 a2 : Int, xs = [.int a0, .int a1, .int a2] ∧ ∀ m, (m = a0 ∨ m = a1 ∨ m = a2) → m ≤ a0 → m ≤ a1 → m ≤ a2 → Q (.int m) H) := by
  intro pins s σ H xs us Q I r h
  obtain ⟨a0, a1, a2, rfl, q⟩ := h
  cases r with | cons q0 r0 =>
  obtain ⟨t0, rfl⟩ := q0
  cases r0 with | cons q1 r1 =>
  obtain ⟨t1, rfl⟩ := q1
  cases r1 with | cons q2 r2 =>
  obtain ⟨t2, rfl⟩ := q2
  cases r2
  refine ask_min (xs := #[(a0, t0), (a1, t1), (a2, t2)]) (I.ok.hd hc) (by simp) (fun h => tree_min3 (by simpa [intItems] using h)) fun h' tk M t' hk hm hle => ⟨.int M, H, I.kept hk, ⟨_, rfl⟩, q M ?_ (hle _ (by simp)) (hle _ (by simp)) (hle _ (by simp))⟩
  · simpa using hm
theorem call_min4 (hc : X.calm = true) : CallR X (.builtin "min") (fun xs H Q => ∃ a0 a1 a2 a3 : Int, xs = [.int a0, .int a1, .int a2, .int a3] ∧ ∀ m, (m = a0 ∨ m = a1 ∨ m = a2 ∨ m = a3) → m ≤ a0 → m ≤ a1 → m ≤ a2 → m ≤ a3 → Q (.int m) H) := by
  intro pins s σ H xs us Q I r h
  obtain ⟨a0, a1, a2, a3, rfl, q⟩ := h
  cases r with | cons q0 r0 =>
  obtain ⟨t0, rfl⟩ := q0
  cases r0 with | cons q1 r1 =>
  obtain ⟨t1, rfl⟩ := q1
  cases r1 with | cons q2 r2 =>
  obtain ⟨t2, rfl⟩ := q2
  cases r2 with | cons q3 r3 =>
  obtain ⟨t3, rfl⟩ := q3
  cases r3
  refine ask_min (xs := #[(a0, t0), (a1, t1), (a2, t2), (a3, t3)]) (I.ok.hd hc) (by simp) (fun h => tree_min4 (by simpa [intItems] using h)) fun h' tk M t' hk hm hle => ⟨.int M, H, I.kept hk, ⟨_, rfl⟩, q M ?_ (hle _ (by simp)) (hle _ (by simp)) (hle _ (by simp)) (hle _ (by simp))⟩
  · simpa using hm
theorem call_min5 (hc : X.calm = true) : CallR X (.builtin "min") (fun xs H Q => ∃ a0 a1 a2 a3 a4 : Int, xs = [.int a0, .int a1, .int a2, .int a3, .int a4] ∧ ∀ m, (m = a0 ∨ m = a1 ∨ m = a2 ∨ m = a3 ∨ m = a4) → m ≤ a0 → m ≤ a1 → m ≤ a2 → m ≤ a3 → m ≤ a4 → Q (.int m) H) := by
  intro pins s σ H xs us Q I r h
  obtain ⟨a0, a1, a2, a3, a4, rfl, q⟩ := h
  cases r with | cons q0 r0 =>
  obtain ⟨t0, rfl⟩ := q0
  cases r0 with | cons q1 r1 =>
  obtain ⟨t1, rfl⟩ := q1
  cases r1 with | cons q2 r2 =>
  obtain ⟨t2, rfl⟩ := q2
  cases r2 with | cons q3 r3 =>
  obtain ⟨t3, rfl⟩ := q3
  cases r3 with | cons q4 r4 =>
  obtain ⟨t4, rfl⟩ := q4
  cases r4
  refine ask_min (xs := #[(a0, t0), (a1, t1), (a2, t2), (a3, t3), (a4, t4)]) (I.ok.hd hc) (by simp) (fun h => tree_min5 (by simpa [intItems] using h)) fun h' tk M t' hk hm hle => ⟨.int M, H, I.kept hk, ⟨_, rfl⟩, q M ?_ (hle _ (by simp)) (hle _ (by simp)) (hle _ (by simp)) (hle _ (by simp)) (hle _ (by simp))⟩
  · simpa using hm
end
end Ew

namespace Pu
open PySem PySem.Spec PyProof.Rows L2
variable [Tbs]
/-! ### calls of built-ins -/
def CallD (l : Bool) (mo : Mode) (r : List V → Hp → VK → Prop) (g : List D → (D → Prop) → Prop) : Prop := ∀ (z : Zn) (X : AP) (H0 H : Hp) (σ : Sl) (env : List SV) (vs : List V) (ds : List D) (Q : VK) (k : D → Prop), Ok z X H0 H σ env →
  IsA z (if l = true then Ms z X σ env else Zx z X) H vs ds → (∀ d w H', Evo z H H' → Rel mo z X H H' σ env w d → k d → Q w H') → g ds k → r vs H Q
def eCall (g : List D → (D → Prop) → Prop) (a : PAs) : PX := fun env k => a env fun ds => g ds k
section
variable {C : Cx} {e a b : Expr} {es : List Expr} {p q : PX} {ga : PAs} {m mo : Mode} {l : Bool} {pos pp : Pos} {x : Str} {id ty : String} {r : List V → Hp → VK → Prop} {g : List D → (D → Prop) → Prop}
theorem RE.cB {t : TA} (hd : CallD l mo r g) (h : RA l t ga) : RE mo (tCB r t) (eCall g ga) := fun z X H0 H σ env Q k o c hp =>
  h z X H0 H σ env _ _ o (fun ds vs H1 e1 r1 hx => hd z X H0 H1 σ env vs ds Q k (o.go e1) r1 (fun d w H2 e2 r2 kd => c d w H2 (e1.trans e2) (r2.early e1) kd) hx) hp
theorem e_callB (hc : CallR C (.builtin id) r) (hd : CallD l mo r g) (hg : Gl C x) (hm : C.mg x = none) (hv : bootBuiltins x = some (.builtin id)) (ha : A l C (e :: es) ga) (hn : x ≠ "__name__" := by decide) (hdb : (x == ("__debug__" : Str)) = false := by decide)
    (he : starEach (e :: es) C.env = (false, eval e C.env) :: starEach es C.env := by rfl) (hpl : (backTo pos (starEach es C.env)).any (·.1) = false := by rfl) : E mo C (.Call (.Name x pp) (e :: es) [] pos) (eCall g ga) := by
  obtain ⟨t, h1, h2⟩ := ha
  exact ⟨_, pe_callB hc hg hm hv h1 hn hdb he hpl, RE.cB hd h2⟩
theorem e_callTy (hc : CallR C (.type ty) r) (hd : CallD l mo r g) (hg : Gl C x) (hm : C.mg x = none) (hv : bootBuiltins x = some (.type ty)) (ha : A l C (e :: es) ga) (hn : x ≠ "__name__" := by decide) (hdb : (x == ("__debug__" : Str)) = false := by decide)
    (he : starEach (e :: es) C.env = (false, eval e C.env) :: starEach es C.env := by rfl) (hpl : (backTo pos (starEach es C.env)).any (·.1) = false := by rfl) : E mo C (.Call (.Name x pp) (e :: es) [] pos) (eCall g ga) := by
  obtain ⟨t, h1, h2⟩ := ha
  exact ⟨_, pe_callTy hc hg hm hv h1 hn hdb he hpl, RE.cB hd h2⟩
end
def gAbs : List D → (D → Prop) → Prop := fun ds k => match ds with
  | [.int i] => k (.int (if i < 0 then -i else i))
  | _ => False
theorem IsA.one {z : Zn} {M : AP} {H : Hp} {vs : List V} {d : D} (h : IsA z M H vs [d]) : ∃ v, vs = [v] ∧ Is z M H v d := by
  cases h with
  | cons q t => cases t; exact ⟨_, rfl, q⟩
theorem IsA.two {z : Zn} {M : AP} {H : Hp} {vs : List V} {d d' : D} (h : IsA z M H vs [d, d']) : ∃ v v', vs = [v, v'] ∧ Is z M H v d ∧ Is z M H v' d' := by
  cases h with
  | cons q t => obtain ⟨v', rfl, h⟩ := IsA.one t; exact ⟨_, _, rfl, q, h⟩
theorem cd_abs {l : Bool} : CallD l .e (fun xs H Q => ∃ i, xs = [.int i] ∧ Q (.int (if i < 0 then -i else i)) H) gAbs := fun z X H0 H σ env vs ds Q k o h c hp => by
  unfold gAbs at hp
  split at hp
  · rename_i i
    obtain ⟨v, rfl, hv⟩ := h.one
    cases hv
    exact ⟨i, rfl, c _ _ H (Evo.refl _ _) (Is.int _) hp⟩
  · exact hp.elim
/-- the greatest, the least of some numbers -/
def maxI : List Int → Int
  | [] => 0
  | [a] => a
  | a :: b :: r => max a (maxI (b :: r))
def minI : List Int → Int
  | [] => 0
  | [a] => a
  | a :: b :: r => min a (minI (b :: r))
theorem maxI_le : ∀ {ns : List Int} {n : Int}, n ∈ ns → n ≤ maxI ns
  | [a], n, h => by simp at h; subst h; exact Int.le_refl _
  | a :: b :: r, n, h => by
    show n ≤ max a (maxI (b :: r))
    rcases List.mem_cons.mp h with rfl | h
    · exact Int.le_max_left ..
    · exact Int.le_trans (maxI_le h) (Int.le_max_right ..)
theorem maxI_mem : ∀ {ns : List Int}, ns ≠ [] → maxI ns ∈ ns
  | [], h => absurd rfl h
  | [a], _ => List.mem_singleton.mpr rfl
  | a :: b :: r, _ => by
    show max a (maxI (b :: r)) ∈ _
    have q := maxI_mem (ns := b :: r) (by simp)
    rcases Int.le_total a (maxI (b :: r)) with h | h
    · rw [Int.max_eq_right h]; exact List.mem_cons_of_mem _ q
    · rw [Int.max_eq_left h]; exact List.mem_cons_self
theorem minI_le : ∀ {ns : List Int} {n : Int}, n ∈ ns → minI ns ≤ n
  | [a], n, h => by simp at h; subst h; exact Int.le_refl _
  | a :: b :: r, n, h => by
    show min a (minI (b :: r)) ≤ n
    rcases List.mem_cons.mp h with rfl | h
    · exact Int.min_le_left ..
    · exact Int.le_trans (Int.min_le_right ..) (minI_le h)
theorem minI_mem : ∀ {ns : List Int}, ns ≠ [] → minI ns ∈ ns
  | [], h => absurd rfl h
  | [a], _ => List.mem_singleton.mpr rfl
  | a :: b :: r, _ => by
    show min a (minI (b :: r)) ∈ _
    have q := minI_mem (ns := b :: r) (by simp)
    rcases Int.le_total a (minI (b :: r)) with h | h
    · rw [Int.min_eq_left h]; exact List.mem_cons_self
    · rw [Int.min_eq_right h]; exact List.mem_cons_of_mem _ q
theorem maxI_eq {ns : List Int} {m : Int} (h : m ∈ ns) (u : ∀ y ∈ ns, y ≤ m) : m = maxI ns := Int.le_antisymm (maxI_le h) (u _ (maxI_mem (List.ne_nil_of_mem h)))
theorem minI_eq {ns : List Int} {m : Int} (h : m ∈ ns) (u : ∀ y ∈ ns, m ≤ y) : m = minI ns := Int.le_antisymm (u _ (minI_mem (List.ne_nil_of_mem h))) (minI_le h)
def gMaxN : List D → (D → Prop) → Prop := fun ds k => match ds with
  | [.int a, .int b] => k (.int (max a b))
  | [.int a, .int b, .int c] => k (.int (max a (max b c)))
  | [.int a, .int b, .int c, .int d] => k (.int (max a (max b (max c d))))
  | [.int a, .int b, .int c, .int d, .int e] => k (.int (max a (max b (max c (max d e)))))
  | _ => False
def gMinN : List D → (D → Prop) → Prop := fun ds k => match ds with
  | [.int a, .int b] => k (.int (min a b))
  | [.int a, .int b, .int c] => k (.int (min a (min b c)))
  | [.int a, .int b, .int c, .int d] => k (.int (min a (min b (min c d))))
  | [.int a, .int b, .int c, .int d, .int e] => k (.int (min a (min b (min c (min d e)))))
  | _ => False
def rMaxN : List V → Hp → VK → Prop := fun xs H Q => (∃ i j, xs = [.int i, .int j] ∧ Q (.int (if j > i then j else i)) H) ∨
  (∃ a0 a1 a2 : Int, xs = [.int a0, .int a1, .int a2] ∧ ∀ m, (m = a0 ∨ m = a1 ∨ m = a2) → a0 ≤ m → a1 ≤ m → a2 ≤ m → Q (.int m) H) ∨
  (∃ a0 a1 a2 a3 : Int, xs = [.int a0, .int a1, .int a2, .int a3] ∧ ∀ m, (m = a0 ∨ m = a1 ∨ m = a2 ∨ m = a3) → a0 ≤ m → a1 ≤ m → a2 ≤ m → a3 ≤ m → Q (.int m) H) ∨
  (∃ a0 a1 a2 a3 a4 : Int, xs = [.int a0, .int a1, .int a2, .int a3, .int a4] ∧ ∀ m, (m = a0 ∨ m = a1 ∨ m = a2 ∨ m = a3 ∨ m = a4) → a0 ≤ m → a1 ≤ m → a2 ≤ m → a3 ≤ m → a4 ≤ m → Q (.int m) H)
def rMinN : List V → Hp → VK → Prop := fun xs H Q => (∃ i j, xs = [.int i, .int j] ∧ Q (.int (if j < i then j else i)) H) ∨
  (∃ a0 a1 a2 : Int, xs = [.int a0, .int a1, .int a2] ∧ ∀ m, (m = a0 ∨ m = a1 ∨ m = a2) → m ≤ a0 → m ≤ a1 → m ≤ a2 → Q (.int m) H) ∨
  (∃ a0 a1 a2 a3 : Int, xs = [.int a0, .int a1, .int a2, .int a3] ∧ ∀ m, (m = a0 ∨ m = a1 ∨ m = a2 ∨ m = a3) → m ≤ a0 → m ≤ a1 → m ≤ a2 → m ≤ a3 → Q (.int m) H) ∨
  (∃ a0 a1 a2 a3 a4 : Int, xs = [.int a0, .int a1, .int a2, .int a3, .int a4] ∧ ∀ m, (m = a0 ∨ m = a1 ∨ m = a2 ∨ m = a3 ∨ m = a4) → m ≤ a0 → m ≤ a1 → m ≤ a2 → m ≤ a3 → m ≤ a4 → Q (.int m) H)
theorem callr_or {C : Cx} {f : Value} {r r' : List V → Hp → VK → Prop} (h : CallR C f r) (h' : CallR C f r') : CallR C f (fun xs H Q => r xs H Q ∨ r' xs H Q) := fun pins s σ H xs us Q I rx q => q.elim (h pins s σ H xs us Q I rx) (h' pins s σ H xs us Q I rx)
theorem call_maxN {C : Cx} (hc : C.calm = true) : CallR C (.builtin "max") rMaxN := callr_or (call_max2 hc) (callr_or (Ew.call_max3 hc) (callr_or (Ew.call_max4 hc) (Ew.call_max5 hc)))
theorem call_minN {C : Cx} (hc : C.calm = true) : CallR C (.builtin "min") rMinN := callr_or (call_min2 hc) (callr_or (Ew.call_min3 hc) (callr_or (Ew.call_min4 hc) (Ew.call_min5 hc)))
theorem IsA.int1 {z : Zn} {M : AP} {H : Hp} {vs : List V} {i : Int} {ds : List D} (h : IsA z M H vs (.int i :: ds)) : ∃ us, vs = .int i :: us ∧ IsA z M H us ds := by
  cases h with
  | cons q t => cases q; exact ⟨_, rfl, t⟩
theorem IsA.nil' {z : Zn} {M : AP} {H : Hp} {vs : List V} (h : IsA z M H vs []) : vs = [] := by cases h; rfl
theorem cd_maxN {l : Bool} : CallD l .e rMaxN gMaxN := fun z X H0 H σ env vs ds Q k o h c hp => by
  unfold gMaxN at hp
  split at hp
  · cases IsA.ints (ns := [_, _]) h
    refine .inl ⟨_, _, rfl, c _ _ H (Evo.refl _ _) ?_ hp⟩
    have : ∀ a b : Int, (if b > a then b else a) = max a b := fun a b => by split <;> omega
    rw [this]
    exact Is.int _
  · cases IsA.ints (ns := [_, _, _]) h
    refine .inr (.inl ⟨_, _, _, rfl, fun m h1 h2 h3 h4 => c (.int m) _ H (Evo.refl _ _) (Is.int m) ?_⟩)
    rename_i a b d
    have : max a (max b d) = m := by omega
    rw [← this]; exact hp
  · cases IsA.ints (ns := [_, _, _, _]) h
    refine .inr (.inr (.inl ⟨_, _, _, _, rfl, fun m h1 h2 h3 h4 h5 => c (.int m) _ H (Evo.refl _ _) (Is.int m) ?_⟩))
    rename_i a b d e
    have : max a (max b (max d e)) = m := by omega
    rw [← this]; exact hp
  · cases IsA.ints (ns := [_, _, _, _, _]) h
    refine .inr (.inr (.inr ⟨_, _, _, _, _, rfl, fun m h1 h2 h3 h4 h5 h6 => c (.int m) _ H (Evo.refl _ _) (Is.int m) ?_⟩))
    rename_i a b d e f
    have : max a (max b (max d (max e f))) = m := by omega
    rw [← this]; exact hp
  · exact hp.elim
theorem cd_minN {l : Bool} : CallD l .e rMinN gMinN := fun z X H0 H σ env vs ds Q k o h c hp => by
  unfold gMinN at hp
  split at hp
  · cases IsA.ints (ns := [_, _]) h
    refine .inl ⟨_, _, rfl, c _ _ H (Evo.refl _ _) ?_ hp⟩
    have : ∀ a b : Int, (if b < a then b else a) = min a b := fun a b => by split <;> omega
    rw [this]
    exact Is.int _
  · cases IsA.ints (ns := [_, _, _]) h
    refine .inr (.inl ⟨_, _, _, rfl, fun m h1 h2 h3 h4 => c (.int m) _ H (Evo.refl _ _) (Is.int m) ?_⟩)
    rename_i a b d
    have : min a (min b d) = m := by omega
    rw [← this]; exact hp
  · cases IsA.ints (ns := [_, _, _, _]) h
    refine .inr (.inr (.inl ⟨_, _, _, _, rfl, fun m h1 h2 h3 h4 h5 => c (.int m) _ H (Evo.refl _ _) (Is.int m) ?_⟩))
    rename_i a b d e
    have : min a (min b (min d e)) = m := by omega
    rw [← this]; exact hp
  · cases IsA.ints (ns := [_, _, _, _, _]) h
    refine .inr (.inr (.inr ⟨_, _, _, _, _, rfl, fun m h1 h2 h3 h4 h5 h6 => c (.int m) _ H (Evo.refl _ _) (Is.int m) ?_⟩))
    rename_i a b d e f
    have : min a (min b (min d (min e f))) = m := by omega
    rw [← this]; exact hp
  · exact hp.elim
/-- of a list of numbers -/
def gMaxL : List D → (D → Prop) → Prop := fun ds k => ∃ xs ns, ds = [.lst xs] ∧ intsD xs = some ns ∧ ns ≠ [] ∧ k (.int (maxI ns))
def gMinL : List D → (D → Prop) → Prop := fun ds k => ∃ xs ns, ds = [.lst xs] ∧ intsD xs = some ns ∧ ns ≠ [] ∧ k (.int (minI ns))
def gSum : List D → (D → Prop) → Prop := fun ds k => ∃ xs ns, ds = [.lst xs] ∧ intsD xs = some ns ∧ k (.int ns.sum)
theorem one_ints {z : Zn} {M : AP} {H : Hp} {vs : List V} {xs : List D} {ns : List Int} (h : IsA z M H vs [.lst xs]) (hi : intsD xs = some ns) : ∃ a, vs = [.ref a] ∧ H a = some (.lst (ns.map V.int)) := by
  obtain ⟨v, rfl, hv⟩ := h.one
  cases intsD_eq hi
  cases hv with
  | lst e n r => exact ⟨_, rfl, by rw [← r.ints]; exact e⟩
theorem cd_maxL {l : Bool} {K : PySem.W.Frag} : CallD l .e (rMax K) gMaxL := fun z X H0 H σ env vs ds Q k o h c hp => by
  obtain ⟨xs, ns, rfl, hi, hne, hk⟩ := hp
  obtain ⟨a, rfl, ha⟩ := one_ints h hi
  refine ⟨a, ns, rfl, SqL.of ha, List.length_pos_iff.mpr hne, fun m h1 h2 => ?_⟩
  rw [maxI_eq h1 h2]
  exact c _ _ H (Evo.refl _ _) (Is.int _) hk
theorem cd_minL {l : Bool} {K : PySem.W.Frag} : CallD l .e (rMin K) gMinL := fun z X H0 H σ env vs ds Q k o h c hp => by
  obtain ⟨xs, ns, rfl, hi, hne, hk⟩ := hp
  obtain ⟨a, rfl, ha⟩ := one_ints h hi
  refine ⟨a, ns, rfl, SqL.of ha, List.length_pos_iff.mpr hne, fun m h1 h2 => ?_⟩
  rw [minI_eq h1 h2]
  exact c _ _ H (Evo.refl _ _) (Is.int _) hk
theorem cd_sum {l : Bool} {K : PySem.W.Frag} : CallD l .e (rSum K) gSum := fun z X H0 H σ env vs ds Q k o h c hp => by
  obtain ⟨xs, ns, rfl, hi, hk⟩ := hp
  obtain ⟨a, rfl, ha⟩ := one_ints h hi
  exact ⟨a, ns, rfl, SqL.of ha, c _ _ H (Evo.refl _ _) (Is.int _) hk⟩
/-- len -/
def gLen : List D → (D → Prop) → Prop := fun ds k => match ds with
  | [.tup xs] => k (.int xs.length)
  | [.lst xs] => k (.int xs.length)
  | [.str s] => s.length ≤ 100000 ∧ k (.int s.length)
  | _ => False
def rLenA (K : PySem.W.Frag) : List V → Hp → VK → Prop := fun xs H Q => (∃ p ys, xs = [.ref p] ∧ (SqL K H p ys ∨ SqT K H p ys) ∧ Q (.int ys.length) H) ∨ (∃ z, xs = [.str z] ∧ z.length ≤ sizeLine ∧ Q (.int z.length) H)
theorem call_lenA {C : Cx} : CallR C (.builtin "len") (rLenA C.K) := callr_or call_len_seq call_len_str
theorem cd_len {l : Bool} {K : PySem.W.Frag} : CallD l .e (rLenA K) gLen := fun z X H0 H σ env vs ds Q k o h c hp => by
  unfold gLen at hp
  split at hp
  · obtain ⟨v, rfl, hv⟩ := h.one
    cases hv with
    | tup e n r => exact .inl ⟨_, _, rfl, .inr (SqT.of e), by rw [r.length]; exact c _ _ H (Evo.refl _ _) (Is.int _) hp⟩
  · obtain ⟨v, rfl, hv⟩ := h.one
    cases hv with
    | lst e n r => exact .inl ⟨_, _, rfl, .inl (SqL.of e), by rw [r.length]; exact c _ _ H (Evo.refl _ _) (Is.int _) hp⟩
  · obtain ⟨v, rfl, hv⟩ := h.one
    cases hv
    exact .inr ⟨_, rfl, sz hp.1, c _ _ H (Evo.refl _ _) (Is.int _) hp.2⟩
  · exact hp.elim
/-- int of a truth or a number -/
def gInt : List D → (D → Prop) → Prop := fun ds k => match ds with
  | [.int i] => k (.int i)
  | [.bl b] => k (.int (if b then 1 else 0))
  | _ => False
theorem cd_int {l : Bool} : CallD l .e (fun xs H Q => (∃ i, xs = [.int i] ∧ Q (.int i) H) ∨ ∃ k, xs = [.bl k] ∧ Q (.int (if k then 1 else 0)) H) gInt := fun z X H0 H σ env vs ds Q k o h c hp => by
  unfold gInt at hp
  split at hp
  · obtain ⟨v, rfl, hv⟩ := h.one
    cases hv
    exact .inl ⟨_, rfl, c _ _ H (Evo.refl _ _) (Is.int _) hp⟩
  · obtain ⟨v, rfl, hv⟩ := h.one
    cases hv
    exact .inr ⟨_, rfl, c _ _ H (Evo.refl _ _) (Is.int _) hp⟩
  · exact hp.elim
/-- isinstance -/
def tyD : D → Option String
  | .non => some "NoneType"
  | .bl _ => some "bool"
  | .int _ => some "int"
  | .str _ => some "str"
  | .tup _ => some "tuple"
  | .lst _ => some "list"
  | .dic _ => some "dict"
  | _ => none
def isB : String → String → Option Bool
  | "int", "int" => some true
  | "bool", "int" => some true
  | "bool", "bool" => some true
  | "str", "str" => some true
  | "tuple", "tuple" => some true
  | "list", "list" => some true
  | "dict", "dict" => some true
  | "NoneType", "int" => some false
  | "NoneType", "bool" => some false
  | "NoneType", "str" => some false
  | "NoneType", "tuple" => some false
  | "NoneType", "list" => some false
  | "NoneType", "dict" => some false
  | "bool", "str" => some false
  | "bool", "tuple" => some false
  | "bool", "list" => some false
  | "bool", "dict" => some false
  | "int", "bool" => some false
  | "int", "str" => some false
  | "int", "tuple" => some false
  | "int", "list" => some false
  | "int", "dict" => some false
  | "str", "int" => some false
  | "str", "bool" => some false
  | "str", "tuple" => some false
  | "str", "list" => some false
  | "str", "dict" => some false
  | "tuple", "int" => some false
  | "tuple", "bool" => some false
  | "tuple", "str" => some false
  | "tuple", "list" => some false
  | "tuple", "dict" => some false
  | "list", "int" => some false
  | "list", "bool" => some false
  | "list", "str" => some false
  | "list", "tuple" => some false
  | "list", "dict" => some false
  | "dict", "int" => some false
  | "dict", "bool" => some false
  | "dict", "str" => some false
  | "dict", "tuple" => some false
  | "dict", "list" => some false
  | _, _ => none
theorem isB_kit {a b : String} {r : Bool} (h : isB a b = some r) : kitB a b = some r := by
  unfold isB at h
  split at h <;> first | (cases h; decide +kernel) | cases h
def gIsi : List D → (D → Prop) → Prop := fun ds k => match ds with
  | [x, .ty n] => ∃ t b, tyD x = some t ∧ isB t n = some b ∧ k (.bl b)
  | _ => False
theorem Is.ty' {z : Zn} {M : AP} {H : Hp} {v : V} {d : D} {K : PySem.W.Frag} {t : String} (h : Is z M H v d) (e : tyD d = some t) : TyOf K H v (.type t) := by
  cases h with
  | non => cases e; exact .non
  | bl b => cases e; exact .bl b
  | int b => cases e; exact .int b
  | str b => cases e; exact .str b
  | tup h _ _ => cases e; exact .tup h
  | lst h _ _ => cases e; exact .lst h
  | dic h _ _ => cases e; exact .dK h
  | _ => cases e
theorem cd_isi {l : Bool} {K : PySem.W.Frag} : CallD l .e (rIsi K) gIsi := fun z X H0 H σ env vs ds Q k o h c hp => by
  unfold gIsi at hp
  split at hp
  · obtain ⟨v, u, rfl, hv, hu⟩ := h.two
    cases hu
    obtain ⟨t, b, h1, h2, hk⟩ := hp
    exact ⟨v, .ty _, .type t, .type _, b, rfl, .ty _, .base (hv.ty' h1), kit_ty (isB_kit h2), c _ _ H (Evo.refl _ _) (Is.bl _) hk⟩
  · exact hp.elim
section
variable {C : Cx} {e : Expr} {p : PX} {m : Mode} {pos pp : Pos} {x : Str}
/-- tuple(x), list(x) -/
def dTuple : D → (D → Prop) → Prop := fun d k => match d with
  | .lst xs => k (.tup xs)
  | .tup xs => k (.tup xs)
  | _ => False
def dList : D → (D → Prop) → Prop := fun d k => match d with
  | .lst xs => k (.lst xs)
  | .tup xs => k (.lst xs)
  | _ => False
theorem e_tuple (h : E .c C e p) (hg : Gl C x) (hm : C.mg x = none) (hv : bootBuiltins x = some (.type "tuple")) (hn : x ≠ "__name__" := by decide) (hdb : (x == ("__debug__" : Str)) = false := by decide)
    (he : starEach [e] C.env = (false, eval e C.env) :: starEach [] C.env := by rfl) (hpl : (backTo pos (starEach [] C.env)).any (·.1) = false := by rfl) : E .e C (.Call (.Name x pp) [e] [] pos) (eUn dTuple p) := by
  obtain ⟨t, h1, h2⟩ := h
  refine ⟨_, pe_callTy call_tuple_of hg hm hv (pa_cons h1 pa_nil he) hn hdb he hpl, fun z X H0 H σ env Q k o c hp => h2 z X H0 H σ env _ _ o (fun d v H1 e1 r1 hx => ?_) hp⟩
  cases d with
  | tup xs =>
    obtain ⟨a, vs, rfl, q1, q2, n⟩ := r1.conT
    exact ⟨a, vs, rfl, .inr ⟨SqT.of q1, c _ _ H1 e1 (Is.tup q1 n q2) hx⟩⟩
  | lst xs =>
    obtain ⟨a, vs, rfl, q1, q2, n⟩ := r1.conL
    exact ⟨a, vs, rfl, .inl ⟨SqL.of q1, fun q hq => c _ _ _ (e1.new hq) ((Rel.newT (e1.fresh hq) hq q2).fe o) hx⟩⟩
  | _ => exact (show False from hx).elim
theorem e_list (h : E .c C e p) (hg : Gl C x) (hm : C.mg x = none) (hv : bootBuiltins x = some (.type "list")) (hn : x ≠ "__name__" := by decide) (hdb : (x == ("__debug__" : Str)) = false := by decide)
    (he : starEach [e] C.env = (false, eval e C.env) :: starEach [] C.env := by rfl) (hpl : (backTo pos (starEach [] C.env)).any (·.1) = false := by rfl) : E .f C (.Call (.Name x pp) [e] [] pos) (eUn dList p) := by
  obtain ⟨t, h1, h2⟩ := h
  refine ⟨_, pe_callTy call_list_of hg hm hv (pa_cons h1 pa_nil he) hn hdb he hpl, fun z X H0 H σ env Q k o c hp => h2 z X H0 H σ env _ _ o (fun d v H1 e1 r1 hx => ?_) hp⟩
  cases d with
  | tup xs =>
    obtain ⟨a, vs, rfl, q1, q2, n⟩ := r1.conT
    exact ⟨a, vs, rfl, .inr (SqT.of q1), fun q hq => c _ _ _ (e1.new hq) (Rel.newL (e1.fresh hq) hq q2) hx⟩
  | lst xs =>
    obtain ⟨a, vs, rfl, q1, q2, n⟩ := r1.conL
    exact ⟨a, vs, rfl, .inl (SqL.of q1), fun q hq => c _ _ _ (e1.new hq) (Rel.newL (e1.fresh hq) hq q2) hx⟩
  | _ => exact (show False from hx).elim
/-- [x] * n -/
def dRep : D → D → (D → Prop) → Prop := fun x y k => match x, y with
  | .lst xs, .int i => i < 100000 ∧ xs.length * i.toNat ≤ 100000 ∧ -100000 < i ∧ k (.lst (List.replicate i.toNat xs).flatten)
  | _, _ => False
theorem IsA.rep {z : Zn} {M : AP} {H : Hp} {vs : List V} {ds : List D} (h : IsA z M H vs ds) : ∀ n : Nat, IsA z M H (List.replicate n vs).flatten (List.replicate n ds).flatten
  | 0 => .nil
  | n + 1 => by
    rw [List.replicate_succ, List.replicate_succ, List.flatten_cons, List.flatten_cons]
    exact h.append (IsA.rep h n)
theorem opd_rep : OpD .c .f rRep dRep := fun z X H0 H σ env v u x y Q k o r1 r2 c hp => by
  cases x with
  | lst xs =>
    cases y with
    | int i =>
      obtain ⟨h1, h2, h3, hk⟩ := hp
      obtain ⟨a, vs, rfl, q1, q2, n⟩ := r1.conL
      exact ⟨a, i, vs, rfl, r2.intC, q1, by omega, by omega, sz (by rw [q2.length]; exact h2), fun q hq => c _ _ _ ((Evo.refl _ _).new hq) (Rel.newL hq hq (q2.rep _)) hk⟩
    | _ => exact (show False from hp).elim
  | _ => exact (show False from hp).elim
end

/-! ### calls of the program's own defs -/
/-- the promise of a def by its reading wp without places; fr: it gives a new list -/
def Sf (fr : Bool) (n : Nat) (wp : List D → (D → Prop) → Prop) : Sp := fun vs H Q _ => ∃ (z : Zn) (X : AP) (ds : List D) (k : D → Prop), vs.length = n ∧ ((∀ a, z.Z a → H a ≠ none) ∧ Tabs H) ∧ (∀ a, X a → H a ≠ none ∧ ¬ z.Z a) ∧ IsA z (Zx z X) H vs ds ∧ wp ds k ∧
  ∀ d v H', Evo z H H' → Is z (Zx z X) H' v d → (fr = true → ∃ a, v = .ref a ∧ H a = none ∧ Con z (Zx z (X.or a)) H' a d) → k d → Q v H'
section
variable {C : Cx} {e : Expr} {es : List Expr} {p : PX} {ga : PAs} {m mo : Mode} {fr : Bool} {k n : Nat} {pos pp : Pos} {x : Str} {f : Addr} {fd : FuncData} {ps : List Str} {wp : List D → (D → Prop) → Prop}
/-- what slots own, and X -/
def Ox (X : AP) (σ : Sl) (env : List SV) : AP := fun a => X a ∨ ∃ (i : Nat) (d : D), env[i]? = some (.own d) ∧ σ[i]? = some (some (V.ref a))
theorem Ok.ox {z : Zn} {X : AP} {H0 H : Hp} {σ : Sl} {env : List SV} (o : Ok z X H0 H σ env) {a : Addr} (h : Ox X σ env a) : H a ≠ none ∧ ¬ z.Z a := by
  rcases h with h | ⟨i, d, h1, h2⟩
  · exact o.xal a h
  · obtain ⟨b, q1, q2, q3, _⟩ := o.own i d h1
    rw [h2] at q1
    cases q1
    obtain ⟨u, hu⟩ := q2.some
    exact ⟨(by rw [hu]; intro w; cases w), q3⟩
theorem zx_ox {z : Zn} {X : AP} {σ : Sl} {env : List SV} {a : Addr} : Zx z (Ox X σ env) a ↔ Ms z X σ env a := by
  constructor
  · rintro (h | h | h)
    · exact .inl h
    · exact .inr (.inl h)
    · exact .inr (.inr h)
  · rintro (h | h | h)
    · exact .inl h
    · exact .inr (.inl h)
    · exact .inr (.inr h)
theorem re_call {t : TA} (h : RA true t ga) (E' : XK) (hm : mo = .e ∨ (mo = .f ∧ fr = true)) : RE mo (tCall (Sf fr n wp) [] E' t) (eCall (fun ds k => ds.length = n ∧ wp ds k) ga) := fun z X H0 H σ env Q k o c hp => by
  refine h z X H0 H σ env _ _ o (fun ds vs H1 e1 r1 hx => ?_) hp
  have o1 := o.go e1
  rw [if_pos rfl] at r1
  refine ⟨z, Ox X σ env, ds, k, by rw [List.append_nil, r1.length]; exact hx.1, ⟨o1.zal, o1.tab⟩, fun a => o1.ox, by rw [List.append_nil]; exact r1.weak fun a q => zx_ox.mp q, hx.2, fun d v H2 e2 r2 fq kd => ?_⟩
  refine c d v H2 (e1.trans e2) ?_ kd
  rcases hm with rfl | ⟨rfl, hf⟩
  · exact Is.weak (fun a q => zx_ox.mpr q) r2
  · obtain ⟨a, ev, ha, hc⟩ := fq hf
    refine ⟨a, ev, e1.fresh ha, hc.gen (fun _ q => q) (fun b u q n => ⟨q, fun y => n ?_⟩) fun _ h => h⟩
    rcases y with y | (y | y) | y
    · exact .inl y
    · exact .inr (.inl (.inl y))
    · exact .inr (.inr y)
    · exact .inr (.inl (.inr y))
/-- with arguments for a look only -/
theorem re_callB {t : TA} (h : RA false t ga) (E' : XK) : RE .b (tCall (Sf fr n wp) [] E' t) (eCall (fun ds k => ds.length = n ∧ wp ds k) ga) := fun z X H0 H σ env Q k o c hp => by
  refine h z X H0 H σ env _ _ o (fun ds vs H1 e1 r1 hx => ?_) hp
  have o1 := o.go e1
  rw [if_neg Bool.false_ne_true] at r1
  exact ⟨z, X, ds, k, by rw [List.append_nil, r1.length]; exact hx.1, ⟨o1.zal, o1.tab⟩, o1.xal, by rw [List.append_nil]; exact r1, hx.2, fun d v H2 e2 r2 fq kd => c d v H2 (e1.trans e2) r2 kd⟩
theorem e_call (F : FnOk C.prog C.w C.K C.mg C.base CX0 k f fd ps (Sf fr n wp)) (hr : Room k C.A) (hg : Gl C x) (hm : C.mg x = some (.ref f)) (hk : PySem.W.keepIn C.K (.ref f) = true) (hb : Binds C.K fd ps [])
    (ha : A true C (e :: es) ga) (hmo : mo = .e ∨ (mo = .f ∧ fr = true)) (hdb : (x == ("__debug__" : Str)) = false := by decide) (he : starEach (e :: es) C.env = (false, eval e C.env) :: starEach es C.env := by rfl) (hpl : (backTo pos (starEach es C.env)).any (·.1) = false := by rfl) :
    E mo C (.Call (.Name x pp) (e :: es) [] pos) (eCall (fun ds k => ds.length = n ∧ wp ds k) ga) := by
  obtain ⟨t, h1, h2⟩ := ha
  exact ⟨_, pe_call F hr hg hm hk hb .nil pass0 h1 hdb he hpl, re_call h2 E0 hmo⟩
theorem e_callL (F : FnOk C.prog C.w C.K C.mg C.base CX0 k f fd ps (Sf fr n wp)) (hr : Room k C.A) (hg : Gl C x) (hm : C.mg x = some (.ref f)) (hk : PySem.W.keepIn C.K (.ref f) = true) (hb : Binds C.K fd ps [])
    (ha : A false C (e :: es) ga) (hdb : (x == ("__debug__" : Str)) = false := by decide) (he : starEach (e :: es) C.env = (false, eval e C.env) :: starEach es C.env := by rfl) (hpl : (backTo pos (starEach es C.env)).any (·.1) = false := by rfl) :
    E .b C (.Call (.Name x pp) (e :: es) [] pos) (eCall (fun ds k => ds.length = n ∧ wp ds k) ga) := by
  obtain ⟨t, h1, h2⟩ := ha
  exact ⟨_, pe_call F hr hg hm hk hb .nil pass0 h1 hdb he hpl, re_callB h2 E0⟩
end
end Pu

namespace Pu
open PySem PySem.Spec PyProof.Rows L2
variable [Tbs]
/-! ### statements -/
structure PK' where
  nx : List SV → Prop
  rt : D → Prop
  bk : List SV → Prop := fun _ => False
  ct : List SV → Prop := fun _ => False
  /-- a return of a def that hands a borrowed thing back -/
  re : List SV → D → Prop := fun _ _ => False
abbrev PSt := List SV → PK' → Prop
structure Sim (fr : Bool) (z : Zn) (X : AP) (H0 : Hp) (M : AP) (H : Hp) (G : Ends) (k : PK') : Prop where
  nx : ∀ env' σ' H', Ok z X H0 H' σ' env' → Fr z X M H (Ms z X σ' env') H' → k.nx env' → G.nx σ' H'
  rt : ∀ d v H', Evo z H0 H' → Is z (Zx z X) H' v d → (fr = true → ∃ a, v = .ref a ∧ H0 a = none ∧ Con z (Zx z (X.or a)) H' a d) → k.rt d → G.rt v H'
  bk : ∀ env' σ' H', Ok z X H0 H' σ' env' → Fr z X M H (Ms z X σ' env') H' → k.bk env' → G.bk σ' H'
  ct : ∀ env' σ' H', Ok z X H0 H' σ' env' → Fr z X M H (Ms z X σ' env') H' → k.ct env' → G.ct σ' H'
  re : ∀ env' σ' H' d v, Ok z X H0 H' σ' env' → Is z (Ms z X σ' env') H' v d → k.re env' d → G.rt v H'
theorem Sim.go {fr : Bool} {z : Zn} {X : AP} {H0 : Hp} {M M1 : AP} {H H1 : Hp} {G : Ends} {k : PK'} (s : Sim fr z X H0 M H G k) (f : Fr z X M H M1 H1) : Sim fr z X H0 M1 H1 G k :=
  ⟨fun e σ H' o g h => s.nx e σ H' o (f.trans g) h, s.rt, fun e σ H' o g h => s.bk e σ H' o (f.trans g) h, fun e σ H' o g h => s.ct e σ H' o (f.trans g) h, s.re⟩
def RS (fr : Bool) (t : TS) (p : PSt) : Prop := ∀ (z : Zn) (X : AP) (H0 H : Hp) (σ : Sl) (env : List SV) (G : Ends) (k : PK'), Ok z X H0 H σ env → Sim fr z X H0 (Ms z X σ env) H G k → p env k → t G σ H
structure S (fr : Bool) (C : Cx) (st : Stmt) (p : PSt) : Prop where
  ex : ∃ t, PS C st t ∧ RS fr t p
structure B (fr : Bool) (C : Cx) (st : List Stmt) (p : PSt) : Prop where
  ex : ∃ t, PSs C st t ∧ RS fr t p
section
variable {C : Cx} {fr : Bool} {st : Stmt} {rest : List Stmt} {p q : PSt} {e : Expr} {pe : PX} {m : Mode} {pos : Pos}
def sNext : PSt := fun env k => k.nx env
def sSeq (p q : PSt) : PSt := fun env k => p env { k with nx := fun env' => q env' k }
theorem b_nil : B fr C [] sNext := ⟨_, pss_nil, fun z X H0 H σ env G k o s h => s.nx env σ H o Fr.refl h⟩
theorem b_cons (h : S fr C st p) (g : B fr C rest q) : B fr C (st :: rest) (sSeq p q) := by
  obtain ⟨t, h1, h2⟩ := h
  obtain ⟨u, g1, g2⟩ := g
  refine ⟨_, pss_cons h1 g1, fun z X H0 H σ env G k o s hp => h2 z X H0 H σ env _ { k with nx := fun env' => q env' k } o ⟨fun env' σ' H' o' f hx => ?_, s.rt, s.bk, s.ct, s.re⟩ hp⟩
  exact g2 z X H0 H' σ' env' G k o' (s.go f) hx
theorem b_one (h : S fr C st p) : B fr C [st] p := let ⟨t, h1, h2⟩ := h; ⟨t, pss_one h1, h2⟩
theorem s_pass : S fr C (.Pass pos) sNext := ⟨_, ps_pass, fun z X H0 H σ env G k o s h => s.nx env σ H o Fr.refl h⟩
def sBreak : PSt := fun env k => k.bk env
def sCont : PSt := fun env k => k.ct env
theorem s_break : S fr C (.Break pos) sBreak := ⟨_, ps_break, fun z X H0 H σ env G k o s h => s.bk env σ H o Fr.refl h⟩
theorem s_cont : S fr C (.Continue pos) sCont := ⟨_, ps_continue, fun z X H0 H σ env G k o s h => s.ct env σ H o Fr.refl h⟩
def sDrop (p : PX) : PSt := fun env k => p env fun _ => k.nx env
theorem s_expr (h : E m C e pe) (hs : swapsWith e none pos.line C.env = pure false := by rfl) : S fr C (.Expr e pos) (sDrop pe) := by
  obtain ⟨t, h1, h2⟩ := h
  exact ⟨_, ps_expr h1 hs, fun z X H0 H σ env G k o s hp => h2 z X H0 H σ env _ _ o (fun d v H1 e1 r1 hx => s.nx env σ H1 (o.go e1) (o.fr e1) hx) hp⟩
def sRet (p : PX) : PSt := fun env k => p env k.rt
theorem s_ret (h : E m C e pe) : S false C (.Return (some e) pos) (sRet pe) := by
  obtain ⟨t, h1, h2⟩ := h.toB
  exact ⟨_, ps_ret h1, fun z X H0 H σ env G k o s hp => h2 z X H0 H σ env _ _ o (fun d v H1 e1 r1 hx => s.rt d v H1 (o.evo.trans e1) r1 (fun q => Bool.noConfusion q) hx) hp⟩
theorem s_retF (h : E .f C e pe) : S true C (.Return (some e) pos) (sRet pe) := by
  obtain ⟨t, h1, h2⟩ := h
  refine ⟨_, ps_ret h1, fun z X H0 H σ env G k o s hp => h2 z X H0 H σ env _ _ o (fun d v H1 e1 r1 hx => s.rt d v H1 (o.evo.trans e1) (r1.fe o).eb (fun _ => ?_) hx) hp⟩
  obtain ⟨a, ev, ha, hc⟩ := r1
  refine ⟨a, ev, o.evo.fresh ha, hc.gen (fun _ q => q) (fun b u q n => ⟨q, fun y => n ?_⟩) fun _ h => h⟩
  rcases y with y | y
  · exact .inl y
  · exact .inr (.inl y)
/-- return of a list that a slot owns -/
def sRetO (i : Nat) : PSt := fun env k => match env[i]? with
  | some (.own d) => k.rt d
  | _ => False
theorem s_retO (i : Nat) {x : Str} {pp : Pos} (hN : C.N[i]? = some x := by rfl) (hv : Vis C.env.scope x := by first | exact Or.inl rfl | exact Or.inr (Or.inl rfl) | exact Or.inr (Or.inr rfl)) (hd : (x == ("__debug__" : Str)) = false := by decide)
    (hcd : (x == ("__classdict__" : Str)) = false := by decide) : S fr C (.Return (some (.Name x pp)) pos) (sRetO i) := by
  refine ⟨_, ps_ret (pe_var hN hv hd hcd), fun z X H0 H σ env G k o s hp => ?_⟩
  unfold sRetO at hp
  split at hp
  · rename_i d he
    obtain ⟨a, h1, h2, h3, h4, h5⟩ := o.own i d he
    refine ⟨_, h1, s.rt d _ H o.evo ((h2.gen (fun _ q => q) (fun b u q n => ⟨q, fun y => n y.ms⟩) fun _ h => h).is fun q => q.elim h3 h4) (fun _ => ⟨a, rfl, h5, h2.gen (fun _ q => q) (fun b u q n => ⟨q, fun y => n ?_⟩) fun _ h => h⟩) hp⟩
    rcases y with y | y | y
    · exact .inl y
    · exact .inr (.inl y)
    · exact .inr (.inr ⟨i, d, he, by rw [y]; exact h1⟩)
  · exact hp.elim
def sRetN : PSt := fun _ k => k.rt .non
theorem s_retN : S false C (.Return none pos) sRetN := ⟨_, ps_retN, fun z X H0 H σ env G k o s hp => s.rt .non .non H o.evo .non (fun q => Bool.noConfusion q) hp⟩
def sIf (c : PTs') (p q : PSt) : PSt := fun env k => c env fun b => if b = true then p env k else q env k
theorem s_if {c : Expr} {a b : List Stmt} {tc : PTs'} (h : T C c tc) (ha : B fr C a p) (hb : B fr C b q) : S fr C (.If c a b pos) (sIf tc p q) := by
  obtain ⟨t, h1, h2⟩ := h
  obtain ⟨ta, a1, a2⟩ := ha
  obtain ⟨tb, b1, b2⟩ := hb
  refine ⟨_, ps_if h1 a1 b1, fun z X H0 H σ env G k o s hp => h2 z X H0 H σ env _ _ o (fun x H1 e1 hx => ?_) hp⟩
  cases x with
  | true => exact a2 z X H0 H1 σ env G k (o.go e1) (s.go (o.fr e1)) hx
  | false => exact b2 z X H0 H1 σ env G k (o.go e1) (s.go (o.fr e1)) hx
/-! ### stores -/
def sSet (i : Nat) (p : PX) : PSt := fun env k => p env fun d => k.nx (env.set i (.val d))
theorem s_set {i : Nat} {x : Str} {pp : Pos} (h : E .e C e pe) (hN : C.N.Nodup) (hi : C.N[i]? = some x) (hx : Loc C.env.scope x) (hs : swapsWith e (some (.Name x pp)) pos.line C.env = pure false := by rfl) (hf : C.fn x = true ∨ C.env.scope.names.lookup x = some .local := by first | exact .inl rfl | exact .inr rfl | assumption) :
    S fr C (.Assign [.Name x pp] e pos) (sSet i pe) := by
  obtain ⟨t, h1, h2⟩ := h
  refine ⟨_, ps_set hN hi hx h1 hs hf, fun z X H0 H σ env G k o s hp => h2 z X H0 H σ env _ _ o (fun d v H1 e1 r1 hx => ?_) hp⟩
  obtain ⟨o2, f2⟩ := (o.go e1).set (i := i) (show Is z _ H1 v d from r1)
  exact s.nx _ _ H1 o2 ((o.fr e1).trans f2) hx
def sOwn (i : Nat) (p : PX) : PSt := fun env k => p env fun d => i < env.length ∧ k.nx (env.set i (.own d))
theorem rs_own {i : Nat} {t : TE} (h : RE .f t pe) : RS fr (tAsg t (gName i)) (sOwn i pe) := fun z X H0 H σ env G k o s hp => h z X H0 H σ env _ _ o (fun d v H1 e1 r1 hx => by
  obtain ⟨a, rfl, ha, hc⟩ := r1
  obtain ⟨o2, f2⟩ := o.take hx.1 e1 ha hc
  exact s.nx _ _ H1 o2 f2 hx.2) hp
theorem s_own {i : Nat} {x : Str} {pp : Pos} (h : E .f C e pe) (hN : C.N.Nodup) (hi : C.N[i]? = some x) (hx : Loc C.env.scope x) (hs : swapsWith e (some (.Name x pp)) pos.line C.env = pure false := by rfl) (hf : C.fn x = true ∨ C.env.scope.names.lookup x = some .local := by first | exact .inl rfl | exact .inr rfl | assumption) :
    S fr C (.Assign [.Name x pp] e pos) (sOwn i pe) := by
  obtain ⟨t, h1, h2⟩ := h
  exact ⟨_, ps_set hN hi hx h1 hs hf, rs_own h2⟩
/-- targets -/
abbrev PGt := D → List SV → (List SV → Prop) → Prop
abbrev PGs' := List D → List SV → (List SV → Prop) → Prop
/-- nothing but the slots js is stored to -/
def Keep (js : List Nat) (σ : Sl) (env : List SV) (σ' : Sl) (env' : List SV) : Prop := σ'.length = σ.length ∧ ∀ i, i ∉ js → env'[i]? = env[i]? ∧ σ'[i]? = σ[i]?
theorem Keep.refl {σ : Sl} {env : List SV} : Keep [] σ env σ env := ⟨rfl, fun _ _ => ⟨rfl, rfl⟩⟩
theorem Keep.trans {a b : List Nat} {σ σ1 σ2 : Sl} {env env1 env2 : List SV} (h : Keep a σ env σ1 env1) (g : Keep b σ1 env1 σ2 env2) : Keep (a ++ b) σ env σ2 env2 :=
  ⟨g.1.trans h.1, fun i hi => by
    rw [List.mem_append, not_or] at hi
    exact ⟨(g.2 i hi.2).1.trans (h.2 i hi.1).1, (g.2 i hi.2).2.trans (h.2 i hi.1).2⟩⟩
def RG (js : List Nat) (g : TG) (p : PGt) : Prop := ∀ (z : Zn) (X : AP) (H0 H : Hp) (σ : Sl) (env : List SV) (v : V) (d : D) (Q : Sl → Hp → Prop) (k : List SV → Prop), Ok z X H0 H σ env → Is z (Ms z X σ env) H v d →
  (∀ env' σ', Ok z X H0 H σ' env' → Fr z X (Ms z X σ env) H (Ms z X σ' env') H → Keep js σ env σ' env' → k env' → Q σ' H) → p d env k → g v σ H Q
def RGs (js : List Nat) (g : TGs) (p : PGs') : Prop := ∀ (z : Zn) (X : AP) (H0 H : Hp) (σ : Sl) (env : List SV) (v : List V) (d : List D) (Q : Sl → Hp → Prop) (k : List SV → Prop), Ok z X H0 H σ env → IsA z (Ms z X σ env) H v d →
  (∀ env' σ', Ok z X H0 H σ' env' → Fr z X (Ms z X σ env) H (Ms z X σ' env') H → Keep js σ env σ' env' → k env' → Q σ' H) → p d env k → g v σ H Q
structure G (C : Cx) (tg : Expr) (js : List Nat) (g : TG) (p : PGt) : Prop where
  pg : PG C tg g
  rg : RG js g p
structure Gs (C : Cx) (tg : List Expr) (js : List Nat) (g : TGs) (p : PGs') : Prop where
  pg : PGs C tg g
  rg : RGs js g p
def gtName (i : Nat) : PGt := fun d env k => k (env.set i (.val d))
theorem g_name {i : Nat} {x : Str} (hN : C.N.Nodup) (hi : C.N[i]? = some x) (hx : Loc C.env.scope x) (hf : C.fn x = true ∨ C.env.scope.names.lookup x = some .local := by first | exact .inl rfl | exact .inr rfl | assumption) : G C (.Name x pos) [i] (gName i) (gtName i) :=
  ⟨pg_name hN hi hx hf, fun z X H0 H σ env v d Q k o hv c hp => let ⟨o2, f2⟩ := o.set (i := i) hv; c _ _ o2 f2 ⟨by simp, fun j hj => by
    have hj' : i ≠ j := fun e => hj (by simp [e])
    exact ⟨List.getElem?_set_ne hj', List.getElem?_set_ne hj'⟩⟩ hp⟩
def gtNil : PGs' := fun ds env k => match ds with
  | [] => k env
  | _ => False
def gtCons (p : PGt) (q : PGs') : PGs' := fun ds env k => match ds with
  | d :: r => p d env fun env' => q r env' k
  | _ => False
theorem gs_nil : Gs C [] [] gNil gtNil := ⟨pgs_nil, fun z X H0 H σ env v d Q k o hv c hp => by
  cases hv with
  | nil => exact ⟨rfl, c env σ o Fr.refl Keep.refl hp⟩
  | cons _ _ => exact (show False from hp).elim⟩
theorem gs_cons {es : List Expr} {js ks : List Nat} {g : TG} {gs : TGs} {p : PGt} {q : PGs'} (h1 : G C e js g p) (h2 : Gs C es ks gs q) (hs : (assignEach (e :: es) C.env).map (·.2) = assign e C.env :: (assignEach es C.env).map (·.2) := by rfl) : Gs C (e :: es) (js ++ ks) (gCons g gs) (gtCons p q) :=
  ⟨pgs_cons h1.pg h2.pg hs, fun z X H0 H σ env v d Q k o hv c hp => by
    cases hv with
    | nil => exact (show False from hp).elim
    | cons q t =>
      refine ⟨_, _, rfl, h1.rg z X H0 H σ env _ _ _ _ o q (fun env' σ' o' f' kp hx => ?_) hp⟩
      exact h2.rg z X H0 H σ' env' _ _ _ _ o' (f'.isA t) (fun env2 σ2 o2 f2 kp2 hy => c env2 σ2 o2 (f'.trans f2) (kp.trans kp2) hy) hx⟩
def gtTup (n : Nat) (q : PGs') : PGt := fun d env k => match d with
  | .tup ds => ds.length = n ∧ q ds env k
  | _ => False
theorem g_tup {es : List Expr} {js : List Nat} {kk : Nat} {gs : TGs} {q : PGs'} {n : Nat} (hc : C.calm = true) (h : Gs C es js gs q)
    (hn : (assignEach es C.env).length = n := by rfl) (hst : (assignEach es C.env).findIdx? (·.1) = none := by rfl) : G C (.Tuple es kk pos) js (gTup C.K n gs) (gtTup n q) :=
  ⟨pg_tup hc h.pg hn hst, fun z X H0 H σ env v d Q k o hv c hp => by
    cases hv with
    | tup e nn r => exact ⟨_, _, rfl, SqT.of e, by rw [r.length]; exact hp.1, h.rg z X H0 H σ env _ _ _ _ o r c hp.2⟩
    | _ => exact (show False from hp).elim⟩
def sAsg (p : PX) (g : PGt) : PSt := fun env k => p env fun d => g d env k.nx
theorem s_asg {tg : Expr} {js : List Nat} {g : TG} {pg : PGt} (h : E .e C e pe) (hg : G C tg js g pg) (hs : swapsWithSole [tg] e pos.line C.env = pure false := by rfl) (hw : swappedStores [tg] e C.env = pure none := by rfl)
    (h1 : (assignEach [tg] C.env).map (·.2) = [assign tg C.env] := by rfl) : S fr C (.Assign [tg] e pos) (sAsg pe pg) := by
  obtain ⟨t, a1, a2⟩ := h
  refine ⟨_, ps_asg a1 hg.pg hs hw h1, fun z X H0 H σ env G k o s hp => a2 z X H0 H σ env _ _ o (fun d v H1 e1 r1 hx => ?_) hp⟩
  exact hg.rg z X H0 H1 σ env v d _ _ (o.go e1) r1 (fun env' σ' o' f' _ hy => s.nx env' σ' H1 o' ((o.fr e1).trans f') hy) hx
/-- a, b = x, y -/
def prK (ds : List D) (k : D → D → Prop) : Prop := match ds with
  | [c, d] => k c d
  | _ => False
def sPar (i j : Nat) (g : PAs) : PSt := fun env k => g env fun ds => prK ds fun c d => k.nx ((env.set i (.val c)).set j (.val d))
theorem s_par {i j : Nat} {x y : Str} {a b : Expr} {g : PAs} {px py pt : Pos} {kt k2 pt2} (ha : A true C [a, b] g) (hc : C.calm = true) (hN : C.N.Nodup) (hi : C.N[i]? = some x) (hj : C.N[j]? = some y) (hij : i ≠ j)
    (hx : C.env.scope.names.lookup x = some .local) (hy : C.env.scope.names.lookup y = some .local)
    (hw : swappedStores [.Tuple [.Name x px, .Name y py] kt pt] (.Tuple [a, b] k2 pt2) C.env = pure (some [x, y]))
    (hs : swapsWithSole [.Tuple [.Name x px, .Name y py] kt pt] (.Tuple [a, b] k2 pt2) pos.line C.env = pure false := by rfl) :
    S fr C (.Assign [.Tuple [.Name x px, .Name y py] kt pt] (.Tuple [a, b] k2 pt2) pos) (sPar i j g) := by
  obtain ⟨t, a1, a2⟩ := ha
  refine ⟨_, ps_par hc hN hi hj hij hx hy a1 hw hs, fun z X H0 H σ env G k o s hp => a2 z X H0 H σ env _ _ o (fun ds vs H1 e1 r1 hx => ?_) hp⟩
  rw [if_pos rfl] at r1
  unfold prK at hx
  split at hx
  · obtain ⟨v, u, rfl, hv, hu⟩ := r1.two
    obtain ⟨o2, f2⟩ := (o.go e1).set (i := i) hv
    obtain ⟨o3, f3⟩ := o2.set (i := j) (f2.is hu)
    exact ⟨v, u, rfl, s.nx _ _ H1 o3 ((o.fr e1).trans (f2.trans f3)) hx⟩
  · exact hx.elim
/-! ### what a slot owns is changed -/
/-- x.append(e) -/
def sAppend (i : Nat) (p : PX) : PSt := fun env k => match env[i]? with
  | some (.own (.lst xs)) => p env fun d => xs.length ≤ 100000 ∧ k.nx (env.set i (.own (.lst (xs ++ [d]))))
  | some (.own (.bor xs)) => p env fun d => xs.length ≤ 100000 ∧ k.nx (env.set i (.own (.bor (xs ++ [d]))))
  | _ => False
theorem szl {n : Nat} (h : n ≤ 100000) : n < sizeLine := Nat.lt_of_le_of_lt h (by decide)
theorem s_append (i : Nat) {x : Str} {pp apos cpos : Pos} (h : E .e C e pe) (hN : C.N[i]? = some x := by rfl) (hv : Vis C.env.scope x := by first | exact Or.inl rfl | exact Or.inr (Or.inl rfl) | exact Or.inr (Or.inr rfl)) (hd : (x == ("__debug__" : Str)) = false := by decide)
    (hcd : (x == ("__classdict__" : Str)) = false := by decide)
    (hb : ∀ to te, PE C (.Name x pp) to → PE C e te → PE C (.Call (.Attribute (.Name x pp) "append" apos) [e] [] cpos) (tBM C.K "list" rAppend to (tCons te tNil)))
    (hs : swapsWith (.Call (.Attribute (.Name x pp) "append" apos) [e] [] cpos) none pos.line C.env = pure false := by rfl) :
    S fr C (.Expr (.Call (.Attribute (.Name x pp) "append" apos) [e] [] cpos) pos) (sAppend i pe) := by
  obtain ⟨t, h1, h2⟩ := h
  refine ⟨_, ps_expr (hb _ _ (pe_var hN hv hd hcd) h1) hs, fun z X H0 H σ env G k o s hp => ?_⟩
  unfold sAppend at hp
  split at hp
  · rename_i xs he
    obtain ⟨a, q1, q2, q3, q4⟩ := o.own i _ he
    obtain ⟨vs, q5, q6⟩ := q2
    refine ⟨_, q1, .inl ⟨rfl, vs, SqL.of q5⟩, h2 z X H0 H σ env _ _ o (fun d v H1 e1 r1 hx => ?_) hp⟩
    have o1 := o.go e1
    have q5' := e1.old a _ q5 q3
    refine ⟨a, vs, v, rfl, rfl, q5', by rw [q6.length]; exact szl hx.1, ?_⟩
    have ia : Ms z X σ env a := .inr (.inr ⟨i, _, he, q1⟩)
    have old : ∀ b u, H1 b = some u → ¬ Ms z X σ env b → upd H1 a (.lst (vs ++ [v])) b = some u ∧ ¬ Ms z X σ env b := fun b u hb n => ⟨by rw [upd_ne (fun e => n (by rw [e]; exact ia))]; exact hb, n⟩
    obtain ⟨o2, f2⟩ := o1.mut (o := .lst (vs ++ [v])) he q1 (d' := .lst (xs ++ [d])) ⟨vs ++ [v], upd_same, ((IsA.evo (fun _ q => .inl q) e1 q6).append (.cons r1 .nil)).gen old fun b hb => ok_mut q3 hb⟩
    exact s.nx _ _ _ o2 ((o.fr e1).trans f2) hx.2
  · rename_i xs he
    obtain ⟨a, q1, q2, q3, q4⟩ := o.own i _ he
    obtain ⟨qb, vs, q5, q6⟩ := q2
    refine ⟨_, q1, .inl ⟨rfl, vs, SqL.of q5⟩, h2 z X H0 H σ env _ _ o (fun d v H1 e1 r1 hx => ?_) hp⟩
    have o1 := o.go e1
    have q5' := e1.old a _ q5 q3
    refine ⟨a, vs, v, rfl, rfl, q5', by rw [q6.length]; exact szl hx.1, ?_⟩
    have ia : Ms z X σ env a := .inr (.inr ⟨i, _, he, q1⟩)
    have old : ∀ b u, H1 b = some u → ¬ Ms z X σ env b → upd H1 a (.lst (vs ++ [v])) b = some u ∧ ¬ Ms z X σ env b := fun b u hb n => ⟨by rw [upd_ne (fun e => n (by rw [e]; exact ia))]; exact hb, n⟩
    obtain ⟨o2, f2⟩ := o1.mut (o := .lst (vs ++ [v])) he q1 (d' := .bor (xs ++ [d])) ⟨qb, vs ++ [v], upd_same, ((IsA.evo (fun _ q => .inl q) e1 q6).append (.cons r1 .nil)).gen old fun b hb => ok_mut q3 hb⟩
    exact s.nx _ _ _ o2 ((o.fr e1).trans f2) hx.2
  · exact hp.elim
end
/-! ### loops -/
def forP (g : PGt) (body : PSt) : List D → PSt
  | [], env, k => k.nx env
  | d :: ds, env, k => g d env fun env1 => body env1 { nx := fun env2 => forP g body ds env2 k, rt := k.rt, bk := k.nx, ct := fun env2 => forP g body ds env2 k }
/-- how J yields the items ds, wherever what stood outside M stands -/
def Yields (z : Zn) (X : AP) (M : AP) (H : Hp) (J : It) (ds : List D) : Prop := ∀ M' H', Fr z X M H M' H' → J.stop ds.length H' ∧
  ∀ i d, ds[i]? = some d → J.go i H' ∧ ∀ x H2, J.yld i H' x H2 → Evo z H' H2 ∧ ((∀ a, z.Z a → M' a) → (∀ b, H' b = none → ¬ M' b) → Is z M' H2 x d)
abbrev PIt := List SV → (List D → Prop) → Prop
def RI (wi : TI) (p : PIt) : Prop := ∀ (z : Zn) (X : AP) (H0 H : Hp) (σ : Sl) (env : List SV) (R : It → Hp → Prop) (k : List D → Prop), Ok z X H0 H σ env →
  (∀ ds J H', Evo z H H' → Yields z X (Ms z X σ env) H' J ds → k ds → R J H') → p env k → wi σ H R
structure I (C : Cx) (tg it : Expr) (p : PIt) : Prop where
  ex : ∃ wi, PI C tg it wi ∧ RI wi p
def sFor (it : PIt) (g : PGt) (body : PSt) : PSt := fun env k => it env fun ds => forP g body ds env k
theorem rs_for {fr : Bool} {wi : TI} {pi : PIt} {js : List Nat} {g : TG} {pg : PGt} {tb : TS} {pb : PSt} (hi : RI wi pi) (hg : RG js g pg) (hb : RS fr tb pb) : RS fr (tFor wi g tb) (sFor pi pg pb) := fun z X H0 H σ env G k o s hp => by
  refine hi z X H0 H σ env _ _ o (fun ds J H1 e1 yl hx => ?_) hp
  have f1 := o.fr e1
  have o1 := o.go e1
  refine ⟨fun i mm σ' H' => mm = ds.length - i ∧ i ≤ ds.length ∧ ∃ env', Ok z X H0 H' σ' env' ∧ Fr z X (Ms z X σ env) H1 (Ms z X σ' env') H' ∧ forP pg pb (ds.drop i) env' k, ⟨ds.length, by simp, Nat.zero_le _, env, o1, Fr.refl, by simpa using hx⟩, ?_⟩
  rintro i mm σ' H' ⟨rfl, hil, env', o', f', hf⟩
  obtain ⟨y1, y2⟩ := yl _ _ f'
  by_cases hlt : i < ds.length
  · obtain ⟨go, y3⟩ := y2 i ds[i] (List.getElem?_eq_getElem hlt)
    rw [List.drop_eq_getElem_cons hlt] at hf
    refine .inr ⟨go, fun σ2 H2 => ∃ env2, Ok z X H0 H2 σ2 env2 ∧ Fr z X (Ms z X σ env) H1 (Ms z X σ2 env2) H2 ∧ forP pg pb (ds.drop (i + 1)) env2 k, fun σ2 H2 h2 => ⟨ds.length - (i + 1), by omega, rfl, hlt, h2⟩, fun x H2 hy => ?_⟩
    obtain ⟨e2, is⟩ := y3 x H2 hy
    have o2 := o'.go e2
    have f2 := f'.trans (o'.fr e2)
    refine hg z X H0 H2 σ' env' x _ _ _ o2 (is (fun a q => .inl q) (fun b q => o'.notMs q)) (fun env3 σ3 o3 f3 _ hx3 => ?_) hf
    refine hb z X H0 H2 σ3 env3 _ { nx := fun env2 => forP pg pb (ds.drop (i + 1)) env2 k, rt := k.rt, bk := k.nx, ct := fun env2 => forP pg pb (ds.drop (i + 1)) env2 k } o3 ⟨fun env4 σ4 H4 o4 f4 hx4 => ⟨env4, o4, f2.trans (f3.trans f4), hx4⟩, s.rt, fun env4 σ4 H4 o4 f4 hx4 => ?_, fun env4 σ4 H4 o4 f4 hx4 => ⟨env4, o4, f2.trans (f3.trans f4), hx4⟩, fun _ _ _ _ _ _ _ h => h.elim⟩ hx3
    exact s.nx env4 σ4 H4 o4 (f1.trans (f2.trans (f3.trans f4))) hx4
  · have ei : i = ds.length := by omega
    subst ei
    rw [List.drop_length] at hf
    exact .inl ⟨y1, s.nx env' σ' H' o' (f1.trans f') hf⟩
section
variable {C : Cx} {fr : Bool} {tg e : Expr} {body : List Stmt} {pe : PX} {m : Mode} {pos pp : Pos}
theorem s_for {iter : Expr} {pi : PIt} {js : List Nat} {g : TG} {pg : PGt} {pb : PSt} (hi : I C tg iter pi) (hg : G C tg js g pg) (hb : B fr C body pb) (hp : PassesOwn (model C.prog C.w) C.A C.env C.xe) (hc : C.calm = true) (hs : ∀ x, foldedSetIterable iter C.env x = pure x := by intro _; rfl) :
    S fr C (.For tg iter body [] pos) (sFor pi pg pb) := by
  obtain ⟨wi, i1, i2⟩ := hi
  obtain ⟨tb, b1, b2⟩ := hb
  exact ⟨_, ps_for hp hc i1 hg.pg b1 hs, rs_for i2 hg.rg b2⟩
/-- over a tuple or a list -/
def sqK (d : D) (k : List D → Prop) : Prop := match d with
  | .tup xs => k xs
  | .lst xs => k xs
  | _ => False
def iSeq (p : PX) : PIt := fun env k => p env fun d => sqK d k
def iTupP (p : PX) : PIt := fun env k => p env fun d => match d with
  | .tup xs => k xs
  | _ => False
def iLstP (p : PX) : PIt := fun env k => p env fun d => match d with
  | .lst xs => k xs
  | _ => False
theorem yl_tup {z : Zn} {X : AP} {M : AP} {H : Hp} {K : PySem.W.Frag} {a : Addr} {vs : List V} {ds : List D} (h : H a = some (.tup vs)) (n : ¬ M a) (r : IsA z M H vs ds) : Yields z X M H (Itt K a) ds := fun M' H' f => by
  have h' := (f.old a _ h n).1
  have r' := f.isA r
  refine ⟨⟨vs, SqT.of h', by rw [r'.length]; exact Nat.le_refl _⟩, fun i d hd => ?_⟩
  obtain ⟨v, h1, h2⟩ := r'.get hd
  refine ⟨⟨vs, v, SqT.of h', h1⟩, fun x H2 y => ?_⟩
  obtain ⟨rfl, y⟩ := y
  refine ⟨Evo.refl _ _, fun _ _ => ?_⟩
  have e := y vs (SqT.of h')
  rw [h1] at e
  cases e
  exact h2
theorem yl_lst {z : Zn} {X : AP} {M : AP} {H : Hp} {K : PySem.W.Frag} {a : Addr} {vs : List V} {ds : List D} (h : H a = some (.lst vs)) (n : ¬ M a) (r : IsA z M H vs ds) : Yields z X M H (Itl K a) ds := fun M' H' f => by
  have h' := (f.old a _ h n).1
  have r' := f.isA r
  refine ⟨⟨vs, SqL.of h', by rw [r'.length]; exact Nat.le_refl _⟩, fun i d hd => ?_⟩
  obtain ⟨v, h1, h2⟩ := r'.get hd
  refine ⟨⟨vs, v, SqL.of h', h1⟩, fun x H2 y => ?_⟩
  obtain ⟨rfl, y⟩ := y
  refine ⟨Evo.refl _ _, fun _ _ => ?_⟩
  have e := y vs (SqL.of h')
  rw [h1] at e
  cases e
  exact h2
theorem i_tup (h : E .e C e pe) : I C tg e (iTupP pe) := by
  obtain ⟨t, h1, h2⟩ := h
  refine ⟨_, pi_tup h1, fun z X H0 H σ env R k o c hp => h2 z X H0 H σ env _ _ o (fun d v H1 e1 r1 hx => ?_) hp⟩
  cases (show Is z _ H1 v d from r1) with
  | tup e n r => exact ⟨_, rfl, ⟨_, SqT.of e⟩, c _ _ H1 e1 (yl_tup e n r) hx⟩
  | _ => exact (show False from hx).elim
theorem i_lst (h : E .e C e pe) : I C tg e (iLstP pe) := by
  obtain ⟨t, h1, h2⟩ := h
  refine ⟨_, pi_list h1, fun z X H0 H σ env R k o c hp => h2 z X H0 H σ env _ _ o (fun d v H1 e1 r1 hx => ?_) hp⟩
  cases (show Is z _ H1 v d from r1) with
  | lst e n r => exact ⟨_, rfl, ⟨_, SqL.of e⟩, c _ _ H1 e1 (yl_lst e n r) hx⟩
  | _ => exact (show False from hx).elim
/-- over a range -/
def rangeD (lo : Int) (n : Nat) : List D := (List.range n).map fun i => .int (lo + (i : Nat))
theorem yl_rng {z : Zn} {X : AP} {M : AP} {H : Hp} {lo : Int} {n : Nat} : Yields z X M H (Itr lo n) (rangeD lo n) := fun M' H' f => by
  refine ⟨(by show n ≤ (rangeD lo n).length; simp [rangeD]), fun i d hd => ?_⟩
  have hi : i < n := by
    have := (List.getElem?_eq_some_iff.mp hd).1
    simpa [rangeD] using this
  refine ⟨hi, fun x H2 y => ?_⟩
  obtain ⟨rfl, rfl⟩ := y
  refine ⟨Evo.refl _ _, fun _ _ => ?_⟩
  have e : d = .int (lo + (i : Nat)) := by simpa [rangeD, hi, List.getElem?_map, List.getElem?_range] using hd.symm
  rw [e]
  exact Is.int _
def rgK1 (ds : List D) (k : List D → Prop) : Prop := match ds with
  | [.int j] => -100000 < j ∧ j < 100000 ∧ k (rangeD 0 j.toNat)
  | _ => False
def rgK2 (ds : List D) (k : List D → Prop) : Prop := match ds with
  | [.int i, .int j] => (-100000 < i ∧ i < 100000 ∧ -100000 < j ∧ j < 100000) ∧ k (rangeD i (j - i).toNat)
  | _ => False
def iRange1 (p : PAs) : PIt := fun env k => p env fun ds => rgK1 ds k
def iRange2 (p : PAs) : PIt := fun env k => p env fun ds => rgK2 ds k
theorem i_range1 {a : Expr} {p : PAs} {l : Bool} (ha : A l C [a] p) (hg : Gl C "range") (hm : C.mg "range" = none) (hs : starEach [a] C.env = [(false, eval a C.env)] := by rfl) : I C tg (.Call (.Name "range" pp) [a] [] pos) (iRange1 p) := by
  obtain ⟨t, h1, h2⟩ := ha
  refine ⟨_, pi_range1 hg hm h1 hs, fun z X H0 H σ env R k o c hp => h2 z X H0 H σ env _ _ o (fun ds vs H1 e1 r1 hx => ?_) hp⟩
  unfold rgK1 at hx
  split at hx
  · rename_i j
    cases IsA.ints (ns := [_]) r1
    exact ⟨j, rfl, by omega, by omega, c _ _ H1 e1 yl_rng hx.2.2⟩
  · exact hx.elim
theorem i_range2 {a b : Expr} {p : PAs} {l : Bool} (ha : A l C [a, b] p) (hg : Gl C "range") (hm : C.mg "range" = none) (hs : starEach [a, b] C.env = [(false, eval a C.env), (false, eval b C.env)] := by rfl) (hs2 : starEach [b] C.env = [(false, eval b C.env)] := by rfl) : I C tg (.Call (.Name "range" pp) [a, b] [] pos) (iRange2 p) := by
  obtain ⟨t, h1, h2⟩ := ha
  refine ⟨_, pi_range2 hg hm h1 hs hs2, fun z X H0 H σ env R k o c hp => h2 z X H0 H σ env _ _ o (fun ds vs H1 e1 r1 hx => ?_) hp⟩
  unfold rgK2 at hx
  split at hx
  · rename_i i j
    cases IsA.ints (ns := [_, _]) r1
    exact ⟨i, j, rfl, by omega, c _ _ H1 e1 yl_rng hx.2⟩
  · exact hx.elim
end
end Pu

namespace Pu
open PySem PySem.Spec PyProof.Rows L2
variable [Tbs]
/-! ### one reading for all places -/
def tP (m : Mode) (p : PX) : TE := fun σ H Q => ∃ z X H0 env k, Ok z X H0 H σ env ∧ (∀ d v H', Evo z H H' → Rel m z X H H' σ env v d → k d → Q v H') ∧ p env k
def tPT (p : PTs') : TT := fun σ H Q => ∃ z X H0 env k, Ok z X H0 H σ env ∧ (∀ b H', Evo z H H' → k b → Q b H') ∧ p env k
def tPI (p : PIt) : TI := fun σ H R => ∃ z X H0 env k, Ok z X H0 H σ env ∧ (∀ ds J H', Evo z H H' → Yields z X (Ms z X σ env) H' J ds → k ds → R J H') ∧ p env k
section
variable {C : Cx} {m : Mode} {e tg : Expr} {p : PX} {q : PTs'} {r : PIt}
theorem E.pe (h : E m C e p) : PE C e (tP m p) := by
  obtain ⟨t, h1, h2⟩ := h
  exact ⟨fun pins s σ H Q I ⟨z, X, H0, env, k, o, c, hp⟩ => h1.run pins s σ H Q I (h2 z X H0 H σ env Q k o c hp)⟩
theorem T.pt (h : T C e q) : PT C e (tPT q) := by
  obtain ⟨t, h1, h2⟩ := h
  exact ⟨fun pins s σ H Q I ⟨z, X, H0, env, k, o, c, hp⟩ => h1.run pins s σ H Q I (h2 z X H0 H σ env Q k o c hp)⟩
theorem I.pi (h : I C tg e r) : PI C tg e (tPI r) := by
  obtain ⟨t, h1, h2⟩ := h
  exact ⟨fun pins s σ H Q I ⟨z, X, H0, env, k, o, c, hp⟩ => h1.run pins s σ H Q I (h2 z X H0 H σ env Q k o c hp)⟩
theorem re_tP : RE m (tP m p) p := fun z X H0 H σ env Q k o c hp => ⟨z, X, H0, env, k, o, c, hp⟩
theorem rt_tP : RT (tPT q) q := fun z X H0 H σ env Q k o c hp => ⟨z, X, H0, env, k, o, c, hp⟩
theorem ri_tP : RI (tPI r) r := fun z X H0 H σ env Q k o c hp => ⟨z, X, H0, env, k, o, c, hp⟩
end
/-- the tests of a clause -/
structure Ts (C : Cx) (es : List Expr) (p : PTs') : Prop where
  ex : PTs C es (tPT p)
theorem ts_nil {C : Cx} : Ts C [] (fun _ k => k true) := by
  refine ⟨⟨fun pins s σ H Q I ⟨z, X, H0, env, k, o, c, hp⟩ => ?_⟩⟩
  exact pts_nil.run pins s σ H Q I (c true H (Evo.refl _ _) hp)
theorem ts_one {C : Cx} {e : Expr} {p : PTs'} (h : T C e p) : Ts C [e] p := ⟨pts_one h.pt⟩

/-! ### comprehensions -/
def wipeE (env : List SV) : List Nat → List SV
  | [] => env
  | v :: vs => (wipeE env vs).set v .no
def noOwn (env : List SV) : List Nat → Prop
  | [] => True
  | v :: vs => (match env[v]? with | some (.own _) => False | _ => True) ∧ noOwn env vs
theorem noOwn_ne {env : List SV} : ∀ {vs : List Nat}, noOwn env vs → ∀ {i : Nat} {d : D}, env[i]? = some (.own d) → i ∉ vs
  | [], _, _, _, _ => by simp
  | v :: vs, h, i, d, e => by
    intro hi
    rcases List.mem_cons.mp hi with q | q
    · subst q
      have h1 := h.1
      rw [e] at h1
      exact h1
    · exact noOwn_ne h.2 e q
section
variable {z : Zn} {X : AP} {H0 H H1 H' : Hp} {σ σ' : Sl} {env env' : List SV}
theorem wipeE_len : ∀ vs : List Nat, (wipeE env vs).length = env.length
  | [] => rfl
  | v :: vs => by unfold wipeE; rw [List.length_set, wipeE_len vs]
theorem wipeE_out : ∀ {vs : List Nat} {i : Nat}, i ∉ vs → (wipeE env vs)[i]? = env[i]?
  | [], _, _ => rfl
  | v :: vs, i, h => by
    rw [List.mem_cons, not_or] at h
    unfold wipeE
    rw [List.getElem?_set_ne (Ne.symm h.1), wipeE_out h.2]
theorem wipeE_in : ∀ {vs : List Nat} {i : Nat}, i ∈ vs → (wipeE env vs)[i]? = none ∨ (wipeE env vs)[i]? = some .no
  | v :: vs, i, h => by
    unfold wipeE
    by_cases hv : v = i
    · subst hv
      rw [List.getElem?_set]
      simp only [if_true]
      split
      · exact .inr rfl
      · exact .inl rfl
    · rw [List.getElem?_set_ne hv]
      exact wipeE_in ((List.mem_cons.mp h).resolve_left (fun e => hv e.symm))
theorem wipe_out' : ∀ {vs : List Nat} {i : Nat}, i ∉ vs → (wipe σ vs)[i]? = σ[i]?
  | [], _, _ => rfl
  | v :: vs, i, h => by
    rw [List.mem_cons, not_or] at h
    unfold wipe
    rw [List.getElem?_set_ne (Ne.symm h.1), wipe_out' h.2]
theorem wipe_in' : ∀ {vs : List Nat} {i : Nat}, i ∈ vs → (wipe σ vs)[i]? = if i < σ.length then some none else none
  | v :: vs, i, h => by
    unfold wipe
    by_cases hv : v = i
    · subst hv
      rw [List.getElem?_set]
      simp only [if_true, wipe_length]
    · rw [List.getElem?_set_ne hv]
      exact wipe_in' ((List.mem_cons.mp h).resolve_left (fun e => hv e.symm))
theorem wipe_eq {vs js : List Nat} (h : Keep js (wipe σ vs) env σ' env') (hj : ∀ i ∈ js, i ∈ vs) : wipe σ' vs = wipe σ vs := by
  apply List.ext_getElem?
  intro i
  have hl : σ'.length = σ.length := by rw [h.1, wipe_length]
  by_cases hi : i ∈ vs
  · rw [wipe_in' hi, wipe_in' hi, hl]
  · rw [wipe_out' hi, (h.2 i (fun q => hi (hj i q))).2]
/-- one more place that is locked -/
theorem Ok.lock (o : Ok z X H0 H σ env) {a : Addr} (ha : H a = none) (e : Evo z H H') (h' : H' a ≠ none) : Ok z (X.or a) H0 H' σ env := by
  have na : ∀ {b u}, H b = some u → b ≠ a := fun {b u} q => ne_of_none q ha
  have ms : ∀ b, Ms z (X.or a) σ env b → Ms z X σ env b ∨ b = a := by
    rintro b (h | (h | h) | h)
    · exact .inl (.inl h)
    · exact .inl (.inr (.inl h))
    · exact .inr h
    · exact .inl (.inr (.inr h))
  have old : ∀ b u, H b = some u → ¬ Ms z X σ env b → H' b = some u ∧ ¬ Ms z (X.or a) σ env b := fun b u q n => ⟨e.old b u q fun y => n (.inl y), fun y => (ms b y).elim n (na q)⟩
  refine ⟨o.len, o.evo.trans e, fun b h => e.al b (o.zal b h), fun b h => ?_, fun i d h => ?_, fun i d h => ?_, o.inj, e.tab o.tab⟩
  · rcases h with h | h
    · exact ⟨e.al b (o.xal b h).1, (o.xal b h).2⟩
    · rw [h]; exact ⟨h', fun q => o.zal a q ha⟩
  · obtain ⟨v, h1, h2⟩ := o.val i d h
    exact ⟨v, h1, h2.gen old e.dk⟩
  · obtain ⟨b, h1, h2, h3, h4, h5⟩ := o.own i d h
    obtain ⟨u, hu⟩ := h2.some
    exact ⟨b, h1, h2.gen (fun u q => e.old b u q h3) old e.dk, h3, fun q => q.elim h4 (na hu), h5⟩
theorem Ok.wipe (o : Ok z X H0 H σ env) {vs : List Nat} : Ok z X H0 H (L2.wipe σ vs) (wipeE env vs) ∧ ∀ a, Ms z X (L2.wipe σ vs) (wipeE env vs) a → Ms z X σ env a := by
  have ow : ∀ {i : Nat} {d : SV}, (wipeE env vs)[i]? = some d → d ≠ .no → i ∉ vs ∧ env[i]? = some d := fun {i d} h n => by
    by_cases hi : i ∈ vs
    · rcases wipeE_in (env := env) hi with q | q
      · rw [q] at h; cases h
      · rw [q] at h; cases h; exact absurd rfl n
    · rw [wipeE_out hi] at h; exact ⟨hi, h⟩
  have sub : ∀ a, Ms z X (L2.wipe σ vs) (wipeE env vs) a → Ms z X σ env a := by
    rintro a (h | h | ⟨i, d, h1, h2⟩)
    · exact .inl h
    · exact .inr (.inl h)
    · obtain ⟨hi, h1⟩ := ow h1 (by intro q; cases q)
      rw [wipe_out' hi] at h2
      exact .inr (.inr ⟨i, d, h1, h2⟩)
  refine ⟨⟨by rw [wipe_length, wipeE_len]; exact o.len, o.evo, o.zal, o.xal, fun i d h => ?_, fun i d h => ?_, fun i j a d f h1 h2 h3 h4 => ?_, o.tab⟩, sub⟩
  · obtain ⟨hi, h⟩ := ow h (by intro q; cases q)
    obtain ⟨v, h1, h2⟩ := o.val i d h
    exact ⟨v, by rw [wipe_out' hi]; exact h1, h2.weak sub⟩
  · obtain ⟨hi, h⟩ := ow h (by intro q; cases q)
    obtain ⟨a, h1, h2, h3⟩ := o.own i d h
    exact ⟨a, by rw [wipe_out' hi]; exact h1, h2.gen (fun _ q => q) (fun b u q n => ⟨q, fun y => n (sub b y)⟩) fun _ h => h, h3⟩
  · obtain ⟨hi, h1⟩ := ow h1 (by intro q; cases q)
    obtain ⟨hj, h2⟩ := ow h2 (by intro q; cases q)
    rw [wipe_out' hi] at h3
    rw [wipe_out' hj] at h4
    exact o.inj i j a d f h1 h2 h3 h4
/-- what slots own is owned in the comprehension too -/
theorem ms_in {vs js : List Nat} {σ2 : Sl} {env2 : List SV} (hn : noOwn env vs) (hj : ∀ i ∈ js, i ∈ vs) (h : Keep js (L2.wipe σ vs) (wipeE env vs) σ2 env2) : ∀ a, Ms z X σ env a → Ms z X σ2 env2 a := by
  rintro a (q | q | ⟨i, d, h1, h2⟩)
  · exact .inl q
  · exact .inr (.inl q)
  · have hi := noOwn_ne hn h1
    obtain ⟨g1, g2⟩ := h.2 i fun q => hi (hj i q)
    refine .inr (.inr ⟨i, d, ?_, ?_⟩)
    · rw [g1, wipeE_out hi]; exact h1
    · rw [g2, wipe_out' hi]; exact h2
end
def lcP (pg : PGt) (pt : PTs') (pe : PX) (env : List SV) : List D → List D → (List D → Prop) → Prop
  | [], acc, k => k acc
  | d :: ds, acc, k => pg d env fun env1 => pt env1 fun b => if b = true then pe env1 fun r => acc.length ≤ 100000 ∧ lcP pg pt pe env ds (acc ++ [r]) k else lcP pg pt pe env ds acc k
def eLc (vs : List Nat) (pi : PIt) (pg : PGt) (pt : PTs') (pe : PX) : PX := fun env k => pi env fun ds => noOwn env vs ∧ lcP pg pt pe (wipeE env vs) ds [] fun r => k (.lst r)
theorem re_lc {wi : TI} {pi : PIt} {js vs : List Nat} {g : TG} {pg : PGt} {tt : TT} {pt : PTs'} {te : TE} {pe : PX} (hi : RI wi pi) (hg : RG js g pg) (hj : ∀ i ∈ js, i ∈ vs) (ht : RT tt pt) (he : RE .e te pe) : RE .f (tLc wi g tt te vs) (eLc vs pi pg pt pe) := fun z X H0 H σ env Q k o c hp => by
  refine hi z X H0 H σ env _ _ o (fun ds J H1 e1 yl hx => ?_) hp
  obtain ⟨hn, hx⟩ := hx
  have o1 := o.go e1
  intro Da hD
  have hzD : ¬ z.Z Da := fun q => o1.zal Da q hD
  refine ⟨fun i mm H' => mm = ds.length - i ∧ i ≤ ds.length ∧ ∃ accV accD, Evo z H1 H' ∧ H' Da = some (.lst accV) ∧ IsA z (Ms z (X.or Da) σ env) H' accV accD ∧ lcP pg pt pe (wipeE env vs) (ds.drop i) accD fun r => k (.lst r),
    ⟨ds.length, by simp, Nat.zero_le _, [], [], (Evo.refl _ _).new hD, upd_same, .nil, by simpa using hx⟩, ?_⟩
  rintro i mm H' ⟨rfl, hil, accV, accD, e', hacc, hA, hk⟩
  have oL : Ok z (X.or Da) H0 H' σ env := o1.lock hD e' (by rw [hacc]; intro q; cases q)
  have ms2 : ∀ b, Ms z (X.or Da) σ env b → Ms z X σ env b ∨ b = Da := by
    rintro b (h | (h | h) | h)
    · exact .inl (.inl h)
    · exact .inl (.inr (.inl h))
    · exact .inr h
    · exact .inl (.inr (.inr h))
  have fr : Fr z X (Ms z X σ env) H1 (Ms z (X.or Da) σ env) H' := ⟨fun b u q n => ⟨e'.old b u q fun y => n (.inl y), fun y => (ms2 b y).elim n (ne_of_none q hD)⟩, e'.dk, e'.al⟩
  obtain ⟨y1, y2⟩ := yl _ _ fr
  by_cases hlt : i < ds.length
  · obtain ⟨go, y3⟩ := y2 i ds[i] (List.getElem?_eq_getElem hlt)
    rw [List.drop_eq_getElem_cons hlt] at hk
    refine .inr ⟨go, fun H2 => ∃ accV accD, Evo z H1 H2 ∧ H2 Da = some (.lst accV) ∧ IsA z (Ms z (X.or Da) σ env) H2 accV accD ∧ lcP pg pt pe (wipeE env vs) (ds.drop (i + 1)) accD fun r => k (.lst r), fun H2 h2 => ⟨ds.length - (i + 1), by omega, rfl, hlt, h2⟩, fun x H2 hy => ?_⟩
    obtain ⟨e2, is⟩ := y3 x H2 hy
    have oL2 := oL.go e2
    obtain ⟨oW, sub⟩ := oL2.wipe (vs := vs)
    refine hg z (X.or Da) H0 H2 _ _ x _ _ _ oW ((is (fun a q => .inl q) (fun b q => oL.notMs q)).weak sub) (fun env3 σ3 o3 f3 kp hx3 => ⟨wipe_eq kp hj, ?_⟩) hk
    refine ht z (X.or Da) H0 H2 σ3 env3 _ _ o3 (fun b H3 e3 hx4 => ?_) hx3
    have e13 := e'.trans (e2.trans e3)
    have acc3 : H3 Da = some (.lst accV) := e3.old _ _ (e2.old _ _ hacc hzD) hzD
    have A3 : IsA z (Ms z (X.or Da) σ env) H3 accV accD := hA.evo (fun _ q => .inl q) (e2.trans e3)
    cases b with
    | false =>
      rw [if_neg Bool.false_ne_true]
      exact ⟨accV, accD, e13, acc3, A3, hx4⟩
    | true =>
      rw [if_pos rfl]
      refine he z (X.or Da) H0 H3 σ3 env3 _ _ (o3.go e3) (fun r y H4 e4 r4 hx5 => ?_) hx4
      refine ⟨accV, e4.old _ _ acc3 hzD, by rw [hA.length]; exact szl hx5.1, accV ++ [y], accD ++ [r], (e13.trans e4).mut hD hzD, upd_same, ?_, hx5.2⟩
      have ir : Is z (Ms z (X.or Da) σ env) H4 y r := Is.weak (ms_in hn hj kp) r4
      refine ((A3.evo (fun _ q => .inl q) e4).append (.cons ir .nil)).gen (fun b u q n => ⟨?_, n⟩) fun b hb => ok_mut hzD hb
      rw [upd_ne (fun w => n (by rw [w]; exact .inr (.inl (.inr rfl))))]
      exact q
  · have ei : i = ds.length := by omega
    subst ei
    rw [List.drop_length] at hk
    exact .inl ⟨y1, c (.lst accD) (.ref Da) H' (e1.trans e') ⟨Da, rfl, e1.fresh hD, accV, hacc, hA⟩ hk⟩
/-- two clauses -/
def lcP2 (vs1 : List Nat) (pg : PGt) (pt : PTs') (pi1 : PIt) (pg1 : PGt) (pt1 : PTs') (pe : PX) (env : List SV) : List D → List D → (List D → Prop) → Prop
  | [], acc, k => k acc
  | d :: ds, acc, k => pg d env fun env1 => pt env1 fun b => if b = true then pi1 env1 fun ds1 => noOwn env1 vs1 ∧ lcP pg1 pt1 pe (wipeE env1 vs1) ds1 acc fun acc1 => lcP2 vs1 pg pt pi1 pg1 pt1 pe env ds acc1 k else lcP2 vs1 pg pt pi1 pg1 pt1 pe env ds acc k
def eLc2 (vs vs1 : List Nat) (pi : PIt) (pg : PGt) (pt : PTs') (pi1 : PIt) (pg1 : PGt) (pt1 : PTs') (pe : PX) : PX := fun env k => pi env fun ds => noOwn env vs ∧ lcP2 vs1 pg pt pi1 pg1 pt1 pe (wipeE env vs) ds [] fun r => k (.lst r)
theorem ms_or {z : Zn} {X : AP} {σ : Sl} {env : List SV} {a b : Addr} (h : Ms z (X.or a) σ env b) : Ms z X σ env b ∨ b = a := by
  rcases h with h | (h | h) | h
  · exact .inl (.inl h)
  · exact .inl (.inr (.inl h))
  · exact .inr h
  · exact .inl (.inr (.inr h))
theorem re_lc2 {wi wi1 : TI} {pi pi1 : PIt} {js js1 vs vs1 : List Nat} {g g1 : TG} {pg pg1 : PGt} {tt tt1 : TT} {pt pt1 : PTs'} {te : TE} {pe : PX} (hi : RI wi pi) (hg : RG js g pg) (hj : ∀ i ∈ js, i ∈ vs) (ht : RT tt pt) (hi1 : RI wi1 pi1) (hg1 : RG js1 g1 pg1) (hj1 : ∀ i ∈ js1, i ∈ vs1) (ht1 : RT tt1 pt1) (he : RE .e te pe) :
    RE .f (tLc2 wi g tt wi1 g1 tt1 te vs vs1) (eLc2 vs vs1 pi pg pt pi1 pg1 pt1 pe) := fun z X H0 H σ env Q k o c hp => by
  refine hi z X H0 H σ env _ _ o (fun ds J H1 e1 yl hx => ?_) hp
  obtain ⟨hn, hx⟩ := hx
  have o1 := o.go e1
  intro Da hD
  have hzD : ¬ z.Z Da := fun q => o1.zal Da q hD
  have nt : ∀ {u : HO}, some u ≠ none := fun q => by cases q
  refine ⟨fun i mm H' => mm = ds.length - i ∧ i ≤ ds.length ∧ ∃ accV accD, Evo z H1 H' ∧ H' Da = some (.lst accV) ∧ IsA z (Ms z (X.or Da) σ env) H' accV accD ∧ lcP2 vs1 pg pt pi1 pg1 pt1 pe (wipeE env vs) (ds.drop i) accD fun r => k (.lst r),
    ⟨ds.length, by simp, Nat.zero_le _, [], [], (Evo.refl _ _).new hD, upd_same, .nil, by simpa using hx⟩, ?_⟩
  rintro i mm H' ⟨rfl, hil, accV, accD, e', hacc, hA, hk⟩
  have oL : Ok z (X.or Da) H0 H' σ env := o1.lock hD e' (by rw [hacc]; exact nt)
  have fr : Fr z X (Ms z X σ env) H1 (Ms z (X.or Da) σ env) H' := ⟨fun b u q n => ⟨e'.old b u q fun y => n (.inl y), fun y => (ms_or y).elim n (ne_of_none q hD)⟩, e'.dk, e'.al⟩
  obtain ⟨y1, y2⟩ := yl _ _ fr
  by_cases hlt : i < ds.length
  · obtain ⟨go, y3⟩ := y2 i ds[i] (List.getElem?_eq_getElem hlt)
    rw [List.drop_eq_getElem_cons hlt] at hk
    refine .inr ⟨go, fun H2 => ∃ accV accD, Evo z H1 H2 ∧ H2 Da = some (.lst accV) ∧ IsA z (Ms z (X.or Da) σ env) H2 accV accD ∧ lcP2 vs1 pg pt pi1 pg1 pt1 pe (wipeE env vs) (ds.drop (i + 1)) accD fun r => k (.lst r), fun H2 h2 => ⟨ds.length - (i + 1), by omega, rfl, hlt, h2⟩, fun x H2 hy => ?_⟩
    obtain ⟨e2, is⟩ := y3 x H2 hy
    have oL2 := oL.go e2
    obtain ⟨oW, sub⟩ := oL2.wipe (vs := vs)
    refine hg z (X.or Da) H0 H2 _ _ x _ _ _ oW ((is (fun a q => .inl q) (fun b q => oL.notMs q)).weak sub) (fun env3 σ3 o3 f3 kp hx3 => ⟨wipe_eq kp hj, ?_⟩) hk
    refine ht z (X.or Da) H0 H2 σ3 env3 _ _ o3 (fun b H3 e3 hx4 => ?_) hx3
    have e13 := e'.trans (e2.trans e3)
    have acc3 : H3 Da = some (.lst accV) := e3.old _ _ (e2.old _ _ hacc hzD) hzD
    have A3 : IsA z (Ms z (X.or Da) σ env) H3 accV accD := hA.evo (fun _ q => .inl q) (e2.trans e3)
    have o3' := o3.go e3
    have up : ∀ a, Ms z (X.or Da) σ env a → Ms z (X.or Da) σ3 env3 a := ms_in hn hj kp
    cases b with
    | false =>
      rw [if_neg Bool.false_ne_true]
      exact ⟨accV, accD, e13, acc3, A3, hx4⟩
    | true =>
      rw [if_pos rfl]
      refine hi1 z (X.or Da) H0 H3 σ3 env3 _ _ o3' (fun ds1 J1 H4 e4 yl1 hx5 => ?_) hx4
      obtain ⟨hn1, hx5⟩ := hx5
      have o4 := o3'.go e4
      refine ⟨fun j mm H' => mm = ds1.length - j ∧ j ≤ ds1.length ∧ ∃ accV accD, Evo z H1 H' ∧ Fr z (X.or Da) (Ms z (X.or Da) σ3 env3) H4 (Ms z (X.or Da) σ3 env3) H' ∧ Ok z (X.or Da) H0 H' σ3 env3 ∧ H' Da = some (.lst accV) ∧ IsA z (Ms z (X.or Da) σ env) H' accV accD ∧
          lcP pg1 pt1 pe (wipeE env3 vs1) (ds1.drop j) accD fun acc1 => lcP2 vs1 pg pt pi1 pg1 pt1 pe (wipeE env vs) (ds.drop (i + 1)) acc1 fun r => k (.lst r),
        ⟨ds1.length, by simp, Nat.zero_le _, accV, accD, e13.trans e4, Fr.refl, o4, e4.old _ _ acc3 hzD, A3.evo (fun _ q => .inl q) e4, by simpa using hx5⟩, ?_⟩
      rintro j mm H5 ⟨rfl, hjl, accV, accD, e5, f5, o5, hacc, hA, hk⟩
      obtain ⟨y1, y2⟩ := yl1 _ _ f5
      by_cases hlt1 : j < ds1.length
      · obtain ⟨go, y3⟩ := y2 j ds1[j] (List.getElem?_eq_getElem hlt1)
        rw [List.drop_eq_getElem_cons hlt1] at hk
        refine .inr ⟨go, fun H' => ∃ accV accD, Evo z H1 H' ∧ Fr z (X.or Da) (Ms z (X.or Da) σ3 env3) H4 (Ms z (X.or Da) σ3 env3) H' ∧ Ok z (X.or Da) H0 H' σ3 env3 ∧ H' Da = some (.lst accV) ∧ IsA z (Ms z (X.or Da) σ env) H' accV accD ∧
          lcP pg1 pt1 pe (wipeE env3 vs1) (ds1.drop (j + 1)) accD fun acc1 => lcP2 vs1 pg pt pi1 pg1 pt1 pe (wipeE env vs) (ds.drop (i + 1)) acc1 fun r => k (.lst r), fun H2 h2 => ⟨ds1.length - (j + 1), by omega, rfl, hlt1, h2⟩, fun x H6 hy => ?_⟩
        obtain ⟨e6, is⟩ := y3 x H6 hy
        have o6 := o5.go e6
        obtain ⟨oW, sub⟩ := o6.wipe (vs := vs1)
        refine hg1 z (X.or Da) H0 H6 _ _ x _ _ _ oW ((is (fun a q => .inl q) (fun b q => o5.notMs q)).weak sub) (fun env7 σ7 o7 f7 kp7 hx7 => ⟨wipe_eq kp7 hj1, ?_⟩) hk
        refine ht1 z (X.or Da) H0 H6 σ7 env7 _ _ o7 (fun b H7 e7 hx8 => ?_) hx7
        have e67 := e6.trans e7
        have acc7 : H7 Da = some (.lst accV) := e67.old _ _ hacc hzD
        have A7 : IsA z (Ms z (X.or Da) σ env) H7 accV accD := hA.evo (fun _ q => .inl q) e67
        cases b with
        | false =>
          rw [if_neg Bool.false_ne_true]
          exact ⟨accV, accD, e5.trans e67, f5.trans (o5.fr e67), o5.go e67, acc7, A7, hx8⟩
        | true =>
          rw [if_pos rfl]
          refine he z (X.or Da) H0 H7 σ7 env7 _ _ (o7.go e7) (fun r y H8 e8 r8 hx9 => ?_) hx8
          have e58 := e67.trans e8
          have o8 := o5.go e58
          have inD : ∀ {σ : Sl} {env : List SV}, Ms z (X.or Da) σ env Da := .inr (.inl (.inr rfl))
          have old : ∀ (M : AP), M Da → ∀ b u, H8 b = some u → ¬ M b → upd H8 Da (.lst (accV ++ [y])) b = some u ∧ ¬ M b := fun M hM b u q n => ⟨by rw [upd_ne (fun w => n (by rw [w]; exact hM))]; exact q, n⟩
          have dk : ∀ b, z.ok H8 b → z.ok (upd H8 Da (.lst (accV ++ [y]))) b := fun b hb => ok_mut hzD hb
          have al : ∀ b, H8 b ≠ none → upd H8 Da (.lst (accV ++ [y])) b ≠ none := fun b hb => by
            by_cases w : b = Da
            · rw [w, upd_same]; exact nt
            · rw [upd_ne w]; exact hb
          have h0D : H0 Da = none := o1.evo.fresh hD
          refine ⟨accV, e8.old _ _ acc7 hzD, by rw [hA.length]; exact szl hx9.1, accV ++ [y], accD ++ [r], (e5.trans e58).mut hD hzD, (f5.trans (o5.fr e58)).trans ⟨old _ inD, dk, al⟩, ?_, upd_same, ?_, hx9.2⟩
          · refine ⟨o8.len, o8.evo.mut h0D hzD, fun b q => al b (o8.zal b q), fun b q => ⟨al b (o8.xal b q).1, (o8.xal b q).2⟩, fun i d q => ?_, fun i d q => ?_, o8.inj, o8.tab.mut hzD⟩
            · obtain ⟨v, h1, h2⟩ := o8.val i d q
              exact ⟨v, h1, h2.gen (old _ inD) dk⟩
            · obtain ⟨a, h1, h2, h3, h4, h5⟩ := o8.own i d q
              exact ⟨a, h1, h2.gen (fun u w => by rw [upd_ne (fun x => h4 (.inr x))]; exact w) (old _ inD) dk, h3, h4, h5⟩
          · have ir : Is z (Ms z (X.or Da) σ env) H8 y r := Is.weak (fun a q => ms_in hn1 hj1 kp7 a (up a q)) r8
            exact ((A7.evo (fun _ q => .inl q) e8).append (.cons ir .nil)).gen (old _ inD) dk
      · have ei : j = ds1.length := by omega
        subst ei
        rw [List.drop_length] at hk
        exact .inl ⟨y1, accV, accD, e5, hacc, hA, hk⟩
  · have ei : i = ds.length := by omega
    subst ei
    rw [List.drop_length] at hk
    exact .inl ⟨y1, c (.lst accD) (.ref Da) H' (e1.trans e') ⟨Da, rfl, e1.fresh hD, accV, hacc, hA⟩ hk⟩
section
variable {C : Cx} {fr : Bool} {elt tg iter tg1 iter1 : Expr} {ifs ifs1 : List Expr} {scope : Scope} {own : List (Str × Nat)} {pos : Pos} {pi pi1 : PIt} {js js1 vs1 : List Nat} {g g1 : TG} {pg pg1 : PGt} {pt pt1 : PTs'} {pe : PX}
theorem e_lc (hi : I C tg iter pi) (hg : ∀ (s : Shared) (H : Hp) (Ca : Addr) (cl : List (Str × Addr)) (fp : List Addr), G (C.blk s H scope (compEnvC scope cl Ca C.env) fp) tg js g pg) (ht : ∀ (s : Shared) (H : Hp) (Ca : Addr) (cl : List (Str × Addr)) (fp : List Addr), Ts (C.blk s H scope (compEnvC scope cl Ca C.env) fp) ifs pt)
    (he : ∀ (s : Shared) (H : Hp) (Ca : Addr) (cl : List (Str × Addr)) (fp : List Addr), E .e (C.blk s H scope (compEnvC scope cl Ca C.env) fp) elt pe) (hc : C.calm = true) (hN : C.N.Nodup) (ok : BlkOk C.N C.env.scope scope own) (hj : ∀ i ∈ js, i ∈ own.map (·.2)) (rg : RG js g pg) (hs : ∀ x, foldedSetIterable iter C.env x = pure x := by intro _; rfl) :
    E .f C (.ListComp elt [⟨tg, iter, ifs, 0⟩] scope pos) (eLc (own.map (·.2)) pi pg pt pe) :=
  ⟨_, pe_lc hc hN hi.pi ok (fun s H Ca cl fp => (hg s H Ca cl fp).pg) (fun s H Ca cl fp => (ht s H Ca cl fp).ex) (fun s H Ca cl fp => (he s H Ca cl fp).pe) hs, re_lc ri_tP rg hj rt_tP re_tP⟩
theorem s_ownLc {i : Nat} {y : Str} {py spos : Pos} (hi : I C tg iter pi) (hg : ∀ (s : Shared) (H : Hp) (Ca : Addr) (cl : List (Str × Addr)) (fp : List Addr), G (C.blk s H scope (compEnvC scope cl Ca C.env) fp) tg js g pg) (ht : ∀ (s : Shared) (H : Hp) (Ca : Addr) (cl : List (Str × Addr)) (fp : List Addr), Ts (C.blk s H scope (compEnvC scope cl Ca C.env) fp) ifs pt)
    (he : ∀ (s : Shared) (H : Hp) (Ca : Addr) (cl : List (Str × Addr)) (fp : List Addr), E .e (C.blk s H scope (compEnvC scope cl Ca C.env) fp) elt pe) (hc : C.calm = true) (hN : C.N.Nodup) (hy : C.N[i]? = some y) (hyl : C.env.scope.names.lookup y = some .local)
    (hsw : swapsWith (.ListComp elt [⟨tg, iter, ifs, 0⟩] scope pos) (some (.Name y py)) spos.line C.env = pure true) (ok : BlkOk C.N C.env.scope scope own) (hj : ∀ i ∈ js, i ∈ own.map (·.2)) (rg : RG js g pg) (hs : ∀ x, foldedSetIterable iter C.env x = pure x := by intro _; rfl) :
    S fr C (.Assign [.Name y py] (.ListComp elt [⟨tg, iter, ifs, 0⟩] scope pos) spos) (sOwn i (eLc (own.map (·.2)) pi pg pt pe)) :=
  ⟨_, ps_setLc hc hN hy hyl hsw hi.pi ok (fun s H Ca cl fp => (hg s H Ca cl fp).pg) (fun s H Ca cl fp => (ht s H Ca cl fp).ex) (fun s H Ca cl fp => (he s H Ca cl fp).pe) hs, rs_own (re_lc ri_tP rg hj rt_tP re_tP)⟩
theorem RE.fe' {t : TE} {p : PX} (h : RE .f t p) : RE .e t p := fun z X H0 H σ env Q k o c hp => h z X H0 H σ env Q k o (fun d v H' ev r kd => c d v H' ev (r.fe o) kd) hp
theorem rs_set {i : Nat} {t : TE} {p : PX} (h : RE .e t p) : RS fr (tAsg t (gName i)) (sSet i p) := fun z X H0 H σ env G k o s hp => h z X H0 H σ env _ _ o (fun d v H1 e1 r1 hx => by
  obtain ⟨o2, f2⟩ := (o.go e1).set (i := i) (show Is z _ H1 v d from r1)
  exact s.nx _ _ H1 o2 ((o.fr e1).trans f2) hx) hp
theorem s_setLc {i : Nat} {y : Str} {py spos : Pos} (hi : I C tg iter pi) (hg : ∀ (s : Shared) (H : Hp) (Ca : Addr) (cl : List (Str × Addr)) (fp : List Addr), G (C.blk s H scope (compEnvC scope cl Ca C.env) fp) tg js g pg) (ht : ∀ (s : Shared) (H : Hp) (Ca : Addr) (cl : List (Str × Addr)) (fp : List Addr), Ts (C.blk s H scope (compEnvC scope cl Ca C.env) fp) ifs pt)
    (he : ∀ (s : Shared) (H : Hp) (Ca : Addr) (cl : List (Str × Addr)) (fp : List Addr), E .e (C.blk s H scope (compEnvC scope cl Ca C.env) fp) elt pe) (hc : C.calm = true) (hN : C.N.Nodup) (hy : C.N[i]? = some y) (hyl : C.env.scope.names.lookup y = some .local)
    (hsw : swapsWith (.ListComp elt [⟨tg, iter, ifs, 0⟩] scope pos) (some (.Name y py)) spos.line C.env = pure true) (ok : BlkOk C.N C.env.scope scope own) (hj : ∀ i ∈ js, i ∈ own.map (·.2)) (rg : RG js g pg) (hs : ∀ x, foldedSetIterable iter C.env x = pure x := by intro _; rfl) :
    S fr C (.Assign [.Name y py] (.ListComp elt [⟨tg, iter, ifs, 0⟩] scope pos) spos) (sSet i (eLc (own.map (·.2)) pi pg pt pe)) :=
  ⟨_, ps_setLc hc hN hy hyl hsw hi.pi ok (fun s H Ca cl fp => (hg s H Ca cl fp).pg) (fun s H Ca cl fp => (ht s H Ca cl fp).ex) (fun s H Ca cl fp => (he s H Ca cl fp).pe) hs, rs_set (RE.fe' (re_lc ri_tP rg hj rt_tP re_tP))⟩
theorem e_lc2 (hi : I C tg iter pi) (hg : ∀ (s : Shared) (H : Hp) (Ca : Addr) (cl : List (Str × Addr)) (fp : List Addr), G (C.blk s H scope (compEnvC scope cl Ca C.env) fp) tg js g pg) (ht : ∀ (s : Shared) (H : Hp) (Ca : Addr) (cl : List (Str × Addr)) (fp : List Addr), Ts (C.blk s H scope (compEnvC scope cl Ca C.env) fp) ifs pt)
    (hi1 : ∀ (s : Shared) (H : Hp) (Ca : Addr) (cl : List (Str × Addr)) (fp : List Addr), I (C.blk s H scope (compEnvC scope cl Ca C.env) fp) tg1 iter1 pi1)
    (hg1 : ∀ (s : Shared) (H : Hp) (Ca : Addr) (cl : List (Str × Addr)) (fp : List Addr), G (C.blk s H scope (compEnvC scope cl Ca C.env) fp) tg1 js1 g1 pg1) (ht1 : ∀ (s : Shared) (H : Hp) (Ca : Addr) (cl : List (Str × Addr)) (fp : List Addr), Ts (C.blk s H scope (compEnvC scope cl Ca C.env) fp) ifs1 pt1)
    (he : ∀ (s : Shared) (H : Hp) (Ca : Addr) (cl : List (Str × Addr)) (fp : List Addr), E .e (C.blk s H scope (compEnvC scope cl Ca C.env) fp) elt pe) (hc : C.calm = true) (hN : C.N.Nodup) (ok : BlkOk C.N C.env.scope scope own) (hj : ∀ i ∈ js, i ∈ own.map (·.2)) (hj1 : ∀ i ∈ js1, i ∈ vs1) (hv : ∀ i ∈ vs1, i ∈ own.map (·.2)) (rg : RG js g pg) (rg1 : RG js1 g1 pg1)
    (hs : ∀ x, foldedSetIterable iter C.env x = pure x := by intro _; rfl) (hs1 : ∀ env x, foldedSetIterable iter1 env x = pure x := by intro _ _; rfl) :
    E .f C (.ListComp elt [⟨tg, iter, ifs, 0⟩, ⟨tg1, iter1, ifs1, 0⟩] scope pos) (eLc2 (own.map (·.2)) vs1 pi pg pt pi1 pg1 pt1 pe) :=
  ⟨_, pe_lc2 hc hN hi.pi ok hv (fun s H Ca cl fp => (hg s H Ca cl fp).pg) (fun s H Ca cl fp => (ht s H Ca cl fp).ex) (fun s H Ca cl fp => (hi1 s H Ca cl fp).pi) (fun s H Ca cl fp => (hg1 s H Ca cl fp).pg) (fun s H Ca cl fp => (ht1 s H Ca cl fp).ex) (fun s H Ca cl fp => (he s H Ca cl fp).pe) hs hs1,
    re_lc2 ri_tP rg hj rt_tP ri_tP rg1 hj1 rt_tP re_tP⟩
end
end Pu

namespace Ew
open PySem PySem.Spec PyProof.Rows L2
theorem places_rev (n : Nat) (hn : 1 ≤ n) : Builtin.Slice.slicePlaces ((n : Int) - 1) (-1) (-1) = n := by
  unfold Builtin.Slice.slicePlaces
  rw [if_neg (by decide), if_pos (by omega)]
  show (((n : Int) - 1 - -1 - 1) / 1 + 1).toNat = n
  rw [Int.ediv_one]
  omega
theorem fm_congr {α β : Type} {f g : α → Option β} : ∀ l : List α, (∀ m ∈ l, f m = g m) → l.filterMap f = l.filterMap g
  | [], _ => rfl
  | a :: r, h => by
    rw [List.filterMap_cons, List.filterMap_cons, h a List.mem_cons_self, fm_congr r fun m hm => h m (List.mem_cons_of_mem _ hm)]
theorem pick_rev (xs : Array Value) : ((List.range xs.size).filterMap fun (m : Nat) => xs[((((xs.size : Nat) : Int) - 1) + (m : Int) * (-1)).toNat]?).toArray = xs.toList.reverse.toArray := by
  congr 1
  have e : (List.range xs.size).filterMap (fun (m : Nat) => xs[((((xs.size : Nat) : Int) - 1) + (m : Int) * (-1)).toNat]?) = (List.range xs.size).filterMap (fun (m : Nat) => xs.toList.reverse[m]?) := by
    apply fm_congr
    intro m hm
    have h := List.mem_range.mp hm
    have e1 : ((((xs.size : Nat) : Int) - 1) + (m : Int) * (-1)).toNat = xs.size - 1 - m := by omega
    rw [e1, List.getElem?_reverse (by rw [Array.length_toList]; exact h), Array.length_toList, Array.getElem?_toList]
  rw [e]
  have hl : xs.toList.reverse.length = xs.size := by rw [List.length_reverse, Array.length_toList]
  rw [← hl]
  generalize xs.toList.reverse = l
  induction l with
  | nil => rfl
  | cons a r ih =>
    rw [List.length_cons, List.range_succ_eq_map, List.filterMap_cons]
    show a :: ((List.range r.length).map Nat.succ).filterMap (fun m => (a :: r)[m]?) = a :: r
    congr 1
    rw [List.filterMap_map]
    exact ih
section
variable {prog : Program} {w : World} {A : Around} {E : Value → Shared → Prop} {s : Shared}
theorem applied_revN {sl : Addr} {tk : Tok} {n : Nat} {Q : Int × Int × Nat → Shared → Prop} (hn : 1 ≤ n) (hs : s.heap.IsSliceOf sl .none .none (.int (-1) tk))
    (h : Q ((n : Int) - 1, -1, n) s) : wpAny (model prog w) A (Builtin.Slice.sliceApplied (.ref sl) (pure (n : Int))) Q E s := by
  obtain ⟨os, hos, hcs, hds⟩ := id hs
  unfold Builtin.Slice.sliceApplied Builtin.Slice.sliceFields
  refine wpAny_bind (wpAny_bind (wpAny_field hos hds (x := .none) rfl (wpAny_bind (wpAny_field hos hds (x := .none) rfl (wpAny_bind (wpAny_field hos hds (x := .int (-1) tk) rfl (wpAny_pure ?_)))))))
  refine wpAny_bind (HT.slicePart_ (.int (-1) tk) ?_)
  show wpAny _ _ (if ((-1 : Int) == 0) = true then _ else _) _ _ s
  rw [if_neg (by decide)]
  refine wpAny_bind (HT.slicePart_ .none (wpAny_bind (HT.slicePart_ .none (wpAny_bind (wpAny_pure ?_)))))
  show wpAny _ _ (pure ((n : Int) - 1, (-1 : Int), Builtin.Slice.slicePlaces ((n : Int) - 1) (-1) (-1))) _ _ s
  rw [places_rev n hn]
  exact wpAny_pure h
theorem getItem_revN {t sl : Addr} {items : Array Value} {tk : Tok} {Q : Value → Shared → Prop} (hn : 1 ≤ items.size) (ht : IsTup s.heap t items) (hs : s.heap.IsSliceOf sl .none .none (.int (-1) tk)) (hz : items.size ≤ sizeLine)
    (h : Q (.ref s.heap.objs.size) { s with heap := s.heap.push { cls := .type "tuple", data := .seq items.toList.reverse.toArray } }) : wpAny (model prog w) A (getItem (.ref t) (.ref sl)) Q E s := by
  have htake : sizeOk (.seq items.toList.reverse.toArray) := by
    show items.toList.reverse.toArray.size ≤ sizeLine
    rw [List.size_toArray, List.length_reverse, Array.length_toList]
    exact hz
  obtain ⟨os, hos, hcs, hds⟩ := id hs
  have hTs : s.TypeIs (.ref sl) "slice" := ⟨os, hos, hcs⟩
  unfold getItem
  try with_reducible refine wpAny_holding ?_
  first | refine wpAny_bind (wpAny_pure ?_) | skip
  refine wpAny_bind (wpAny_sequenceKey ht.typeIs (by decide) ?_)
  refine wpAny_bind (wpAny_callSpecial?_slot (name := Str.ofString "__getitem__") ht.typeIs PyProof.Rows.slot_tuple_getitem
    (wpAny_call_entry PyProof.Rows.slot_tuple_getitem ht.typeIs entry_tuple_getitem ?_ (args_tuple_getitem _ _)))
  show wpAny _ _ (Builtin.Tuple.tupleItemsOf (.ref t) >>= _) _ _ s
  refine wpAny_bind (tupleItemsOf_ ht ?_)
  refine wpAny_bind (wpAny_typeOf hTs ?_)
  rw [if_pos (by decide)]
  refine wpAny_bind (applied_revN hn hs ?_)
  show wpAny _ _ (if ((((items.size : Nat) : Int) - 1 == 0) && ((-1 : Int) == 1) && (items.size == items.size)) = true then _ else _) _ _ s
  rw [if_neg (by rw [show ((-1 : Int) == 1) = false from rfl, Bool.and_false, Bool.false_and]; exact Bool.false_ne_true), pick_rev]
  first
    | exact wpAny_bind (m := Builtin.Tuple.tupleExact _) (wpAny_newObj_type (wpAny_pure ⟨_, rfl, wpAny_pure h⟩) htake)
    | exact wpAny_bind (m := Builtin.Tuple.tupleExact _) (wpAny_newObj_type (wpAny_bind (wpAny_pure (wpAny_pure ⟨_, rfl, wpAny_pure h⟩))) htake)
    | exact wpAny_bind (wpAny_bind (m := Builtin.Tuple.tupleExact _) (wpAny_newObj_type (wpAny_pure (wpAny_pure ⟨_, rfl, wpAny_pure h⟩)) htake))
end
/-- t[::-1] of a tuple that is not empty -/
def tRevN (K : PySem.W.Frag) (te : TE) : TE := fun σ H Q => te σ H fun v H1 => ∃ a xs, v = .ref a ∧ SqT K H1 a xs ∧ 1 ≤ xs.length ∧ ∀ p, H1 p = none → Q (.ref p) (upd H1 p (.tup xs.reverse))
theorem pe_revN {X : Cx} {e : Expr} {te : TE} {k : Nat} {p1 p2 p3 pos : Pos} (he : PE X e te) : PE X (.Subscript e (.Slice none none (some (.UnaryOp .USub (.Constant (.int 1) k p1) p2)) p3) pos) (tRevN X.K te) := by
  refine ⟨fun pins s σ H Q I h => ?_⟩
  refine Subscript_ (thn (he.run pins s σ H _ I h) fun v s1 ⟨x, H1, I1, r1, q1⟩ => ?_)
  obtain ⟨a, xs, ex, hx, h1, q⟩ := q1
  subst ex
  cases r1
  have hst : PO X (some (.UnaryOp .USub (.Constant (.int 1) k p1) p2)) (tPart (tUn (rU fun i => .int (-i)) (tC (.int 1)))) := po_some (pe_un un_neg pe_int)
  refine wpAny_Slice (thn (po_none.run pins s1 σ H1 (fun o H2 => o = none ∧ H2 = H1) I1 ⟨rfl, rfl⟩) fun vl s2 ⟨l, H2, I2, pl, el, e2⟩ => ?_)
  subst el e2
  refine thn (po_none.run pins s2 σ H2 (fun o H3 => o = none ∧ H3 = H2) I2 ⟨rfl, rfl⟩) fun vu s3 ⟨u, H3, I3, pu, eu, e3⟩ => ?_
  subst eu e3
  refine thn (hst.run pins s3 σ H3 (fun o H4 => o = some (-1) ∧ H4 = H3) I3 ⟨1, rfl, -1, rfl, rfl, rfl⟩) fun vs s4 ⟨o, H4, I4, ps, eo, e4⟩ => ?_
  subst eo e4
  cases pl
  cases pu
  cases ps with
  | int _ tk =>
    have I5 : Inv X pins σ H4 { s4 with heap := s4.heap.push { cls := .type "slice", data := .fields #[.none, .none, .int (-1) tk] } } := I4.kept (t' := s4.toks) fun b ob q => Heap.get?_push_of_some _ q
    obtain ⟨its, r, ht, hz⟩ := I5.tuple hx
    have hlen := r.length
    show wpAny (model X.prog X.w) X.A (subscriptTail e (.Slice none none (some (.UnaryOp .USub (.Constant (.int 1) k p1) p2)) p3) (.ref a) (.ref s4.heap.objs.size)) (EP X pins σ Q) X.xe { s4 with heap := s4.heap.push { cls := .type "slice", data := .fields #[.none, .none, .int (-1) tk] } }
    refine tail_any (ops := [.ref a, .ref s4.heap.objs.size]) ht.typeIs (PyProof.Rows.slot_tuple_getitem.lookup) ?_ (by with_unfolding_all rfl)
    refine getItem_revN (by rw [List.size_toArray]; omega) ht (Heap.IsSliceOf.new _ .none .none (.int (-1) tk)) (by rw [List.size_toArray]; omega) ?_
    exact ⟨.ref _, _, I5.laid (t' := s4.toks) (o := .tup xs.reverse) (fun b ob q => Heap.get?_push_of_some _ q) (Nat.le_refl _) ⟨by rw [List.length_reverse]; exact hz, _, r.reverse, IsTup.new _ _⟩, rfl, q _ (I5.hok.fresh (Nat.le_refl _))⟩
end Ew

namespace Pu
open PySem PySem.Spec PyProof.Rows L2
variable [Tbs]
/-! ### targets, once more without a place -/
theorem rg_name {i : Nat} : RG [i] (gName i) (gtName i) := fun z X H0 H σ env v d Q k o hv c hp => let ⟨o2, f2⟩ := o.set (i := i) hv; c _ _ o2 f2 ⟨by simp, fun j hj => by
    have hj' : i ≠ j := fun e => hj (by simp [e])
    exact ⟨List.getElem?_set_ne hj', List.getElem?_set_ne hj'⟩⟩ hp
theorem rgs_nil : RGs [] gNil gtNil := fun z X H0 H σ env v d Q k o hv c hp => by
  cases hv with
  | nil => exact ⟨rfl, c env σ o Fr.refl Keep.refl hp⟩
  | cons _ _ => exact (show False from hp).elim
theorem rgs_cons {js ks : List Nat} {g : TG} {gs : TGs} {p : PGt} {q : PGs'} (h1 : RG js g p) (h2 : RGs ks gs q) : RGs (js ++ ks) (gCons g gs) (gtCons p q) := fun z X H0 H σ env v d Q k o hv c hp => by
  cases hv with
  | nil => exact (show False from hp).elim
  | cons q t =>
    refine ⟨_, _, rfl, h1 z X H0 H σ env _ _ _ _ o q (fun env' σ' o' f' kp hx => ?_) hp⟩
    exact h2 z X H0 H σ' env' _ _ _ _ o' (f'.isA t) (fun env2 σ2 o2 f2 kp2 hy => c env2 σ2 o2 (f'.trans f2) (kp.trans kp2) hy) hx
theorem rg_tup {K : PySem.W.Frag} {js : List Nat} {gs : TGs} {q : PGs'} {n : Nat} (h : RGs js gs q) : RG js (gTup K n gs) (gtTup n q) := fun z X H0 H σ env v d Q k o hv c hp => by
  cases hv with
  | tup e nn r => exact ⟨_, _, rfl, SqT.of e, by rw [r.length]; exact hp.1, h z X H0 H σ env _ _ _ _ o r c hp.2⟩
  | _ => exact (show False from hp).elim

/-! ### a def by its body -/
def wpOf (fr : Bool) (n : Nat) (p : PSt) : List D → (D → Prop) → Prop := fun ds k => p (ds.map SV.val ++ List.replicate (n - ds.length) SV.no) { nx := fun _ => fr = false ∧ k .non, rt := k }
theorem start_ok {z : Zn} {X : AP} {H : Hp} {N : List Str} {vs : List V} {ds : List D} (hz : (∀ a, z.Z a → H a ≠ none) ∧ Tabs H) (hx : ∀ a, X a → H a ≠ none ∧ ¬ z.Z a) (hA : IsA z (Zx z X) H vs ds) :
    Ok z X H H (L2.start N vs) (ds.map SV.val ++ List.replicate (N.length - ds.length) SV.no) := by
  have hl := hA.length
  have no : ∀ (i : Nat) (d : D), (ds.map SV.val ++ List.replicate (N.length - ds.length) SV.no)[i]? = some (.own d) → False := fun i d h => by
    by_cases hi : i < ds.length
    · rw [List.getElem?_append_left (by simpa using hi), List.getElem?_map] at h
      cases q : ds[i]? with
      | none => rw [q] at h; cases h
      | some x => rw [q] at h; cases h
    · rw [List.getElem?_append_right (by simpa using hi), List.getElem?_replicate] at h
      split at h <;> cases h
  have ms : ∀ a, Ms z X (L2.start N vs) (ds.map SV.val ++ List.replicate (N.length - ds.length) SV.no) a → Zx z X a := by
    rintro a (h | h | ⟨i, d, h1, _⟩)
    · exact .inl h
    · exact .inr h
    · exact (no i d h1).elim
  refine ⟨by unfold L2.start; simp [hl], Evo.refl _ _, hz.1, hx, fun i d h => ?_, fun i d h => (no i d h).elim, fun i j a d e h _ _ _ => (no i d h).elim, hz.2⟩
  by_cases hi : i < ds.length
  · rw [List.getElem?_append_left (by simpa using hi), List.getElem?_map] at h
    cases q : ds[i]? with
    | none => rw [q] at h; cases h
    | some x =>
      rw [q] at h
      cases h
      obtain ⟨v, h1, h2⟩ := hA.get q
      refine ⟨v, ?_, h2.weak ms⟩
      unfold L2.start
      rw [List.getElem?_append_left (by simpa [hl] using hi), List.getElem?_map, h1]
      rfl
  · rw [List.getElem?_append_right (by simpa using hi), List.getElem?_replicate] at h
    split at h <;> cases h
section
variable {P : Program} {w : World} {K : PySem.W.Frag} {mg : Str → Option Value} {base : Heap}
theorem fn_ok {x qual : Str} {st : Stmt} {f : Addr} {fd : FuncData} {N ps : List Str} {k : Nat} {fr : Bool} {p : PSt} (F : Fun K x qual st f fd) (S : FnScope N ps (defScope st))
    (hb : ∀ (cdv : Value) (A : Around) (outer : List Env) (s : Shared) (H : Hp) (E : XK), Room k (A.deeper (envOfC qual (defScope st) s.heap.objs.size f cdv)) → B fr (cxOf CX0 P w K mg base N qual (defScope st) f cdv A outer s H E).nox (defBody st) p) :
    FnOk P w K mg base CX0 (k + 1) f fd ps (Sf fr ps.length (wpOf fr N.length p)) := by
  refine F.ok S (fun vs H Q E h => ?_) (fun cdv A outer s H vs Q E hr h => ?_)
  · obtain ⟨z, X, ds, kk, hl, _⟩ := h
    exact hl
  · obtain ⟨z, X, ds, kk, hl, hz, hx, hA, hw, c⟩ := h
    obtain ⟨t, b1, b2⟩ := hb cdv A outer s H E hr
    refine ⟨t, b1, b2 z X H H (L2.start N vs) _ _ { nx := fun _ => fr = false ∧ kk .non, rt := kk } (start_ok hz hx hA) ⟨fun env' σ' H' o' f' hk => ?_, fun d v H' e r fq hk => ?_, fun _ _ _ _ _ hk => hk.elim, fun _ _ _ _ _ hk => hk.elim, fun _ _ _ _ _ _ _ h => h.elim⟩ hw⟩
    · exact c .non .non H' o'.evo .non (fun q => by rw [hk.1] at q; cases q) hk.2
    · exact c d v H' e r fq hk
end
section
variable {C : Cx} {e a b : Expr} {es : List Expr} {p q : PX} {m : Mode} {fr : Bool} {pos pp : Pos} {x : Str}
/-! ### tuple(range(..)), list(range(..)) -/
def dRg (f : List D → D) : D → D → (D → Prop) → Prop := fun x y k => match x, y with
  | .int i, .int j => (0 ≤ i ∧ i < 100000 ∧ 0 ≤ j ∧ j < 100000) ∧ k (f (rangeD i (j - i).toNat))
  | _, _ => False
def eRg1 (f : List D → D) (p : PX) : PX := fun env k => p env fun x => dRg f (.int 0) x k
def eRg2 (f : List D → D) (p q : PX) : PX := fun env k => p env fun x => q env fun y => dRg f x y k
theorem isa_rg {z : Zn} {M : AP} {H : Hp} {i j : Int} : IsA z M H (rgV i j) (rangeD i (j - i).toNat) := by
  unfold rgV rangeD
  generalize (j - i).toNat = n
  have : ∀ (l : List Nat), IsA z M H (l.map fun t => V.int (i + (t : Nat))) (l.map fun t => D.int (i + (t : Nat))) := fun l => by
    induction l with
    | nil => exact .nil
    | cons t l ih => exact .cons (.int _) ih
  exact this _
theorem e_tupRg1 (h : E m C a p) (hc : C.calm = true) (hg : Gl C "tuple") (hm : C.mg "tuple" = none) (hg' : Gl C "range") (hm' : C.mg "range" = none) {p2 pos2 : Pos} (na : starEach [a] C.env = (false, eval a C.env) :: starEach [] C.env := by rfl)
    (nb : starEach [.Call (.Name "range" p2) [a] [] pos2] C.env = (false, eval (.Call (.Name "range" p2) [a] [] pos2) C.env) :: starEach [] C.env := by rfl) : E .e C (.Call (.Name "tuple" pp) [.Call (.Name "range" p2) [a] [] pos2] [] pos) (eRg1 .tup p) := by
  obtain ⟨t, h1, h2⟩ := h.toB
  refine ⟨_, pe_tupRg hc hg hm (prg_1 hg' hm' h1 na) nb, fun z X H0 H σ env Q k o c hp => h2 z X H0 H σ env _ _ o (fun d v H1 e1 r1 hx => ?_) hp⟩
  cases d with
  | int i =>
    cases Is.intI r1
    obtain ⟨hb, hk⟩ := hx
    exact ⟨i, rfl, ⟨by omega, by omega, by omega, by omega, by omega⟩, fun q hq => c _ _ _ (e1.new hq) ((Rel.newT (e1.fresh hq) hq isa_rg).fe o) hk⟩
  | _ => exact (show False from hx).elim
theorem e_lstRg1 (h : E m C a p) (hc : C.calm = true) (hg : Gl C "list") (hm : C.mg "list" = none) (hg' : Gl C "range") (hm' : C.mg "range" = none) {p2 pos2 : Pos} (na : starEach [a] C.env = (false, eval a C.env) :: starEach [] C.env := by rfl)
    (nb : starEach [.Call (.Name "range" p2) [a] [] pos2] C.env = (false, eval (.Call (.Name "range" p2) [a] [] pos2) C.env) :: starEach [] C.env := by rfl) : E .f C (.Call (.Name "list" pp) [.Call (.Name "range" p2) [a] [] pos2] [] pos) (eRg1 .lst p) := by
  obtain ⟨t, h1, h2⟩ := h.toB
  refine ⟨_, pe_listRg hc hg hm (prg_1 hg' hm' h1 na) nb, fun z X H0 H σ env Q k o c hp => h2 z X H0 H σ env _ _ o (fun d v H1 e1 r1 hx => ?_) hp⟩
  cases d with
  | int i =>
    cases Is.intI r1
    obtain ⟨hb, hk⟩ := hx
    exact ⟨i, rfl, ⟨by omega, by omega, by omega, by omega, by omega⟩, fun q hq => c _ _ _ (e1.new hq) (Rel.newL (e1.fresh hq) hq isa_rg) hk⟩
  | _ => exact (show False from hx).elim
/-- t[::-1] -/
def dRevT : D → (D → Prop) → Prop := fun d k => match d with
  | .tup xs => xs ≠ [] ∧ k (.tup xs.reverse)
  | _ => False
def dRevL : D → (D → Prop) → Prop := fun d k => match d with
  | .lst xs => k (.lst xs.reverse)
  | _ => False
theorem e_revT {kk : Nat} {p1 p2 p3 : Pos} (h : E .c C e p) : E .e C (.Subscript e (.Slice none none (some (.UnaryOp .USub (.Constant (.int 1) kk p1) p2)) p3) pos) (eUn dRevT p) := by
  obtain ⟨t, h1, h2⟩ := h
  refine ⟨_, Ew.pe_revN h1, fun z X H0 H σ env Q k o c hp => h2 z X H0 H σ env _ _ o (fun d v H1 e1 r1 hx => ?_) hp⟩
  cases d with
  | tup xs =>
    obtain ⟨a, vs, rfl, q1, q2, n⟩ := r1.conT
    exact ⟨a, vs, rfl, SqT.of q1, by rw [q2.length]; exact List.length_pos_iff.mpr hx.1, fun q hq => c _ _ _ (e1.new hq) ((Rel.newT (e1.fresh hq) hq q2.reverse).fe o) hx.2⟩
  | _ => exact (show False from hx).elim
/-! ### more changes of what a slot owns -/
/-- y = x.pop(e) -/
def sPopAt (j i : Nat) (p : PX) : PSt := fun env k => match env[i]? with
  | some (.own (.lst xs)) => p env fun d => inK d fun n => (-100000 < n ∧ n < 100000) ∧ ∃ jj y, seqIndex? n xs.length = some jj ∧ xs[jj]? = some y ∧ k.nx ((env.set i (.own (.lst (xs.eraseIdx jj)))).set j (.val y))
  | _ => False
theorem mutL {z : Zn} {X : AP} {H0 H : Hp} {σ : Sl} {env : List SV} {i : Nat} {a : Addr} {d : D} {vs' : List V} {ds' : List D} (o : Ok z X H0 H σ env) (hi : env[i]? = some (.own d)) (hs : σ[i]? = some (some (V.ref a))) (hz : ¬ z.Z a) (h : IsA z (Ms z X σ env) H vs' ds') :
    Ok z X H0 (upd H a (.lst vs')) σ (env.set i (.own (.lst ds'))) ∧ Fr z X (Ms z X σ env) H (Ms z X σ (env.set i (.own (.lst ds')))) (upd H a (.lst vs')) := by
  have ia : Ms z X σ env a := .inr (.inr ⟨i, _, hi, hs⟩)
  exact o.mut hi hs ⟨vs', upd_same, h.gen (fun b u hb n => ⟨by rw [upd_ne (fun e => n (by rw [e]; exact ia))]; exact hb, n⟩) fun b hb => ok_mut hz hb⟩
theorem Is.setOwn {z : Zn} {X : AP} {H0 H : Hp} {σ : Sl} {env : List SV} {i : Nat} {a : Addr} {d d' y : D} {v : V} {o' : HO} (f : Fr z X (Ms z X σ env) H (Ms z X σ (env.set i (.own d'))) (upd H a o')) (h : Is z (Ms z X σ env) H v y) : Is z (Ms z X σ (env.set i (.own d'))) (upd H a o') v y := f.is h
theorem s_popAt (j i : Nat) {x y : Str} {py apos cpos : Pos} (h : E m C e p) (hj : C.N[j]? = some y) (hy : Loc C.env.scope y) (hND : C.N.Nodup)
    (hb : ∀ to te, PE C (.Name x pp) to → PE C e te → PE C (.Call (.Attribute (.Name x pp) "pop" apos) [e] [] cpos) (tBM C.K "list" rPopAt to (tCons te tNil)))
    (hN : C.N[i]? = some x := by rfl) (hv : Vis C.env.scope x := by first | exact Or.inl rfl | exact Or.inr (Or.inl rfl) | exact Or.inr (Or.inr rfl)) (hd : (x == ("__debug__" : Str)) = false := by decide)
    (hcd : (x == ("__classdict__" : Str)) = false := by decide)
    (hs : swapsWith (.Call (.Attribute (.Name x pp) "pop" apos) [e] [] cpos) (some (.Name y py)) pos.line C.env = pure false := by rfl) (hf : C.fn y = true ∨ C.env.scope.names.lookup y = some .local := by first | exact .inl rfl | exact .inr rfl | assumption) :
    S fr C (.Assign [.Name y py] (.Call (.Attribute (.Name x pp) "pop" apos) [e] [] cpos) pos) (sPopAt j i p) := by
  obtain ⟨t, h1, h2⟩ := h.toB
  refine ⟨_, ps_set hND hj hy (hb _ _ (pe_var hN hv hd hcd) h1) hs hf, fun z X H0 H σ env G k o s hp => ?_⟩
  unfold sPopAt at hp
  split at hp
  · rename_i xs he
    obtain ⟨a, q1, ⟨vs, q5, q6⟩, q3, q4⟩ := o.own i _ he
    refine ⟨_, q1, .inl ⟨rfl, vs, SqL.of q5⟩, h2 z X H0 H σ env _ _ o (fun d v H1 e1 r1 hx => ?_) hp⟩
    cases d with
    | int n =>
      cases Is.intI r1
      obtain ⟨hn, jj, yy, g1, g2, hk⟩ := hx
      have o1 := o.go e1
      have q5' := e1.old a _ q5 q3
      have q6' := IsA.evo (fun _ q => .inl q) e1 q6
      obtain ⟨w, w1, w2⟩ := q6'.get g2
      refine ⟨a, vs, n, jj, w, rfl, rfl, q5', by omega, by omega, by rw [q6.length]; exact g1, w1, ?_⟩
      obtain ⟨o2, f2⟩ := mutL o1 he q1 q3 (q6'.eraseIdx jj)
      obtain ⟨o3, f3⟩ := o2.set (i := j) (f2.is w2)
      exact s.nx _ _ _ o3 ((o.fr e1).trans (f2.trans f3)) hk
    | _ => exact (show False from hx).elim
  · exact hp.elim
/-- x[i] = e -/
def sPut (i : Nat) (pi pe : PX) : PSt := fun env k => pe env fun y => match env[i]? with
  | some (.own (.lst xs)) => pi env fun d => match d with
    | .int n => ∃ jj, ixN xs.length n = some jj ∧ k.nx (env.set i (.own (.lst (xs.set jj y))))
    | _ => False
  | _ => False
theorem s_put (i : Nat) {x : Str} {ix : Expr} {spos : Pos} (he : E .e C e p) (hi : E m C ix q) (hN : C.N[i]? = some x := by rfl) (hv : Vis C.env.scope x := by first | exact Or.inl rfl | exact Or.inr (Or.inl rfl) | exact Or.inr (Or.inr rfl)) (hd : (x == ("__debug__" : Str)) = false := by decide)
    (hcd : (x == ("__classdict__" : Str)) = false := by decide)
    (ha : ∀ v, assign (.Subscript (.Name x pp) ix spos) C.env v = (do
      let ov ← holding [v] (eval (.Name x pp) C.env)
      let iv ← holding [v, ov] (eval ix C.env)
      standAt spos
      holding [v, ov, iv] (setItem ov iv v)
      release [v, ov, iv] []) := by intro _; rfl)
    (hs : swapsWithSole [.Subscript (.Name x pp) ix spos] e pos.line C.env = pure false := by rfl) (hw : swappedStores [.Subscript (.Name x pp) ix spos] e C.env = pure none := by rfl)
    (h1 : (assignEach [.Subscript (.Name x pp) ix spos] C.env).map (·.2) = [assign (.Subscript (.Name x pp) ix spos) C.env] := by rfl) : S fr C (.Assign [.Subscript (.Name x pp) ix spos] e pos) (sPut i q p) := by
  obtain ⟨t, a1, a2⟩ := he
  obtain ⟨t2, b1, b2⟩ := hi.toB
  refine ⟨_, ps_asg a1 (pg_sub (pe_var hN hv hd hcd) b1 set_list ha) hs hw h1, fun z X H0 H σ env G k o s hp => a2 z X H0 H σ env _ _ o (fun y v H1 e1 r1 hx => ?_) hp⟩
  split at hx
  · rename_i xs he
    have o1 := o.go e1
    obtain ⟨a, q1, ⟨vs, q5, q6⟩, q3, q4⟩ := o1.own i _ he
    refine ⟨_, q1, b2 z X H0 H1 σ env _ _ o1 (fun d u H2 e2 r2 hx => ?_) hx⟩
    cases d with
    | int n =>
      cases Is.intI r2
      obtain ⟨jj, g1, hk⟩ := hx
      have o2 := o1.go e2
      have q5' := e2.old a _ q5 q3
      have q6' := IsA.evo (fun _ q => .inl q) e2 q6
      refine ⟨a, vs, n, jj, rfl, rfl, q5', by rw [q6.length]; exact g1, ?_⟩
      obtain ⟨o3, f3⟩ := mutL o2 he q1 q3 (IsA.set (Is.evo (fun _ q => .inl q) e2 r1) jj q6')
      exact s.nx _ _ _ o3 ((o.fr (e1.trans e2)).trans f3) hk
    | _ => exact (show False from hx).elim
  · exact hx.elim
/-! ### while -/
def whileN (c : PTs') (body : PSt) (k : PK') : Nat → List SV → Prop
  | 0, _ => False
  | n + 1, env => c env fun b => if b = true then body env { nx := whileN c body k n, rt := k.rt, bk := k.nx, ct := whileN c body k n } else k.nx env
def sWhile (c : PTs') (body : PSt) : PSt := fun env k => ∃ n, whileN c body k n env
theorem s_while {c : Expr} {body : List Stmt} {pc : PTs'} {pb : PSt} (h : T C c pc) (g : B fr C body pb) (hp : PassesOwn (model C.prog C.w) C.A C.env C.xe) : S fr C (.While c body [] pos) (sWhile pc pb) := by
  obtain ⟨t, h1, h2⟩ := h
  obtain ⟨u, g1, g2⟩ := g
  refine ⟨_, ps_while hp h1 g1, fun z X H0 H σ env G k o s hw => ?_⟩
  obtain ⟨n, hw⟩ := hw
  refine ⟨fun mm σ' H' => ∃ env', Ok z X H0 H' σ' env' ∧ Fr z X (Ms z X σ env) H (Ms z X σ' env') H' ∧ whileN pc pb k mm env', ⟨n, env, o, Fr.refl, hw⟩, ?_⟩
  rintro mm σ' H' ⟨env', o', f', hw'⟩
  cases mm with
  | zero => exact hw'.elim
  | succ mm =>
    refine h2 z X H0 H' σ' env' _ _ o' (fun b H1 e1 hx => ?_) hw'
    have o1 := o'.go e1
    have f1 := f'.trans (o'.fr e1)
    cases b with
    | true =>
      rw [if_pos rfl] at hx ⊢
      refine ⟨fun σ2 H2 => ∃ env2, Ok z X H0 H2 σ2 env2 ∧ Fr z X (Ms z X σ env) H (Ms z X σ2 env2) H2 ∧ whileN pc pb k mm env2, fun σ2 H2 q => ⟨mm, Nat.lt_succ_self _, q⟩, ?_⟩
      exact g2 z X H0 H1 σ' env' _ { nx := whileN pc pb k mm, rt := k.rt, bk := k.nx, ct := whileN pc pb k mm } o1 ⟨fun env2 σ2 H2 o2 f2 hx2 => ⟨env2, o2, f1.trans f2, hx2⟩, s.rt, fun env2 σ2 H2 o2 f2 hx2 => s.nx env2 σ2 H2 o2 (f1.trans f2) hx2, fun env2 σ2 H2 o2 f2 hx2 => ⟨env2, o2, f1.trans f2, hx2⟩, fun _ _ _ _ _ _ _ h => h.elim⟩ hx
    | false =>
      rw [if_neg Bool.false_ne_true] at hx ⊢
      exact s.nx env' σ' H1 o1 f1 hx
end
end Pu

namespace Pu
open PySem PySem.Spec PyProof.Rows L2
variable [Tbs]
section
variable {C : Cx} {tg e : Expr} {pe : PX} {m : Mode} {fr : Bool} {pos pp : Pos}
/-- a list or a tuple walked -/
def iSeqT (K : PySem.W.Frag) (tl : TE) : TI := fun σ H R => tl σ H fun x H1 => (∃ a, x = .ref a ∧ (∃ xs, SqL K H1 a xs) ∧ R (Itl K a) H1) ∨ (∃ a, x = .ref a ∧ (∃ xs, SqT K H1 a xs) ∧ R (Itt K a) H1)
theorem pi_seq {l : Expr} {tl : TE} (hl : PE C l tl) : PI C tg l (iSeqT C.K tl) := by
  refine ⟨fun pins s σ H R I h => ?_⟩
  refine thn (hl.run pins s σ H _ I h) fun v s1 ⟨x, H1, I1, r1, q1⟩ => ?_
  have hb : ∀ b ∈ [s1.heap.objs.size], FpOk C pins H1 b := fun b hb => by
    have e : b = s1.heap.objs.size := by simpa using hb
    subst e
    exact I1.fpOk (Nat.le_refl _) (I1.hok.fresh (Nat.le_refl _))
  rcases q1 with ⟨a, e, ⟨xs, hq⟩, q⟩ | ⟨a, e, ⟨xs, hq⟩, q⟩
  · subst e
    cases r1
    obtain ⟨its, rv, p, hz⟩ := I1.list hq
    refine wpAny_pyIter_list p.isList ?_
    exact ⟨s1.heap.objs.size, [s1.heap.objs.size], _, _, H1, rfl, I1.kept (t' := s1.toks) fun b o e => Heap.get?_push_of_some _ e, turn_list a _, ⟨_, Heap.get?_push_size _ rfl, rfl, rfl⟩, hb, q⟩
  · subst e
    cases r1
    obtain ⟨its, rv, p, hz⟩ := I1.tuple hq
    refine wpAny_pyIter_tuple (show s1.heap.IsTuple a its.toArray from p) ?_
    exact ⟨s1.heap.objs.size, [s1.heap.objs.size], _, _, H1, rfl, I1.kept (t' := s1.toks) fun b o e => Heap.get?_push_of_some _ e, turn_tuple a _, ⟨_, Heap.get?_push_size _ rfl, rfl, rfl⟩, hb, q⟩
theorem i_seq (h : E .e C e pe) : I C tg e (iSeq pe) := by
  obtain ⟨t, h1, h2⟩ := h
  refine ⟨_, pi_seq h1, fun z X H0 H σ env R k o c hp => h2 z X H0 H σ env _ _ o (fun d v H1 e1 r1 hx => ?_) hp⟩
  cases (show Is z _ H1 v d from r1) with
  | lst e n r => exact .inl ⟨_, rfl, ⟨_, SqL.of e⟩, c _ _ H1 e1 (yl_lst e n r) hx⟩
  | tup e n r => exact .inr ⟨_, rfl, ⟨_, SqT.of e⟩, c _ _ H1 e1 (yl_tup e n r) hx⟩
  | _ => exact (show False from hx).elim
/-- what a slot owns is changed no more -/
def frz (i : Nat) (env : List SV) : List SV := match env[i]? with
  | some (.own d) => env.set i (.val d)
  | _ => env
theorem Ok.frz {z : Zn} {X : AP} {H0 H : Hp} {σ : Sl} {env : List SV} (o : Ok z X H0 H σ env) (i : Nat) : Ok z X H0 H σ (frz i env) ∧ Fr z X (Ms z X σ env) H (Ms z X σ (Pu.frz i env)) H := by
  unfold Pu.frz
  split
  · rename_i d hd
    have hl : i < env.length := (List.getElem?_eq_some_iff.mp hd).1
    obtain ⟨a, ha, hc, hz, hx, h0⟩ := o.own i d hd
    have sub : ∀ b, Ms z X σ (env.set i (.val d)) b → Ms z X σ env b ∧ b ≠ a := by
      rintro b (h | h | ⟨j, e, h1, h2⟩)
      · exact ⟨.inl h, fun q => hz (by rw [← q]; exact h)⟩
      · exact ⟨.inr (.inl h), fun q => hx (by rw [← q]; exact h)⟩
      · obtain ⟨hj, h1⟩ := set_own h1
        refine ⟨.inr (.inr ⟨j, e, h1, h2⟩), fun q => hj ?_⟩
        rw [q] at h2
        exact o.inj j i a e d h1 hd h2 ha
    have old : ∀ b u, H b = some u → ¬ Ms z X σ env b → H b = some u ∧ ¬ Ms z X σ (env.set i (.val d)) b := fun b u q n => ⟨q, fun y => n (sub b y).1⟩
    refine ⟨⟨by simp [o.len], o.evo, o.zal, o.xal, fun j e h => ?_, fun j e h => ?_, fun j l b e f h1 h2 h3 h4 => ?_, o.tab⟩, ⟨old, fun _ h => h, fun _ h => h⟩⟩
    · by_cases hj : i = j
      · subst hj
        rw [List.getElem?_set_self hl] at h
        cases h
        exact ⟨_, ha, (hc.gen (fun _ q => q) old fun _ h => h).is fun q => (sub a q).2 rfl⟩
      · rw [List.getElem?_set_ne hj] at h
        obtain ⟨v, h1, h2⟩ := o.val j e h
        exact ⟨v, h1, h2.gen old fun _ h => h⟩
    · obtain ⟨hj, h⟩ := set_own h
      obtain ⟨b, h1, h2, h3⟩ := o.own j e h
      exact ⟨b, h1, h2.gen (fun _ q => q) old fun _ h => h, h3⟩
    · exact o.inj j l b e f (set_own h1).2 (set_own h2).2 h3 h4
  · exact ⟨o, Fr.refl⟩
def sFrz (i : Nat) (p : PSt) : PSt := fun env k => p (frz i env) k
theorem b_frz (i : Nat) {sts : List Stmt} {p : PSt} (h : B fr C sts p) : B fr C sts (sFrz i p) := by
  obtain ⟨t, h1, h2⟩ := h
  refine ⟨t, h1, fun z X H0 H σ env G k o s hp => ?_⟩
  obtain ⟨o2, f2⟩ := o.frz i
  exact h2 z X H0 H σ _ G k o2 (s.go f2) hp
/-- t[::-1] of a list -/
theorem e_revL {kk : Nat} {p1 p2 p3 : Pos} (h : E .c C e pe) : E .f C (.Subscript e (.Slice none none (some (.UnaryOp .USub (.Constant (.int 1) kk p1) p2)) p3) pos) (eUn dRevL pe) := by
  obtain ⟨t, h1, h2⟩ := h
  refine ⟨_, pe_revL h1, fun z X H0 H σ env Q k o c hp => h2 z X H0 H σ env _ _ o (fun d v H1 e1 r1 hx => ?_) hp⟩
  cases d with
  | lst xs =>
    obtain ⟨a, vs, rfl, q1, q2, n⟩ := r1.conL
    exact ⟨a, vs, rfl, SqL.of q1, fun q hq => c _ _ _ (e1.new hq) (Rel.newL (e1.fresh hq) hq q2.reverse) hx⟩
  | _ => exact (show False from hx).elim
end
/-! ### a law by its deck and the rest of its body -/
section
variable {P : Program} {w : World} {K : PySem.W.Frag} {mg : Str → Option Value} {base : Heap}
/-- the deck's promise: a new deck of kind nt -/
def SpDeck (K : PySem.W.Frag) (nt : Nat) : Sp := fun vs H Q _ => ∃ (a : Addr) (ns : List Int), vs = [.ref a] ∧ SqL K H a (ns.map V.int) ∧ ns.length ≤ 63 ∧ ∀ H' dk c, DkF nt H' dk c → Q (.ref dk) H'
def SpLaw (K : PySem.W.Frag) : Sp := fun vs H Q _ => ∃ (a : Addr) (ns : List Int), vs = [.ref a] ∧ SqL K H a (ns.map V.int) ∧ ns.length ≤ 63 ∧ ∀ H', Q (.bl true) H'
def sp_lawT (K : PySem.W.Frag) (tb : List Addr) : Sp := fun vs H Q _ => ∃ (a : Addr) (ns : List Int), vs = [.ref a] ∧ SqL K H a (ns.map V.int) ∧ ns.length ≤ 63 ∧ (∀ P ∈ tb, GxR.TabG H P) ∧ ∀ H', Q (.bl true) H'
/-- the rest of the body, behind the deck's making -/
theorem rest_ok {t : TS} {p : PSt} {nt : Nat} (hnt : nt ≠ 0) (h : RS false t p) {N : List Str} {a dk c : Addr} {H : Hp} (hl : 2 ≤ N.length) (hd : DkF nt H dk c) (hT : Tabs H) {Q : VK} (k : ∀ H', Q (.bl true) H')
    (hp : p (SV.no :: SV.val (.deck nt) :: List.replicate (N.length - 2) SV.no) { nx := fun _ => False, rt := fun d => d = .bl true }) (h6 : ∀ H dk c n, CtF nt H dk c n := by intros; trivial) :
    t { nx := fun _ H' => Q .non H', rt := Q } ((L2.start N [V.ref a]).set 1 (some (.ref dk))) H := by
  have hst : (L2.start N [V.ref a]).set 1 (some (.ref dk)) = some (V.ref a) :: some (.ref dk) :: List.replicate (N.length - 2) none := by
    unfold L2.start
    obtain ⟨m, hm⟩ : ∃ m, N.length = m + 2 := ⟨N.length - 2, by omega⟩
    rw [hm]
    simp [List.replicate_succ]
  rw [hst]
  let z : Zn := ⟨dk, c, nt, Option.none, 0⟩
  have zal : ∀ b, z.Z b → H b ≠ none := fun b q => by
    rcases q with ⟨_, q | q⟩ | q
    · rw [q]; exact hd.al.1
    · rw [q]; exact hd.al.2
    · exact hT.at q
  have hrep : ∀ (i : Nat) (d : SV), (SV.no :: SV.val (.deck nt) :: List.replicate (N.length - 2) SV.no)[i]? = some d → d = .no ∨ (i = 1 ∧ d = .val (.deck nt)) := fun i d h => by
    match i, h with
    | 0, h => simp at h; exact .inl h.symm
    | 1, h => simp at h; exact .inr ⟨rfl, h.symm⟩
    | j + 2, h =>
      simp only [List.getElem?_cons_succ, List.getElem?_replicate] at h
      split at h
      · cases h; exact .inl rfl
      · cases h
  have o : Ok z (fun _ => False) H H (some (V.ref a) :: some (.ref dk) :: List.replicate (N.length - 2) none) (SV.no :: SV.val (.deck nt) :: List.replicate (N.length - 2) SV.no) := by
    refine ⟨by simp, Evo.refl _ _, zal, fun _ q => q.elim, fun i d h => ?_, fun i d h => ?_, fun i j b d e h _ _ _ => ?_, hT⟩
    · rcases hrep i _ h with q | ⟨rfl, q⟩
      · cases q
      · cases q
        exact ⟨.ref dk, rfl, Is.deck ⟨rfl, hnt, hd, h6 _ _ _ _⟩⟩
    · rcases hrep i _ h with q | ⟨rfl, q⟩ <;> cases q
    · rcases hrep i _ h with q | ⟨rfl, q⟩ <;> cases q
  refine h z (fun _ => False) H H _ _ _ { nx := fun _ => False, rt := fun d => d = .bl true } o ⟨fun _ _ _ _ _ q => q.elim, fun d v H' _ r _ q => ?_, fun _ _ _ _ _ q => q.elim, fun _ _ _ _ _ q => q.elim, fun _ _ _ _ _ _ _ q => q.elim⟩ hp
  subst q
  cases r
  exact k H'
/-- the rest of a deck's making, behind the cells' copy: [cells, seed, 0, 0] -/
theorem rest_deck {t : TS} {p : PSt} (h : RS false t p) {N : List Str} {a q : Addr} {H : Hp} {cs : List Int} (hl : 2 ≤ N.length) (hc : H q = some (.lst (cs.map V.int))) (hT : Tabs H) {Q : VK} {R : D → Prop} (k : ∀ H' v d, R d → Is Zn.none (fun _ => False) H' v d → Tabs H' → Q v H')
    (hp : p (SV.no :: SV.val (.lst (cs.map D.int)) :: List.replicate (N.length - 2) SV.no) { nx := fun _ => False, rt := R }) :
    t { nx := fun _ H' => Q .non H', rt := Q } ((L2.start N [V.ref a]).set 1 (some (.ref q))) H := by
  have hst : (L2.start N [V.ref a]).set 1 (some (.ref q)) = some (V.ref a) :: some (.ref q) :: List.replicate (N.length - 2) none := by
    unfold L2.start
    obtain ⟨m, hm⟩ : ∃ m, N.length = m + 2 := ⟨N.length - 2, by omega⟩
    rw [hm]
    simp [List.replicate_succ]
  rw [hst]
  have zz : ∀ b, Zn.none.Z b → b ∈ Tbs.tb := fun b w => w.elim (fun w => absurd rfl w.1) fun w => w
  have zq : ¬ Zn.none.Z q := fun w => by
    obtain ⟨ps, e, _⟩ := hT q (zz q w)
    rw [hc] at e
    cases e
  have hrep : ∀ (i : Nat) (d : SV), (SV.no :: SV.val (.lst (cs.map D.int)) :: List.replicate (N.length - 2) SV.no)[i]? = some d → d = .no ∨ (i = 1 ∧ d = .val (.lst (cs.map D.int))) := fun i d h => by
    match i, h with
    | 0, h => simp at h; exact .inl h.symm
    | 1, h => simp at h; exact .inr ⟨rfl, h.symm⟩
    | j + 2, h =>
      simp only [List.getElem?_cons_succ, List.getElem?_replicate] at h
      split at h
      · cases h; exact .inl rfl
      · cases h
  have hia : ∀ (M : AP) (ns : List Int), IsA Zn.none M H (ns.map V.int) (ns.map D.int) := fun M ns => by
    induction ns with
    | nil => exact .nil
    | cons n ns ih => exact .cons (.int n) ih
  have hms : ¬ Ms Zn.none (fun _ => False) (some (V.ref a) :: some (.ref q) :: List.replicate (N.length - 2) none) (SV.no :: SV.val (.lst (cs.map D.int)) :: List.replicate (N.length - 2) SV.no) q := fun w => by
    rcases w with w | w | ⟨i, d, w, _⟩
    · exact zq w
    · exact w
    · rcases hrep i _ w with q | ⟨_, q⟩ <;> cases q
  have o : Ok Zn.none (fun _ => False) H H (some (V.ref a) :: some (.ref q) :: List.replicate (N.length - 2) none) (SV.no :: SV.val (.lst (cs.map D.int)) :: List.replicate (N.length - 2) SV.no) := by
    refine ⟨by simp, Evo.refl _ _, fun b w => hT.at (zz b w), fun _ q => q.elim, fun i d h => ?_, fun i d h => ?_, fun i j b d e h _ _ _ => ?_, hT⟩
    · rcases hrep i _ h with q | ⟨rfl, q⟩
      · cases q
      · cases q
        exact ⟨.ref _, rfl, Is.lst hc hms (hia _ cs)⟩
    · rcases hrep i _ h with q | ⟨rfl, q⟩ <;> cases q
    · rcases hrep i _ h with q | ⟨rfl, q⟩ <;> cases q
  refine h Zn.none (fun _ => False) H H _ _ _ { nx := fun _ => False, rt := R } o ⟨fun _ _ _ _ _ q => q.elim, fun d v H' ev r _ w => ?_, fun _ _ _ _ _ q => q.elim, fun _ _ _ _ _ q => q.elim, fun _ _ _ _ _ _ _ q => q.elim⟩ hp
  exact k H' v d w (r.gen (fun b o e _ => ⟨e, fun w => w⟩) fun _ w => w) (ev.tab hT)
end
end Pu
namespace Pu
open PySem PySem.Spec PyProof.Rows L2
variable [Tbs]
theorem E.conv {C : Cx} {m : Mode} {e : Expr} {p p' : PX} (h : E m C e p) (f : ∀ env k, p' env k → p env k) : E m C e p' := by
  obtain ⟨t, h1, h2⟩ := h
  exact ⟨t, h1, fun z X H0 H σ env Q k o c hp => h2 z X H0 H σ env Q k o c (f env k hp)⟩
/-- a written power -/
theorem e_powC {C : Cx} {i1 i2 : Nat} {p1 p2 pos : Pos} (b e r : Int) (hc : CPow b e := by exact ⟨by decide, by decide, by decide⟩) (hr : b ^ e.toNat = r := by rfl) : E .e C (.BinOp (.Constant (.int b) i1 p1) .Pow (.Constant (.int e) i2 p2) pos) (eC (.int r)) :=
  (e_op op_pow opd_pow e_int.toB e_int.toB).conv fun env k h => ⟨hc, by show k (.int (b ^ e.toNat)); rw [hr]; exact h⟩
def tPS (fr : Bool) (p : PSt) : TS := fun G σ H => ∃ z X H0 env k, Ok z X H0 H σ env ∧ Sim fr z X H0 (Ms z X σ env) H G k ∧ p env k
theorem B.pss {fr : Bool} {C : Cx} {sts : List Stmt} {p : PSt} (h : B fr C sts p) : PSs C sts (tPS fr p) := by
  obtain ⟨t, h1, h2⟩ := h
  exact ⟨fun pins s σ H G I ⟨z, X, H0, env, k, o, c, hp⟩ => h1.run pins s σ H G I (h2 z X H0 H σ env G k o c hp)⟩
theorem rs_tPS {fr : Bool} {p : PSt} : RS fr (tPS fr p) p := fun z X H0 H σ env G k o c hp => ⟨z, X, H0, env, k, o, c, hp⟩
end Pu

namespace Ew
open PySem PySem.Spec PyProof.Rows L2
variable [Tbs]
section
variable {M : Model} {A : Around} {E : Value → Shared → Prop} {s : Shared} {env : Env}
theorem callT_kwB {pos : Pos} {T : String} {first : List Value} {args : List (Bool × Sem Value)} {keywords : List (Option Str × Sem Value)} {Q : Value → Shared → Prop}
    (hplain : args.any (·.1) = false) (hkw : keywords.any (·.1.isNone) = false)
    (h : wpAny M A (evalArgs (.type T) true args keywords) (fun a s₁ => wpAny M A (call (.type T) (first ++ a.pos) a.kw) Q E s₁) E s) :
    wpAny M A (callWith pos (.type T) first args keywords) Q E s := by
  unfold callWith
  refine wpAny_bind (wpAny_holding (wpAny_mono h (fun a s₁ h₁ => wpAny_bind (wpAny_standAt ?_)) fun _ _ x => x))
  simp only [hplain, hkw, Bool.or_false]
  refine wpAny_bind (wpAny_pure ?_)
  exact wpAny_bind (wpAny_mono h₁ (fun r s₂ hr => wpAny_bind (wpAny_holding (wpAny_point (wpAny_pure hr)))) fun _ _ x => x)
theorem callT_kw {pos : Pos} {T : String} {e : Expr} {rest : List Expr} {kws : List Keyword} {Q : Value → Shared → Prop}
    (h : wpAny M A (spliced (backTo pos (starEach (e :: rest) env))) (fun vs s₁ => wpAny M A (evalAll ((backToKw pos (keywordEach kws env)).map (·.2)))
      (fun kvs s₂ => wpAny M A (call (.type T) vs (((backToKw pos (keywordEach kws env)).filterMap (·.1)).zip kvs)) Q E s₂) E s₁) E s)
    (he : backTo pos (starEach (e :: rest) env) = (false, eval e env) :: backTo pos (starEach rest env))
    (hplain : (backTo pos (starEach (e :: rest) env)).any (·.1) = false)
    (hall : (backToKw pos (keywordEach kws env)).all (·.1.isSome) = true)
    (hkw : (backToKw pos (keywordEach kws env)).any (·.1.isNone) = false) :
    wpAny M A (callWith pos (.type T) [] (backTo pos (starEach (e :: rest) env)) (backToKw pos (keywordEach kws env))) Q E s := by
  refine callT_kwB hplain hkw ?_
  rw [he] at h ⊢
  exact evalArgs_kwB hall h
end
/-- enumerate(t, start=k) over the tuple at t -/
def IteS (K : PySem.W.Frag) (t : Addr) (k : Int) : It :=
  ⟨fun i H => ∃ xs x, SqT K H t xs ∧ xs[i]? = some x, fun i H v H' => ∃ T x, v = .ref T ∧ H T = none ∧ H' = upd H T (.tup [.int (k + (i : Int)), x]) ∧ ∀ xs, SqT K H t xs → xs[i]? = some x, fun i H => ∃ xs, SqT K H t xs ∧ xs.length = i⟩
theorem turn_enumS {P : Program} {w : World} {K : PySem.W.Frag} {elts : List Expr} {kk : Nat} {tpos : Pos} (t e it : Addr) (k : Int) (hte : t ≠ it) (het : e ≠ t) :
    Turn P w K (.Tuple elts kk tpos) (IteS K t k) [e, it] e (fun i h => (∃ old, IsEnum h e it (k + (i : Int)) old) ∧ h.IsTupleIter it t i ∧ e ≠ it) where
  mem := by simp
  obj := fun i h st b hb => by
    obtain ⟨⟨old, he⟩, ⟨o, ho, hc, hd⟩, _⟩ := st
    have e' : b = e ∨ b = it := by simpa using hb
    rcases e' with z | z
    · rw [z]; exact ⟨_, he, fun v q => nomatch q⟩
    · rw [z]; exact ⟨o, ho, fun v q => by rw [hd] at q; cases q⟩
  keep := fun i h h' st kk => let ⟨⟨old, he⟩, hi, hne⟩ := st; ⟨⟨old, kk e (by simp) _ he⟩, hi.at fun o q => kk it (by simp) o q, hne⟩
  item := by
    intro X hP hw hK hc i pins s σ H E I hf st hg
    subst hP hw hK
    obtain ⟨⟨old, he⟩, hit, hne⟩ := st
    obtain ⟨xs, x, hq, hx⟩ := hg
    obtain ⟨its, rv, p, hz⟩ := I.tuple hq
    obtain ⟨u, hu, ru⟩ := rv.get hx
    have hi : i < its.toArray.size := by
      rw [List.size_toArray]
      exact (List.getElem?_eq_some_iff.mp hu).1
    have D := Draws.tuple (prog := X.prog) (w := X.w) (A := X.A.in1) (I.ok.hd hc) it t hte its.toArray
    have G := GoesN.enumFrom (elts := elts) (x1 := kk) (pos := tpos) k D e hne (by intro m; rcases List.mem_cons.mp m with z | z; exact hne z; exact het (List.mem_singleton.mp z)) (by simp)
    refine G.goes i s _ E hi ⟨⟨old, he⟩, hit, p⟩ fun v h' tk hY st' hk htk => ?_
    obtain ⟨T, tt, x', rfl, hT, hx', hTu⟩ := hY
    have ex : x' = u := by
      have q : its.toArray[i]? = some u := by simpa using hu
      rw [q] at hx'
      exact (Option.some.inj hx').symm
    subst ex
    have new : ObjOk X.prog X.w (upd H T (.tup [.int (k + (i : Int)), x])) h' T (.tup [.int (k + (i : Int)), x]) := ⟨by show 2 ≤ sizeLine; decide, [.int (k + (i : Int)) tt, x'], .cons ⟨_, rfl⟩ (.cons ru .nil), hTu⟩
    have I1 := I.turnedNew (t' := tk) (ch := [e, it]) hk hf hT new
    obtain ⟨⟨old', he'⟩, hit', _⟩ := st'
    refine ⟨.ref T, _, I1, rfl, ⟨T, x, rfl, I.hok.fresh hT, rfl, fun ys hy => by rw [I.tuple_inj hy hq]; exact hx⟩, ⟨⟨old', ?_⟩, hit', hne⟩, fun b hb => ?_⟩
    · have e1 : k + ((i + 1 : Nat) : Int) = k + (i : Int) + 1 := by omega
      have e2 : k + ((i : Nat) + 1 : Int) = k + (i : Int) + 1 := by omega
      exact he'
    · have hb' : b < s.heap.objs.size := by
        have e' : b = e ∨ b = it := by simpa using hb
        rcases e' with z | z
        · rw [z]; exact Heap.lt_size he
        · rw [z]; obtain ⟨_, q, _⟩ := hit; exact Heap.lt_size q
      rw [upd_ne (Nat.ne_of_lt (Nat.lt_of_lt_of_le hb' hT))]
      exact (hf b hb).1
  done := by
    intro X hP hw hK hc i pins s σ H E I hf st hg
    subst hP hw hK
    obtain ⟨⟨old, he⟩, hit, hne⟩ := st
    obtain ⟨xs, hq, hx⟩ := hg
    obtain ⟨its, rv, p, hz⟩ := I.tuple hq
    have hl := rv.length
    have hn : i = its.toArray.size := by rw [List.size_toArray]; omega
    subst hn
    have D := Draws.tuple (prog := X.prog) (w := X.w) (A := X.A.in1) (I.ok.hd hc) it t hte its.toArray
    have G := GoesN.enumFrom (elts := elts) (x1 := kk) (pos := tpos) k D e hne (by intro m; rcases List.mem_cons.mp m with z | z; exact hne z; exact het (List.mem_singleton.mp z)) (by simp)
    exact G.stops s _ E ⟨⟨old, he⟩, hit, p⟩ fun h' tk hk htk => I.turnedL (t' := tk) hk hf
  self := fun A i s Q E st h => let ⟨⟨_, he⟩, _⟩ := st; wpAny_pyIter_enum he h
def iEnumS (K : PySem.W.Frag) (ta tk : TA) : TI := fun σ H R => ta σ H fun vs H1 => tk σ H1 fun zs H2 => ∃ (t : Addr) (k : Int) (xs : List V), vs = [.ref t] ∧ zs = [.int k] ∧ SqT K H2 t xs ∧ -(2 ^ 63) ≤ k ∧ k < 2 ^ 63 ∧ R (IteS K t k) H2
theorem pi_enumS {X : Cx} {e : Expr} {kws : List Keyword} {ta tk : TA} {p pos tpos : Pos} {elts : List Expr} {kk : Nat} (hg : Gl X "enumerate") (hm : X.mg "enumerate" = none) (ha : PA X [e] ta) (hk : PK X kws tk)
    (he : backTo pos (starEach [e] X.env) = (false, eval e X.env) :: backTo pos (starEach [] X.env) := by rfl) (hpl : (backTo pos (starEach [e] X.env)).any (·.1) = false := by rfl)
    (hall : (backToKw pos (keywordEach kws X.env)).all (·.1.isSome) = true := by rfl) (hnone : (backToKw pos (keywordEach kws X.env)).any (·.1.isNone) = false := by rfl) (hks : (backToKw pos (keywordEach kws X.env)).filterMap (·.1) = [Str.ofString "start"] := by rfl) :
    PI X (.Tuple elts kk tpos) (.Call (.Name "enumerate" p) [e] kws pos) (iEnumS X.K ta tk) := by
  refine ⟨fun pins s σ H R I h => ?_⟩
  refine wpAny_Call_Name_kw (ld_blt I hg hm boot_enumerate ?_)
  refine callT_kw (thn (ha.run pos pins s σ H _ I h) fun us s1 ⟨vs, H1, I1, r1, q1⟩ => thn (hk.run pos pins s1 σ H1 _ I1 q1) fun ws s2 ⟨zs, H2, I2, r2, q2⟩ => ?_) he hpl hall hnone
  obtain ⟨t, k, xs, ev, ez, hq, k0, k1, q⟩ := q2
  subst ev ez
  rw [hks]
  cases r1 with
  | cons ra rr =>
    cases rr
    cases ra
    cases r2 with
    | cons rb rr2 =>
      cases rr2
      obtain ⟨tok, rfl⟩ := rb
      obtain ⟨its, rv, p', hz⟩ := I2.tuple hq
      refine enum_begins_start (begins_tuple t its.toArray) p' k0 k1 fun h' hen hit hsz hkeep => wpAny_pyIter_enum hen ?_
      have I3 : Inv X pins σ H2 { s2 with heap := h' } := I2.kept (t' := s2.toks) hkeep
      have htl : t < s2.heap.objs.size := by obtain ⟨_, qq, _⟩ := p'; exact Heap.lt_size qq
      refine ⟨s2.heap.objs.size + 1, [s2.heap.objs.size + 1, s2.heap.objs.size], _, _, H2, rfl, I3, turn_enumS t (s2.heap.objs.size + 1) s2.heap.objs.size k (Nat.ne_of_lt htl) (Nat.ne_of_gt (Nat.lt_succ_of_lt htl)), ⟨⟨.none, ?_⟩, ⟨_, hit, rfl, rfl⟩, Nat.succ_ne_self _⟩, fun b hb => ?_, q⟩
      · show IsEnum h' _ _ (k + ((0 : Nat) : Int)) .none
        rw [show k + ((0 : Nat) : Int) = k by omega]
        exact hen
      have e' : b = s2.heap.objs.size + 1 ∨ b = s2.heap.objs.size := by simpa using hb
      have hle : s2.heap.objs.size ≤ b := by
        rcases e' with z | z
        · rw [z]; exact Nat.le_add_right _ _
        · rw [z]; exact Nat.le_refl _
      exact I2.fpOk hle (I2.hok.fresh hle)
/-- the loop: each turn a new pair of start + i and the item -/
theorem for_enumS {K : PySem.W.Frag} {t : Addr} {k : Int} {xs : List V} {g : TG} {tb : TS} {D : Ends} {σ : L2.St} {H : Hp} (Pv : Nat → L2.St → Hp → Prop) (h0 : Pv 0 σ H) (hl : ∀ i σ H, i ≤ xs.length → Pv i σ H → SqT K H t xs)
    (hs : ∀ i x T σ H, xs[i]? = some x → Pv i σ H → H T = none → g (.ref T) σ (upd H T (.tup [.int (k + (i : Int)), x])) fun σ2 H2 => tb { D with nx := Pv (i + 1), ct := Pv (i + 1), bk := D.nx } σ2 H2) (hd : ∀ σ H, Pv xs.length σ H → D.nx σ H) :
    ∃ W : Nat → Nat → L2.St → Hp → Prop, (∃ m, W 0 m σ H) ∧ ∀ i m σ H, W i m σ H →
      ((IteS K t k).stop i H ∧ D.nx σ H) ∨ ((IteS K t k).go i H ∧ ∃ N : L2.St → Hp → Prop, (∀ σ' H', N σ' H' → ∃ m', m' < m ∧ W (i + 1) m' σ' H') ∧ ∀ x H', (IteS K t k).yld i H x H' → g x σ H' fun σ2 H2 => tb { D with nx := N, ct := N, bk := D.nx } σ2 H2) := by
  refine ⟨fun i m σ H => m = xs.length - i ∧ i ≤ xs.length ∧ Pv i σ H, ⟨xs.length, by simp, Nat.zero_le _, h0⟩, ?_⟩
  rintro i m σ H ⟨rfl, hi, p⟩
  have q := hl i σ H hi p
  by_cases hlt : i < xs.length
  · refine .inr ⟨⟨xs, xs[i], q, by simp [hlt]⟩, Pv (i + 1), fun σ' H' p' => ⟨xs.length - (i + 1), by omega, rfl, hlt, p'⟩, fun x H' y => ?_⟩
    obtain ⟨T, x', rfl, hT, rfl, hx⟩ := y
    exact hs i x' T σ H (hx xs q) p hT
  · have e : i = xs.length := by omega
    subst e
    exact .inl ⟨⟨xs, q, rfl⟩, hd σ H p⟩
end Ew

namespace Pu
open PySem PySem.Spec PyProof.Rows L2
variable [Tbs]
section
variable {C : Cx} {e tg : Expr} {p q : PX} {m : Mode} {fr : Bool} {pos pp : Pos}
/-- a statement that is never come to -/
def sNever : PSt := fun _ _ => False
theorem s_never {st : Stmt} : S fr C st sNever := ⟨_, ps_never, fun _ _ _ _ _ _ _ _ _ _ h => h.elim⟩
/-! enumerate -/
def enumD (j : Int) (xs : List D) : List D := (List.range xs.length).map fun i => .tup [.int (j + (i : Nat)), (xs[i]?).getD .non]
theorem enumD_get {j : Int} {xs : List D} {i : Nat} {d : D} (h : (enumD j xs)[i]? = some d) : ∃ x, xs[i]? = some x ∧ d = .tup [.int (j + (i : Nat)), x] := by
  have hl := (List.getElem?_eq_some_iff.mp h).1
  have hi : i < xs.length := by simpa [enumD] using hl
  refine ⟨xs[i], List.getElem?_eq_getElem hi, ?_⟩
  unfold enumD at h
  rw [List.getElem?_map, List.getElem?_range hi] at h
  simp only [Option.map_some, Option.some.injEq] at h
  rw [← h, List.getElem?_eq_getElem hi]
  rfl
theorem enumD_len {j : Int} {xs : List D} : (enumD j xs).length = xs.length := by simp [enumD]
theorem pair_is {z : Zn} {M : AP} {H : Hp} {T : Addr} {x : V} {d : D} {n : Int} (hT : H T = none) (hM : ¬ M T) (h : Is z M H x d) : Is z M (upd H T (.tup [.int n, x])) (.ref T) (.tup [.int n, d]) :=
  .tup upd_same hM (.cons (.int n) (.cons (h.new hT) .nil))
theorem yl_enumS {z : Zn} {X : AP} {M : AP} {H : Hp} {K : PySem.W.Frag} {a : Addr} {vs : List V} {ds : List D} {j : Int} (h : H a = some (.tup vs)) (n : ¬ M a) (r : IsA z M H vs ds) : Yields z X M H (Ew.IteS K a j) (enumD j ds) := fun M' H' f => by
  have h' := (f.old a _ h n).1
  have r' := f.isA r
  have hl := r'.length
  refine ⟨⟨vs, SqT.of h', by rw [hl, enumD_len]⟩, fun i d hd => ?_⟩
  · obtain ⟨x, hx, rfl⟩ := enumD_get hd
    obtain ⟨v, h1, h2⟩ := r'.get hx
    refine ⟨⟨vs, v, SqT.of h', h1⟩, fun y H2 yy => ?_⟩
    obtain ⟨T, x', rfl, hT, rfl, hx'⟩ := yy
    have e := hx' vs (SqT.of h')
    rw [h1] at e
    cases e
    exact ⟨(Evo.refl _ _).new hT, fun _ fm => pair_is hT (fm T hT) h2⟩
theorem yl_enumL {z : Zn} {X : AP} {M : AP} {H : Hp} {K : PySem.W.Frag} {a : Addr} {vs : List V} {ds : List D} (h : H a = some (.lst vs)) (n : ¬ M a) (r : IsA z M H vs ds) : Yields z X M H (Ite K a) (enumD 0 ds) := fun M' H' f => by
  have h' := (f.old a _ h n).1
  have r' := f.isA r
  have hl := r'.length
  refine ⟨⟨vs, SqL.of h', by rw [hl, enumD_len]; exact Nat.le_refl _⟩, fun i d hd => ?_⟩
  · obtain ⟨x, hx, rfl⟩ := enumD_get hd
    obtain ⟨v, h1, h2⟩ := r'.get hx
    refine ⟨⟨vs, v, SqL.of h', h1⟩, fun y H2 yy => ?_⟩
    obtain ⟨T, x', rfl, hT, rfl, hx'⟩ := yy
    have e := hx' vs (SqL.of h')
    rw [h1] at e
    cases e
    rw [show (0 : Int) + (i : Nat) = (i : Nat) from Int.zero_add _]
    exact ⟨(Evo.refl _ _).new hT, fun _ fm => pair_is hT (fm T hT) h2⟩
def enK (d s : D) (k : List D → Prop) : Prop := match d, s with
  | .tup xs, .int j => (-100000 < j ∧ j < 100000) ∧ k (enumD j xs)
  | _, _ => False
def iEnumS (p q : PX) : PIt := fun env k => p env fun d => q env fun s => enK d s k
theorem i_enumS {b : Expr} {nm : Option Str} {kpos tpos : Pos} {elts : List Expr} {kk : Nat} (h : E .e C e p) (g : E m C b q) (hg : Gl C "enumerate") (hm : C.mg "enumerate" = none)
    (he : backTo pos (starEach [e] C.env) = (false, eval e C.env) :: backTo pos (starEach [] C.env) := by rfl) (hpl : (backTo pos (starEach [e] C.env)).any (·.1) = false := by rfl)
    (hall : (backToKw pos (keywordEach [⟨nm, b, kpos⟩] C.env)).all (·.1.isSome) = true := by rfl) (hnone : (backToKw pos (keywordEach [⟨nm, b, kpos⟩] C.env)).any (·.1.isNone) = false := by rfl) (hks : (backToKw pos (keywordEach [⟨nm, b, kpos⟩] C.env)).filterMap (·.1) = [Str.ofString "start"] := by rfl)
    (hs : starEach [e] C.env = (false, eval e C.env) :: starEach [] C.env := by rfl) :
    I C (.Tuple elts kk tpos) (.Call (.Name "enumerate" pp) [e] [⟨nm, b, kpos⟩] pos) (iEnumS p q) := by
  obtain ⟨t, h1, h2⟩ := h
  obtain ⟨u, g1, g2⟩ := g.toB
  refine ⟨_, Ew.pi_enumS hg hm (pa_cons h1 pa_nil hs) (pk_cons g1 pk_nil) he hpl hall hnone hks, fun z X H0 H σ env R k o c hp => h2 z X H0 H σ env _ _ o (fun d v H1 e1 r1 hx => ?_) hp⟩
  refine g2 z X H0 H1 σ env _ _ (o.go e1) (fun s w H2 e2 r2 hx => ?_) hx
  have r1' : Is z (Ms z X σ env) H2 v d := Is.evo (fun _ q => .inl q) e2 r1
  cases r1' with
  | tup e' n r =>
    cases s with
    | int j =>
      cases Is.intI r2
      obtain ⟨⟨j0, j1⟩, hk⟩ := hx
      exact ⟨_, j, _, rfl, rfl, SqT.of e', by omega, by omega, c _ _ H2 (e1.trans e2) (yl_enumS e' n r) hk⟩
    | _ => exact (show False from hx).elim
  | _ => exact (show False from hx).elim
/-- reversed(range(n)) -/
def revD (n : Nat) : List D := (List.range n).map fun i => .int ((n : Int) - 1 - (i : Nat))
theorem revD_get {n i : Nat} {d : D} (h : (revD n)[i]? = some d) : d = .int ((n : Int) - 1 - (i : Nat)) ∧ i < n := by
  have hl := (List.getElem?_eq_some_iff.mp h).1
  have hi : i < n := by simpa [revD] using hl
  refine ⟨?_, hi⟩
  unfold revD at h
  rw [List.getElem?_map, List.getElem?_range hi] at h
  simpa using h.symm
theorem yl_rev {z : Zn} {X : AP} {M : AP} {H : Hp} {n : Nat} : Yields z X M H (Itc (0 + ((n : Nat) : Int) - 1) (-1) n) (revD n) := fun M' H' f => by
  refine ⟨(by show n ≤ (revD n).length; simp [revD]), fun i d hd => ?_⟩
  obtain ⟨rfl, hi⟩ := revD_get hd
  refine ⟨hi, fun x H2 y => ?_⟩
  obtain ⟨rfl, rfl⟩ := y
  refine ⟨Evo.refl _ _, fun _ _ => ?_⟩
  rw [show (0 : Int) + ((n : Nat) : Int) - 1 + ((i : Nat) : Int) * (-1) = (n : Int) - 1 - (i : Nat) by omega]
  exact Is.int _
def rvK (d : D) (k : List D → Prop) : Prop := match d with
  | .int j => (-100000 < j ∧ j < 100000) ∧ k (revD j.toNat)
  | _ => False
def iRev1 (p : PX) : PIt := fun env k => p env fun d => rvK d k
theorem i_rev1 {a : Expr} {p2 pos2 : Pos} (h : E m C a p) (hg : Gl C "reversed") (hm : C.mg "reversed" = none) (hg' : Gl C "range") (hm' : C.mg "range" = none) (na : starEach [a] C.env = (false, eval a C.env) :: starEach [] C.env := by rfl)
    (nb : starEach [.Call (.Name "range" p2) [a] [] pos2] C.env = (false, eval (.Call (.Name "range" p2) [a] [] pos2) C.env) :: starEach [] C.env := by rfl) : I C tg (.Call (.Name "reversed" pp) [.Call (.Name "range" p2) [a] [] pos2] [] pos) (iRev1 p) := by
  obtain ⟨t, h1, h2⟩ := h.toB
  refine ⟨_, pi_revR hg hm (prg_1 hg' hm' h1 na) nb, fun z X H0 H σ env R k o c hp => h2 z X H0 H σ env _ _ o (fun d v H1 e1 r1 hx => ?_) hp⟩
  cases d with
  | int j =>
    cases Is.intI r1
    obtain ⟨hj, hk⟩ := hx
    refine ⟨j, rfl, by omega, by omega, by omega, by omega, c _ _ H1 e1 ?_ hk⟩
    rw [show j - 0 = j by omega]
    exact yl_rev
  | _ => exact (show False from hx).elim
/-- sorted(xs), whole numbers -/
def gSorted : List D → (D → Prop) → Prop := fun ds k => ∃ xs ns, ds = [.lst xs] ∧ intsD xs = some ns ∧ ∀ ms : List Int, ms.Perm ns → ms.Pairwise (· ≤ ·) → k (.lst (ms.map D.int))
theorem cd_sorted {l : Bool} {K : PySem.W.Frag} : CallD l .f (rSortedI K) gSorted := fun z X H0 H σ env vs ds Q k o h c hp => by
  obtain ⟨xs, ns, rfl, hi, hk⟩ := hp
  obtain ⟨a, rfl, ha⟩ := one_ints h hi
  exact ⟨a, ns, rfl, SqL.of ha, fun ms q h1 h2 hq => c _ _ _ ((Evo.refl _ _).new hq) (Rel.newL hq hq (IsA.ofInts ms)) (hk ms h1 h2)⟩
/-- x += e, whole numbers -/
def sAug (i : Nat) (p : PX) : PSt := fun env k => match env[i]? with
  | some (.val (.int a)) => p env fun d => inK d fun b => k.nx (env.set i (.val (.int (a + b))))
  | _ => False
theorem s_aug {i : Nat} {x : Str} {p2 : Pos} (h : E m C e p) (hN : C.N.Nodup) (hi : C.N[i]? = some x) (hx : Loc C.env.scope x) (hf : C.fn x = true ∨ C.env.scope.names.lookup x = some .local := by first | exact .inl rfl | exact .inr rfl | assumption) :
    S fr C (.AugAssign (.Name x p2) .Add e pos) (sAug i p) := by
  obtain ⟨t, h1, h2⟩ := h.toB
  refine ⟨_, ps_aug hN hi hx h1 ip_add hf, fun z X H0 H σ env G k o s hp => ?_⟩
  unfold sAug at hp
  split at hp
  · rename_i a he
    obtain ⟨v, v1, v2⟩ := o.val i _ he
    cases v2
    refine ⟨_, v1, h2 z X H0 H σ env _ _ o (fun d w H1 e1 r1 hx => ?_) hp⟩
    cases d with
    | int b =>
      cases Is.intI r1
      obtain ⟨o2, f2⟩ := (o.go e1).set (i := i) (v := .int (a + b)) (d := .int (a + b)) (.int _)
      exact ⟨a, b, rfl, rfl, s.nx _ _ H1 o2 ((o.fr e1).trans f2) hx⟩
    | _ => exact (show False from hx).elim
  · exact hp.elim
end
end Pu

namespace Ew
open PySem PySem.Spec PyProof.Rows L2
variable [Tbs]
set_option maxHeartbeats 1000000 in
/-- enumerate(v) with no start, of anything that begins so -/
theorem meets_en0 {vv : Value} {ob : Obj} {HH : Heap → Prop} (Bg : Begins vv ob HH) :
    Meets (Builtin.«enumerate.__new__» ⟨[.type "enumerate", vv], []⟩) (fun _ R s => HH s.heap ∧
      R (.ok (.ret (.ref (s.heap.push ob).objs.size))) { s with heap := (s.heap.push ob).push { cls := .type "enumerate", data := .fields #[.none, .bool false, .ref s.heap.objs.size, rawInt 0, .none, .none] } }) :=
  .of_wp fun prg wld Ar Rr st hh => by
    obtain ⟨hp0, g0, d0, tk0, os0⟩ := st; obtain ⟨hh1, hh⟩ := hh
    have hsb := sub_enumerate
    have qq : ∀ {A' : Around} {E : Value → Shared → Prop} {Q : Value → Shared → Prop}, Q (.ref hp0.objs.size) ⟨hp0.push ob, g0, d0, tk0, os0⟩ → wpAny (model prg wld) A' (pyIter vv) Q E ⟨hp0, g0, d0, tk0, os0⟩ :=
      fun q => Bg.iter prg wld _ _ ⟨hp0, g0, d0, tk0, os0⟩ _ hh1 q
    wp_walk using qq
    refine wpAny_stack_any fun st => wpAny_pure ?_
    split
    · rename_i cc _ _ _ _ _
      cases (cc == Value.type "enumerate") <;> (wp_walk using qq; exact ⟨_, rfl, hh⟩)
    · wp_walk using qq
      exact ⟨_, rfl, hh⟩
section
variable {prog : Program} {w : World} {A : Around} {E : Value → Shared → Prop} {s : Shared}
theorem en0_begins {vv : Value} {ob : Obj} {HH : Heap → Prop} {Q : Value → Shared → Prop} (Bg : Begins vv ob HH) (hh1 : HH s.heap)
    (hh : ∀ h', IsEnum h' (s.heap.objs.size + 1) s.heap.objs.size 0 .none → h'.get? s.heap.objs.size = some ob → (∀ b o, s.heap.get? b = some o → h'.get? b = some o) → Q (.ref (s.heap.objs.size + 1)) { s with heap := h' }) :
    wpAny (model prog w) A (call (.type "enumerate") [vv]) Q E s := by
  refine callType_new F.called_enumerate (by decide) (F.typeCall_enumerate_1 _) (F.newCall_enumerate_1 _) (fun obj => F.args_object_init_2 obj _) F.entry_enumerate_new (meets_en0 Bg) ⟨hh1, ?_⟩
  have hsz : (s.heap.push ob).objs.size = s.heap.objs.size + 1 := Heap.size_push ..
  show _ ∧ _
  rw [hsz]
  have hen : IsEnum ((s.heap.push ob).push { cls := .type "enumerate", data := .fields #[.none, .bool false, .ref s.heap.objs.size, rawInt 0, .none, .none] }) (s.heap.objs.size + 1) s.heap.objs.size 0 .none := by
    have th := Heap.get?_push_size (s.heap.push ob) (o := { cls := .type "enumerate", data := .fields #[.none, .bool false, .ref s.heap.objs.size, rawInt 0, .none, .none] }) rfl
    rw [hsz] at th; exact th
  exact ⟨⟨_, hen, rfl⟩, hh _ hen (Heap.get?_push_of_some _ (Heap.get?_push_size _ Bg.free)) fun b o x => Heap.get?_push_of_some _ (Heap.get?_push_of_some _ x)⟩
end
/-- enumerate(x), a list or a tuple -/
def iEn0 (K : PySem.W.Frag) (ta : TA) : TI := fun σ H R => ta σ H fun vs H1 => ∃ (t : Addr) (xs : List V), vs = [.ref t] ∧ ((SqL K H1 t xs ∧ R (Ite K t) H1) ∨ (SqT K H1 t xs ∧ R (IteS K t 0) H1))
theorem pi_en0 {X : Cx} {e : Expr} {ta : TA} {p pos tpos : Pos} {elts : List Expr} {kk : Nat} (hg : Gl X "enumerate") (hm : X.mg "enumerate" = none) (ha : PA X [e] ta) (hs : starEach [e] X.env = [(false, eval e X.env)] := by rfl) :
    PI X (.Tuple elts kk tpos) (.Call (.Name "enumerate" p) [e] [] pos) (iEn0 X.K ta) := by
  refine ⟨fun pins s σ H R I h => ?_⟩
  refine Call_ (ld_blt I hg hm boot_enumerate (PyProof.Rows.callWith_type1 (thn (ha.run pos pins s σ H _ I h) fun us s1 ⟨vs, H1, I1, r1, q1⟩ => ?_) hs rfl))
  obtain ⟨t, xs, ex, q1⟩ := q1
  subst ex
  cases r1 with
  | cons r rr =>
    cases rr
    cases r
    have fp2 : ∀ b, b ∈ [s1.heap.objs.size + 1, s1.heap.objs.size] → FpOk X pins H1 b := fun b hb => by
      have hle : s1.heap.objs.size ≤ b := by
        rcases List.mem_cons.mp hb with z | z
        · rw [z]; exact Nat.le_add_right _ _
        · rw [List.mem_singleton.mp z]; exact Nat.le_refl _
      exact I1.fpOk hle (I1.hok.fresh hle)
    rcases q1 with ⟨hq, q⟩ | ⟨hq, q⟩
    · obtain ⟨its, rv, pl, hz⟩ := I1.list hq
      refine call_enumerate_list pl.isList fun h' hen hit hsz hk => wpAny_pyIter_enum hen ?_
      exact ⟨s1.heap.objs.size + 1, [s1.heap.objs.size + 1, s1.heap.objs.size], _, _, H1, rfl, I1.kept (t' := s1.toks) hk, turn_enum t (s1.heap.objs.size + 1) s1.heap.objs.size, ⟨⟨.none, hen⟩, hit, Nat.succ_ne_self _⟩, fp2, q⟩
    · obtain ⟨its, rv, pl, hz⟩ := I1.tuple hq
      refine en0_begins (begins_tuple t its.toArray) pl fun h' hen hit hk => wpAny_pyIter_enum hen ?_
      have htl : t < s1.heap.objs.size := by obtain ⟨_, qq, _⟩ := pl; exact Heap.lt_size qq
      refine ⟨s1.heap.objs.size + 1, [s1.heap.objs.size + 1, s1.heap.objs.size], _, _, H1, rfl, I1.kept (t' := s1.toks) hk, turn_enumS t (s1.heap.objs.size + 1) s1.heap.objs.size 0 (Nat.ne_of_lt htl) (Nat.ne_of_gt (Nat.lt_succ_of_lt htl)), ⟨⟨.none, ?_⟩, ⟨_, hit, rfl, rfl⟩, Nat.succ_ne_self _⟩, fp2, q⟩
      show IsEnum h' _ _ (0 + ((0 : Nat) : Int)) .none
      rw [show (0 : Int) + ((0 : Nat) : Int) = 0 by omega]
      exact hen
end Ew
namespace Pu
open PySem PySem.Spec PyProof.Rows L2
variable [Tbs]
section
variable {C : Cx} {e tg : Expr} {p q : PX} {m : Mode} {fr : Bool} {pos pp : Pos}
def en0K (d : D) (k : List D → Prop) : Prop := match d with
  | .tup xs => k (enumD 0 xs)
  | .lst xs => k (enumD 0 xs)
  | _ => False
def iEnum0 (p : PX) : PIt := fun env k => p env fun d => en0K d k
theorem i_enum0 {tpos : Pos} {elts : List Expr} {kk : Nat} (h : E .e C e p) (hg : Gl C "enumerate") (hm : C.mg "enumerate" = none) (hs : starEach [e] C.env = [(false, eval e C.env)] := by rfl) (hs2 : starEach [e] C.env = (false, eval e C.env) :: starEach [] C.env := by rfl) :
    I C (.Tuple elts kk tpos) (.Call (.Name "enumerate" pp) [e] [] pos) (iEnum0 p) := by
  obtain ⟨t, h1, h2⟩ := h
  refine ⟨_, Ew.pi_en0 hg hm (pa_cons h1 pa_nil hs2) hs, fun z X H0 H σ env R k o c hp => h2 z X H0 H σ env _ _ o (fun d v H1 e1 r1 hx => ?_) hp⟩
  cases (show Is z _ H1 v d from r1) with
  | lst e n r => exact ⟨_, _, rfl, .inl ⟨SqL.of e, c _ _ H1 e1 (yl_enumL e n r) hx⟩⟩
  | tup e n r => exact ⟨_, _, rfl, .inr ⟨SqT.of e, c _ _ H1 e1 (yl_enumS e n r) hx⟩⟩
  | _ => exact (show False from hx).elim
/-- x.insert(i, e) -/
def sInsert (i : Nat) (pi pe : PX) : PSt := fun env k => match env[i]? with
  | some (.own (.lst xs)) => pi env fun d => pe env fun y => inK d fun n => (0 ≤ n ∧ n < 100000 ∧ xs.length ≤ 100000) ∧ k.nx (env.set i (.own (.lst (xs.take n.toNat ++ [y] ++ xs.drop n.toNat))))
  | _ => False
def rInsert : V → List V → Hp → VK → Prop := fun x vs H Q => ∃ (l : Addr) (xs : List V) (i : Int) (y : V), x = .ref l ∧ vs = [.int i, y] ∧ H l = some (.lst xs) ∧ xs.length < sizeLine ∧ 0 ≤ i ∧ i < 2 ^ 63 ∧ Q .non (upd H l (.lst (xs.take i.toNat ++ [y] ++ xs.drop i.toNat)))
theorem s_insert (i : Nat) {x : Str} {ix : Expr} {apos cpos : Pos} (hi : E m C ix p) (h : E .e C e q) (hN : C.N[i]? = some x := by rfl) (hv : Vis C.env.scope x := by first | exact Or.inl rfl | exact Or.inr (Or.inl rfl) | exact Or.inr (Or.inr rfl)) (hd : (x == ("__debug__" : Str)) = false := by decide)
    (hcd : (x == ("__classdict__" : Str)) = false := by decide)
    (hb : ∀ to t1 t2, PE C (.Name x pp) to → PE C ix t1 → PE C e t2 → PE C (.Call (.Attribute (.Name x pp) "insert" apos) [ix, e] [] cpos) (tBM C.K "list" rInsert to (tCons t1 (tCons t2 tNil))))
    (hs : swapsWith (.Call (.Attribute (.Name x pp) "insert" apos) [ix, e] [] cpos) none pos.line C.env = pure false := by rfl) :
    S fr C (.Expr (.Call (.Attribute (.Name x pp) "insert" apos) [ix, e] [] cpos) pos) (sInsert i p q) := by
  obtain ⟨t1, a1, a2⟩ := hi.toB
  obtain ⟨t2, b1, b2⟩ := h
  refine ⟨_, ps_expr (hb _ _ _ (pe_var hN hv hd hcd) a1 b1) hs, fun z X H0 H σ env G k o s hp => ?_⟩
  unfold sInsert at hp
  split at hp
  · rename_i xs he
    obtain ⟨a, q1, ⟨vs, q5, q6⟩, q3, q4⟩ := o.own i _ he
    refine ⟨_, q1, .inl ⟨rfl, vs, SqL.of q5⟩, a2 z X H0 H σ env _ _ o (fun d v H1 e1 r1 hx => ?_) hp⟩
    refine b2 z X H0 H1 σ env _ _ (o.go e1) (fun y w H2 e2 r2 hx => ?_) hx
    cases d with
    | int n =>
      cases Is.intI r1
      obtain ⟨⟨n0, n1, n2⟩, hk⟩ := hx
      have o2 := (o.go e1).go e2
      have e12 := e1.trans e2
      have q6' := IsA.evo (fun _ q => .inl q) e12 q6
      refine ⟨a, vs, n, w, rfl, rfl, e12.old a _ q5 q3, by rw [q6.length]; exact szl n2, n0, by omega, ?_⟩
      obtain ⟨o3, f3⟩ := mutL o2 he q1 q3 (((q6'.take n.toNat).append (.cons r2 .nil)).append (q6'.drop n.toNat))
      exact s.nx _ _ _ o3 ((o.fr e12).trans f3) hk
    | _ => exact (show False from hx).elim
  · exact hp.elim
end
end Pu

namespace Pu
open PySem PySem.Spec PyProof.Rows L2
variable [Tbs]
/-! min of a list of tuples of whole numbers -/
theorem lex_tr : ∀ {a b c : List Int}, HT.lexLt b a = false → HT.lexLt c b = false → HT.lexLt c a = false
  | [], [], c, _, h => h
  | [], _ :: _, [], _, _ => rfl
  | [], _ :: _, _ :: _, _, _ => rfl
  | _ :: _, [], _, h, _ => by cases h
  | x :: a, y :: b, [], _, h => by cases h
  | x :: a, y :: b, w :: c, h1, h2 => by
    rw [HT.lexLt_cons] at h1 h2 ⊢
    by_cases e1 : y = x
    · subst e1
      rw [if_pos rfl] at h1
      by_cases e2 : w = y
      · subst e2
        rw [if_pos rfl] at h2 ⊢
        exact lex_tr h1 h2
      · rw [if_neg e2] at h2 ⊢
        exact h2
    · rw [if_neg e1] at h1
      have q1 := of_decide_eq_false h1
      by_cases e2 : w = y
      · subst e2
        rw [if_neg e1]
        exact h1
      · rw [if_neg e2] at h2
        have q2 := of_decide_eq_false h2
        rw [if_neg (by omega)]
        exact decide_eq_false (by omega)
theorem lex_irr : ∀ a : List Int, HT.lexLt a a = false
  | [] => rfl
  | x :: a => by rw [HT.lexLt_cons, if_pos rfl]; exact lex_irr a
theorem lex_as : ∀ {a b : List Int}, HT.lexLt a b = true → HT.lexLt b a = false
  | [], [], _ => rfl
  | [], _ :: _, _ => rfl
  | _ :: _, [], h => by cases h
  | x :: a, y :: b, h => by
    rw [HT.lexLt_cons] at h ⊢
    by_cases e : x = y
    · subst e
      rw [if_pos rfl] at h ⊢
      exact lex_as h
    · rw [if_neg e] at h
      have := of_decide_eq_true h
      rw [if_neg (Ne.symm e)]
      exact decide_eq_false (by omega)
theorem argBest_lex (num : Nat → List Int) : ∀ k, argBest (fun i j => HT.lexLt (num i) (num j)) k ≤ k ∧ ∀ j, j ≤ k → HT.lexLt (num j) (num (argBest (fun i j => HT.lexLt (num i) (num j)) k)) = false
  | 0 => ⟨Nat.le_refl _, fun j hj => by
    have : j = 0 := by omega
    subst this
    exact lex_irr _⟩
  | k + 1 => by
    obtain ⟨h1, h2⟩ := argBest_lex num k
    simp only [argBest]
    by_cases hc : HT.lexLt (num (k + 1)) (num (argBest (fun i j => HT.lexLt (num i) (num j)) k)) = true
    · rw [if_pos hc]
      refine ⟨Nat.le_refl _, fun j hj => ?_⟩
      rcases Nat.lt_or_ge j (k + 1) with hlt | hge
      · exact lex_tr (lex_as hc) (h2 j (by omega))
      · have : j = k + 1 := by omega
        subst this
        exact lex_irr _
    · rw [if_neg hc]
      refine ⟨by omega, fun j hj => ?_⟩
      rcases Nat.lt_or_ge j (k + 1) with hlt | hge
      · exact h2 j (by omega)
      · have : j = k + 1 := by omega
        subst this
        exact Bool.not_eq_true _ ▸ hc
def TupsAt (K : PySem.W.Frag) (H : Hp) (xs : List V) (rs : List (List Int)) : Prop := xs.length = rs.length ∧ ∀ (i : Nat) (v : V) (r : List Int), xs[i]? = some v → rs[i]? = some r → ∃ p, v = V.ref p ∧ SqT K H p (r.map V.int)
def rMinTup (K : PySem.W.Frag) : List V → Hp → VK → Prop := fun vs H Q => ∃ (a : Addr) (xs : List V) (rs : List (List Int)), vs = [.ref a] ∧ SqL K H a xs ∧ TupsAt K H xs rs ∧ rs ≠ [] ∧ ∀ (i : Nat) (v : V) (m : List Int), xs[i]? = some v → rs[i]? = some m → (∀ r ∈ rs, HT.lexLt r m = false) → Q v H
theorem vals_at : ∀ {xs : List V} {us : List Value} {i : Nat} {u : Value}, Vals xs us → us[i]? = some u → ∃ v, xs[i]? = some v ∧ RelV v u
  | _, _, _, _, .nil, h => by cases h
  | _, _, 0, _, .cons r _, h => by cases h; exact ⟨_, rfl, r⟩
  | _, _, i + 1, _, .cons _ t, h => vals_at (i := i) t (by simpa using h)
theorem cr_minTup {X : Cx} (hc : X.calm = true) (hu : X.A.units + 64 < cLine) : CallR X (.builtin "min") (rMinTup X.K) := by
  intro pins s σ H vs us Q I r h
  obtain ⟨a, xs, rs, rfl, hs, ⟨hlen, ht⟩, hne, q⟩ := h
  obtain ⟨its, rv, hl, _⟩ := I.list hs
  rw [Vals.ref1 r]
  have hl1 := rv.length
  have hpos : 0 < rs.length := List.length_pos_iff.mpr hne
  refine call_min_walkH (PySem.W.iter_listW (A := X.A.in1) (I.ok.hd hc) hl.isList fun s₂ e W st hfp hw hk => ?_)
  refine ⟨_, _, _, _, _, _, _, s.heap, (fun i j => HT.lexLt (rs.getD i []) (rs.getD j [])), rfl, W, st, hfp, by rw [List.size_toArray]; omega, hw, hk, ?_, fun v s' hP m => ?_⟩
  · intro i j vi vj s' Q' E' hk' hi hj hq
    have at1 : ∀ i vi, its.toArray[i]? = some vi → ∃ p its', vi = .ref p ∧ IsTup s'.heap p its'.toArray ∧ IntsAre its' (rs.getD i []) := fun i vi hi => by
      obtain ⟨v, hv, rl⟩ := vals_at (i := i) (u := vi) rv (by simpa using hi)
      have hil : i < rs.length := by
        rw [← hlen]
        exact (List.getElem?_eq_some_iff.mp hv).1
      obtain ⟨p, rfl, hT⟩ := ht i v _ hv (List.getElem?_eq_getElem hil)
      cases rl
      obtain ⟨its', r1, p1, _⟩ := I.tuple hT
      refine ⟨p, its', rfl, ?_, ?_⟩
      · obtain ⟨o, ho, rest⟩ := p1
        exact ⟨o, hk' _ _ ho, rest⟩
      · rw [List.getD_eq_getElem?_getD, List.getElem?_eq_getElem hil]
        exact Vals.ints r1
    obtain ⟨p, i1, rfl, t1, n1⟩ := at1 i vi hi
    obtain ⟨p', i2, rfl, t2, n2⟩ := at1 j vj hj
    exact HT.lt_tupInts t1 t2 n1 n2 (by show X.A.units + 1 < cLine; omega) hq
  · obtain ⟨h', tk, rfl, hk'⟩ := PySem.W.moved_old e rfl m
    obtain ⟨b1, b2⟩ := argBest_lex (fun i => rs.getD i []) (its.toArray.size - 1)
    have hP' : its[argBest (fun i j => HT.lexLt (rs.getD i []) (rs.getD j [])) (its.toArray.size - 1)]? = some v := by simpa using hP
    obtain ⟨u, hu1, rl⟩ := vals_at rv hP'
    rw [List.size_toArray] at b1 b2 hP' hu1
    generalize argBest (fun i j => HT.lexLt (rs.getD i []) (rs.getD j [])) (its.length - 1) = bi at *
    have hil : bi < rs.length := by omega
    refine ⟨u, H, I.kept hk', rl, q bi u _ hu1 (List.getElem?_eq_getElem hil) fun r hr => ?_⟩
    obtain ⟨j, hj, rfl⟩ := List.getElem_of_mem hr
    have := b2 j (by omega)
    rw [List.getD_eq_getElem?_getD, List.getD_eq_getElem?_getD, List.getElem?_eq_getElem hj, List.getElem?_eq_getElem hil] at this
    exact this
def tI (r : List Int) : D := .tup (r.map D.int)
def gMinTup : List D → (D → Prop) → Prop := fun ds k => ∃ rs : List (List Int), ds = [.lst (rs.map tI)] ∧ rs ≠ [] ∧ ∀ m ∈ rs, (∀ r ∈ rs, HT.lexLt r m = false) → k (tI m)
theorem isa_ints {z : Zn} {M : AP} {H : Hp} : ∀ {vs : List V} {es : List Int}, IsA z M H vs (es.map D.int) → vs = es.map V.int
  | [], [], _ => rfl
  | v :: vs, e :: es, h => by
    cases h with
    | cons h1 h2 =>
      cases h1
      rw [isa_ints h2]
      rfl
theorem cd_minTup {K : PySem.W.Frag} : CallD true .e (rMinTup K) gMinTup := fun z X H0 H σ env vs ds Q k o h c hp => by
  obtain ⟨rs, rfl, hne, hk⟩ := hp
  obtain ⟨v, rfl, hv⟩ := IsA.one h
  cases (show Is z (Ms z X σ env) H v (.lst (rs.map tI)) from hv) with
  | lst e n r =>
    rename_i a us
    have hl := r.length
    rw [List.length_map] at hl
    refine ⟨a, us, rs, rfl, SqL.of e, ⟨hl, fun i u r' hu hr => ?_⟩, hne, fun i u m hu hm hmin => ?_⟩
    · obtain ⟨u', h1, h2⟩ := r.get (i := i) (d := tI r') (by rw [List.getElem?_map, hr]; rfl)
      rw [hu] at h1
      cases h1
      cases (show Is z (Ms z X σ env) H u (.tup (r'.map D.int)) from h2) with
      | tup e' _ r2 => exact ⟨_, rfl, SqT.of (by rw [e', isa_ints r2])⟩
    · obtain ⟨u', h1, h2⟩ := r.get (i := i) (d := tI m) (by rw [List.getElem?_map, hm]; rfl)
      rw [hu] at h1
      cases h1
      exact c _ _ H (Evo.refl _ _) h2 (hk m (List.mem_of_getElem? hm) hmin)
/-! ### expressions that change what a slot owns -/
abbrev PMX := List SV → (List SV → D → Prop) → Prop
abbrev PMA := List SV → (List SV → List D → Prop) → Prop
def RMX (t : TE) (p : PMX) : Prop := ∀ (z : Zn) (X : AP) (H0 H : Hp) (σ : Sl) (env : List SV) (Q : VK) (k : List SV → D → Prop), Ok z X H0 H σ env → (∀ d v H' env', Ok z X H0 H' σ env' → Fr z X (Ms z X σ env) H (Ms z X σ env') H' → Is z (Ms z X σ env') H' v d → k env' d → Q v H') → p env k → t σ H Q
def RMA (t : TA) (p : PMA) : Prop := ∀ (z : Zn) (X : AP) (H0 H : Hp) (σ : Sl) (env : List SV) (Q : List V → Hp → Prop) (k : List SV → List D → Prop), Ok z X H0 H σ env → (∀ ds vs H' env', Ok z X H0 H' σ env' → Fr z X (Ms z X σ env) H (Ms z X σ env') H' → IsA z (Ms z X σ env') H' vs ds → k env' ds → Q vs H') → p env k → t σ H Q
structure MX (C : Cx) (e : Expr) (p : PMX) : Prop where
  ex : ∃ t, PE C e t ∧ RMX t p
structure MA (C : Cx) (es : List Expr) (p : PMA) : Prop where
  ex : ∃ t, PA C es t ∧ RMA t p
section
variable {C : Cx} {fr : Bool} {m : Mode} {e : Expr} {es : List Expr} {p : PX} {pos pp : Pos}
def mE (p : PX) : PMX := fun env k => p env fun d => k env d
def mNil : PMA := fun env k => k env []
def mCons (p : PMX) (q : PMA) : PMA := fun env k => p env fun env1 d => q env1 fun env2 ds => k env2 (d :: ds)
def mLst (q : PMA) : PMX := fun env k => q env fun env1 ds => ds.length ≤ 100000 ∧ k env1 (.lst ds)
def mTup (q : PMA) : PMX := fun env k => q env fun env1 ds => ds.length ≤ 100000 ∧ k env1 (.tup ds)
def sSetM (i : Nat) (p : PMX) : PSt := fun env k => p env fun env1 d => k.nx (env1.set i (.val d))
theorem mx_e (h : E .e C e p) : MX C e (mE p) := by
  obtain ⟨t, h1, h2⟩ := h
  exact ⟨t, h1, fun z X H0 H σ env Q k o c hp => h2 z X H0 H σ env _ _ o (fun d v H1 e1 r1 hx => c d v H1 env (o.go e1) (o.fr e1) r1 hx) hp⟩
theorem ma_nil : MA C [] mNil := ⟨_, pa_nil, fun z X H0 H σ env Q k o c hp => c [] [] H env o ⟨fun _ _ h n => ⟨h, n⟩, fun _ h => h, fun _ h => h⟩ .nil hp⟩
theorem ma_cons {q : PMX} {g : PMA} (h : MX C e q) (hs : MA C es g) (hst : starEach (e :: es) C.env = (false, eval e C.env) :: starEach es C.env := by rfl) : MA C (e :: es) (mCons q g) := by
  obtain ⟨t, h1, h2⟩ := h
  obtain ⟨u, g1, g2⟩ := hs
  refine ⟨_, pa_cons h1 g1 hst, fun z X H0 H σ env Q k o c hp => h2 z X H0 H σ env _ _ o (fun d v H1 env1 o1 f1 r1 hx => g2 z X H0 H1 σ env1 _ _ o1 (fun ds vs H2 env2 o2 f2 r2 hy => c _ _ H2 env2 o2 (f1.trans f2) (.cons (f2.is r1) r2) hy) hx) hp⟩
theorem mx_lst {g : PMA} (h : MA C es g) : MX C (.List es pos) (mLst g) := by
  obtain ⟨t, h1, h2⟩ := h
  refine ⟨_, pe_lst h1, fun z X H0 H σ env Q k o c hp => h2 z X H0 H σ env _ _ o (fun ds vs H1 env1 o1 f1 r1 hx => ⟨by rw [r1.length]; exact sz hx.1, fun q hq => ?_⟩) hp⟩
  have ev : Evo z H1 (upd H1 q (.lst vs)) := (Evo.refl _ _).new hq
  exact c _ _ _ env1 (o1.go ev) (f1.trans (o1.fr ev)) (Is.lst upd_same (fun hz => o1.notMs hq hz) (IsA.new hq r1)) hx.2
theorem mx_tup {x1 : Nat} {g : PMA} (h : MA C es g) : MX C (.Tuple es x1 pos) (mTup g) := by
  obtain ⟨t, h1, h2⟩ := h
  refine ⟨_, pe_tup h1, fun z X H0 H σ env Q k o c hp => h2 z X H0 H σ env _ _ o (fun ds vs H1 env1 o1 f1 r1 hx => ⟨by rw [r1.length]; exact sz hx.1, fun q hq => ?_⟩) hp⟩
  have ev : Evo z H1 (upd H1 q (.tup vs)) := (Evo.refl _ _).new hq
  exact c _ _ _ env1 (o1.go ev) (f1.trans (o1.fr ev)) (Is.tup upd_same (fun hz => o1.notMs hq hz) (IsA.new hq r1)) hx.2
theorem s_setM {i : Nat} {x : Str} {pp : Pos} {q : PMX} (h : MX C e q) (hN : C.N.Nodup) (hi : C.N[i]? = some x) (hx : Loc C.env.scope x) (hs : swapsWith e (some (.Name x pp)) pos.line C.env = pure false := by rfl) (hf : C.fn x = true ∨ C.env.scope.names.lookup x = some .local := by first | exact .inl rfl | exact .inr rfl | assumption) :
    S fr C (.Assign [.Name x pp] e pos) (sSetM i q) := by
  obtain ⟨t, h1, h2⟩ := h
  refine ⟨_, ps_set hN hi hx h1 hs hf, fun z X H0 H σ env G k o s hp => h2 z X H0 H σ env _ _ o (fun d v H1 env1 o1 f1 r1 hx => ?_) hp⟩
  obtain ⟨o2, f2⟩ := o1.set (i := i) r1
  exact s.nx _ _ H1 o2 (f1.trans f2) hx
/-- x.pop(e), x.pop() -/
def mPop (i : Nat) (p : PX) : PMX := fun env k => match env[i]? with
  | some (.own (.lst xs)) => p env fun d => inK d fun n => (-100000 < n ∧ n < 100000) ∧ ∃ jj y, seqIndex? n xs.length = some jj ∧ xs[jj]? = some y ∧ k (env.set i (.own (.lst (xs.eraseIdx jj)))) y
  | _ => False
def mPop0 (i : Nat) : PMX := fun env k => match env[i]? with
  | some (.own (.lst xs)) => ∃ y, xs[xs.length - 1]? = some y ∧ k (env.set i (.own (.lst xs.dropLast))) y
  | _ => False
theorem mx_pop (i : Nat) {x : Str} {apos cpos : Pos} (h : E m C e p)
    (hb : ∀ to te, PE C (.Name x pp) to → PE C e te → PE C (.Call (.Attribute (.Name x pp) "pop" apos) [e] [] cpos) (tBM C.K "list" rPopAt to (tCons te tNil)))
    (hN : C.N[i]? = some x := by rfl) (hv : Vis C.env.scope x := by first | exact Or.inl rfl | exact Or.inr (Or.inl rfl) | exact Or.inr (Or.inr rfl)) (hd : (x == ("__debug__" : Str)) = false := by decide)
    (hcd : (x == ("__classdict__" : Str)) = false := by decide) : MX C (.Call (.Attribute (.Name x pp) "pop" apos) [e] [] cpos) (mPop i p) := by
  obtain ⟨t, h1, h2⟩ := h.toB
  refine ⟨_, hb _ _ (pe_var hN hv hd hcd) h1, fun z X H0 H σ env Q k o c hp => ?_⟩
  unfold mPop at hp
  split at hp
  · rename_i xs he
    obtain ⟨a, q1, ⟨vs, q5, q6⟩, q3, q4⟩ := o.own i _ he
    refine ⟨_, q1, .inl ⟨rfl, vs, SqL.of q5⟩, h2 z X H0 H σ env _ _ o (fun d v H1 e1 r1 hx => ?_) hp⟩
    cases d with
    | int n =>
      cases Is.intI r1
      obtain ⟨hn, jj, yy, g1, g2, hk⟩ := hx
      have o1 := o.go e1
      have q5' := e1.old a _ q5 q3
      have q6' := IsA.evo (fun _ q => .inl q) e1 q6
      obtain ⟨w, w1, w2⟩ := q6'.get g2
      refine ⟨a, vs, n, jj, w, rfl, rfl, q5', by omega, by omega, by rw [q6.length]; exact g1, w1, ?_⟩
      obtain ⟨o2, f2⟩ := mutL o1 he q1 q3 (q6'.eraseIdx jj)
      exact c _ _ _ _ o2 ((o.fr e1).trans f2) (f2.is w2) hk
    | _ => exact (show False from hx).elim
  · exact hp.elim
theorem mx_pop0 (i : Nat) {x : Str} {apos cpos : Pos}
    (hb : ∀ to, PE C (.Name x pp) to → PE C (.Call (.Attribute (.Name x pp) "pop" apos) [] [] cpos) (tBM0 C.K "list" rPop to))
    (hN : C.N[i]? = some x := by rfl) (hv : Vis C.env.scope x := by first | exact Or.inl rfl | exact Or.inr (Or.inl rfl) | exact Or.inr (Or.inr rfl)) (hd : (x == ("__debug__" : Str)) = false := by decide)
    (hcd : (x == ("__classdict__" : Str)) = false := by decide) : MX C (.Call (.Attribute (.Name x pp) "pop" apos) [] [] cpos) (mPop0 i) := by
  refine ⟨_, hb _ (pe_var hN hv hd hcd), fun z X H0 H σ env Q k o c hp => ?_⟩
  unfold mPop0 at hp
  split at hp
  · rename_i xs he
    obtain ⟨a, q1, ⟨vs, q5, q6⟩, q3, q4⟩ := o.own i _ he
    refine ⟨_, q1, .inl ⟨rfl, vs, SqL.of q5⟩, ?_⟩
    obtain ⟨yy, g2, hk⟩ := hp
    obtain ⟨w, w1, w2⟩ := q6.get g2
    have hl := q6.length
    refine ⟨a, vs, w, rfl, rfl, q5, by rw [hl]; exact w1, ?_⟩
    have hdl : IsA z (Ms z X σ env) H vs.dropLast xs.dropLast := by
      rw [List.dropLast_eq_take, List.dropLast_eq_take, hl]
      exact q6.take _
    obtain ⟨o2, f2⟩ := mutL o he q1 q3 hdl
    exact c _ _ _ _ o2 f2 (f2.is w2) hk
  · exact hp.elim
theorem sSeq_setM {i : Nat} {p : PMX} {Q : PSt} {env : List SV} {K : PK'} (h : sSetM i p env { K with nx := fun env' => Q env' K }) : sSeq (sSetM i p) Q env K := h
theorem sSetM_i {i : Nat} {p : PMX} {env : List SV} {K : PK'} (h : p env fun env1 d => K.nx (env1.set i (.val d))) : sSetM i p env K := h
theorem mE_i {p : PX} {env : List SV} {k : List SV → D → Prop} (h : p env fun d => k env d) : mE p env k := h
theorem mNil_i {env : List SV} {k : List SV → List D → Prop} (h : k env []) : mNil env k := h
theorem mCons_i {p : PMX} {q : PMA} {env : List SV} {k : List SV → List D → Prop} (h : p env fun env1 d => q env1 fun env2 ds => k env2 (d :: ds)) : mCons p q env k := h
theorem mLst_i {q : PMA} {env : List SV} {k : List SV → D → Prop} (h : q env fun env1 ds => ds.length ≤ 100000 ∧ k env1 (.lst ds)) : mLst q env k := h
theorem mTup_i {q : PMA} {env : List SV} {k : List SV → D → Prop} (h : q env fun env1 ds => ds.length ≤ 100000 ∧ k env1 (.tup ds)) : mTup q env k := h
theorem mPop_i {i : Nat} {p : PX} {env : List SV} {xs : List D} {k : List SV → D → Prop} (e : env[i]? = some (.own (.lst xs))) (h : p env fun d => inK d fun n => (-100000 < n ∧ n < 100000) ∧ ∃ jj y, seqIndex? n xs.length = some jj ∧ xs[jj]? = some y ∧ k (env.set i (.own (.lst (xs.eraseIdx jj)))) y) : mPop i p env k := by unfold mPop; rw [e]; exact h
theorem mPop0_i {i : Nat} {env : List SV} {xs : List D} {k : List SV → D → Prop} (e : env[i]? = some (.own (.lst xs))) (h : ∃ y, xs[xs.length - 1]? = some y ∧ k (env.set i (.own (.lst xs.dropLast))) y) : mPop0 i env k := by unfold mPop0; rw [e]; exact h
end
/-! ### zip of two lists, of two tuples -/
def zipD (xs ys : List D) : List D := (xs.zip ys).map fun p => .tup [p.1, p.2]
def zipK (d e : D) (k : List D → Prop) : Prop := match d, e with
  | .lst xs, .lst ys => k (zipD xs ys)
  | .tup xs, .tup ys => k (zipD xs ys)
  | _, _ => False
def iZipP (p q : PX) : PIt := fun env k => p env fun d => q env fun e => zipK d e k
theorem zipD_get {xs ys : List D} {i : Nat} {d : D} (h : (zipD xs ys)[i]? = some d) : ∃ x y, xs[i]? = some x ∧ ys[i]? = some y ∧ d = .tup [x, y] := by
  unfold zipD at h
  rw [List.getElem?_map] at h
  cases q : (xs.zip ys)[i]? with
  | none => rw [q] at h; cases h
  | some p =>
    rw [q] at h
    cases h
    obtain ⟨h1, h2⟩ := List.getElem?_zip_eq_some.mp q
    exact ⟨p.1, p.2, h1, h2, rfl⟩
theorem zipD_len {xs ys : List D} : (zipD xs ys).length = min xs.length ys.length := by simp [zipD]
theorem pair2_is {z : Zn} {M : AP} {H : Hp} {T : Addr} {x y : V} {d e : D} (hT : H T = none) (hM : ¬ M T) (h : Is z M H x d) (g : Is z M H y e) : Is z M (upd H T (.tup [x, y])) (.ref T) (.tup [d, e]) :=
  .tup upd_same hM (.cons (h.new hT) (.cons (g.new hT) .nil))
theorem yl_zipL {z : Zn} {X : AP} {M : AP} {H : Hp} {K : PySem.W.Frag} {a b : Addr} {vs us : List V} {ds es : List D} (h : H a = some (.lst vs)) (n : ¬ M a) (r : IsA z M H vs ds) (h2 : H b = some (.lst us)) (n2 : ¬ M b) (r2 : IsA z M H us es) : Yields z X M H (Itz K a b) (zipD ds es) := fun M' H' f => by
  have h' := (f.old a _ h n).1
  have r' := f.isA r
  have h2' := (f.old b _ h2 n2).1
  have r2' := f.isA r2
  have hl := r'.length
  have hl2 := r2'.length
  refine ⟨⟨vs, us, SqL.of h', SqL.of h2', by rw [hl, hl2, zipD_len]; omega⟩, fun i d hd => ?_⟩
  obtain ⟨x, y, hx, hy, rfl⟩ := zipD_get hd
  obtain ⟨v, q1, q2⟩ := r'.get hx
  obtain ⟨u, p1, p2⟩ := r2'.get hy
  refine ⟨⟨vs, us, v, u, SqL.of h', SqL.of h2', q1, p1⟩, fun w H2 yy => ?_⟩
  obtain ⟨T, x', y', rfl, hT, rfl, hx', hy'⟩ := yy
  have e := hx' vs (SqL.of h')
  rw [q1] at e
  cases e
  have e := hy' us (SqL.of h2')
  rw [p1] at e
  cases e
  exact ⟨(Evo.refl _ _).new hT, fun _ fm => pair2_is hT (fm T hT) q2 p2⟩
theorem yl_zipT {z : Zn} {X : AP} {M : AP} {H : Hp} {K : PySem.W.Frag} {a b : Addr} {vs us : List V} {ds es : List D} (h : H a = some (.tup vs)) (n : ¬ M a) (r : IsA z M H vs ds) (h2 : H b = some (.tup us)) (n2 : ¬ M b) (r2 : IsA z M H us es) : Yields z X M H (RZ.ItzT K a b) (zipD ds es) := fun M' H' f => by
  have h' := (f.old a _ h n).1
  have r' := f.isA r
  have h2' := (f.old b _ h2 n2).1
  have r2' := f.isA r2
  have hl := r'.length
  have hl2 := r2'.length
  refine ⟨⟨vs, us, SqT.of h', SqT.of h2', by rw [hl, hl2, zipD_len]; omega⟩, fun i d hd => ?_⟩
  obtain ⟨x, y, hx, hy, rfl⟩ := zipD_get hd
  obtain ⟨v, q1, q2⟩ := r'.get hx
  obtain ⟨u, p1, p2⟩ := r2'.get hy
  refine ⟨⟨vs, us, v, u, SqT.of h', SqT.of h2', q1, p1⟩, fun w H2 yy => ?_⟩
  obtain ⟨T, x', y', rfl, hT, rfl, hx', hy'⟩ := yy
  have e := hx' vs (SqT.of h')
  rw [q1] at e
  cases e
  have e := hy' us (SqT.of h2')
  rw [p1] at e
  cases e
  exact ⟨(Evo.refl _ _).new hT, fun _ fm => pair2_is hT (fm T hT) q2 p2⟩
theorem i_zip {C : Cx} {e e2 : Expr} {p q : PX} {tpos pp pos : Pos} {elts : List Expr} {kk : Nat} (h : E .e C e p) (g : E .e C e2 q) (hg : Gl C "zip") (hm : C.mg "zip" = none) (hs : starEach [e, e2] C.env = (false, eval e C.env) :: starEach [e2] C.env := by rfl) (hs2 : starEach [e2] C.env = (false, eval e2 C.env) :: starEach [] C.env := by rfl)
    (hpl : (backTo pos (starEach [e2] C.env)).any (·.1) = false := by rfl) : I C (.Tuple elts kk tpos) (.Call (.Name "zip" pp) [e, e2] [] pos) (iZipP p q) := by
  obtain ⟨t, h1, h2⟩ := h
  obtain ⟨u, g1, g2⟩ := g
  refine ⟨_, RZ.pi_zipA hg hm (pa_cons h1 (pa_cons g1 pa_nil hs2) hs) hs hpl, fun z X H0 H σ env R k o c hp => h2 z X H0 H σ env _ _ o (fun d v H1 e1 r1 hx => g2 z X H0 H1 σ env _ _ (o.go e1) (fun d2 v2 H2 e2 r2 hy => ?_) hx) hp⟩
  have r1' : Is z (Ms z X σ env) H2 v d := Is.evo (fun _ q => .inl q) e2 r1
  cases r1' with
  | lst a1 n1 b1 =>
    cases (show Is z (Ms z X σ env) H2 v2 d2 from r2) with
    | lst a2 n2 b2 => exact ⟨_, _, _, _, rfl, .inl ⟨SqL.of a1, SqL.of a2, c _ _ H2 (e1.trans e2) (yl_zipL a1 n1 b1 a2 n2 b2) hy⟩⟩
    | _ => exact (show False from hy).elim
  | tup a1 n1 b1 =>
    cases (show Is z (Ms z X σ env) H2 v2 d2 from r2) with
    | tup a2 n2 b2 => exact ⟨_, _, _, _, rfl, .inr ⟨SqT.of a1, SqT.of a2, c _ _ H2 (e1.trans e2) (yl_zipT a1 n1 b1 a2 n2 b2) hy⟩⟩
    | _ => exact (show False from hy).elim
  | _ => exact (show False from hy).elim
theorem iZipP_i {p q : PX} {env : List SV} {k : List D → Prop} (h : p env fun d => q env fun e => zipK d e k) : iZipP p q env k := h
theorem zipK_t {xs ys : List D} {k : List D → Prop} (h : k (zipD xs ys)) : zipK (.tup xs) (.tup ys) k := h
theorem zipK_l {xs ys : List D} {k : List D → Prop} (h : k (zipD xs ys)) : zipK (.lst xs) (.lst ys) k := h
/-! ### sum, max, min of a list or a tuple of whole numbers -/
def rSumA (K : PySem.W.Frag) : List V → Hp → VK → Prop := fun vs H Q => ∃ (a : Addr) (ns : List Int), vs = [V.ref a] ∧ (SqL K H a (ns.map V.int) ∨ SqT K H a (ns.map V.int)) ∧ Q (.int ns.sum) H
theorem cr_sumA {X : Cx} (hc : X.calm = true) : CallR X (.builtin "sum") (rSumA X.K) := by
  intro pins s σ H vs us Q I r h
  obtain ⟨a, ns, rfl, hs, q⟩ := h
  rcases hs with hs | hs
  · exact cr_sum hc pins s σ H _ us Q I r ⟨a, ns, rfl, hs, q⟩
  · obtain ⟨its, rv, ht, _⟩ := I.tuple hs
    rw [Vals.ref1 r]
    have hi : IntsAre its ns := Vals.ints rv
    obtain ⟨xs, e⟩ := hi.allInts.items
    have hn : numsOf (intItems xs).toList = ns := by rw [← e]; exact hi.numsOf
    rw [nums_intItems] at hn
    rw [e] at ht
    refine PySem.W.ktm_sumG (I.ok.hd hc) ht fun h' tk t' hk => ⟨.int ns.sum, H, I.kept hk, ?_, q⟩
    rw [preSum_eq, List.take_of_length_le (by simp), hn]
    exact ⟨_, rfl⟩
def rMaxA (K : PySem.W.Frag) : List V → Hp → VK → Prop := fun vs H Q => ∃ (a : Addr) (ns : List Int), vs = [V.ref a] ∧ (SqL K H a (ns.map V.int) ∨ SqT K H a (ns.map V.int)) ∧ ns ≠ [] ∧ Q (.int (maxI ns)) H
def rMinA (K : PySem.W.Frag) : List V → Hp → VK → Prop := fun vs H Q => ∃ (a : Addr) (ns : List Int), vs = [V.ref a] ∧ (SqL K H a (ns.map V.int) ∨ SqT K H a (ns.map V.int)) ∧ ns ≠ [] ∧ Q (.int (minI ns)) H
theorem dp_ints {K : PySem.W.Frag} {H : Hp} : ∀ ns : List Int, DpAll K H (ns.map V.int) (ns.map PyData.int)
  | [] => .nil
  | n :: ns => .cons (.int n) (dp_ints ns)
theorem alike_ints (ns : List Int) : PySem.W.AlikeAll (ns.map PyData.int) := by
  refine ⟨fun x hx y hy => ?_, fun x hx => ?_⟩
  · obtain ⟨a, _, rfl⟩ := List.mem_map.mp hx
    obtain ⟨b, _, rfl⟩ := List.mem_map.mp hy
    rfl
  · obtain ⟨a, _, rfl⟩ := List.mem_map.mp hx
    intro q
    cases q
theorem depth_ints : ∀ ns : List Int, PyData.depthAll (ns.map PyData.int) ≤ 60
  | [] => by simp [PyData.depthAll]
  | n :: ns => by
    have := depth_ints ns
    simp only [List.map_cons, PyData.depthAll, PyData.depth]
    omega
theorem fold_max (n : Int) : ∀ ns : List Int, ns.foldl max n = maxI (n :: ns) := by
  intro ns
  induction ns generalizing n with
  | nil => rfl
  | cons k r ih =>
    rw [List.foldl_cons, ih]
    show maxI (max n k :: r) = max n (maxI (k :: r))
    cases r with
    | nil => rfl
    | cons a r =>
      show max (max n k) (maxI (a :: r)) = max n (max k (maxI (a :: r)))
      omega
theorem fold_min (n : Int) : ∀ ns : List Int, ns.foldl min n = minI (n :: ns) := by
  intro ns
  induction ns generalizing n with
  | nil => rfl
  | cons k r ih =>
    rw [List.foldl_cons, ih]
    show minI (min n k :: r) = min n (minI (k :: r))
    cases r with
    | nil => rfl
    | cons a r =>
      show min (min n k) (minI (a :: r)) = min n (min k (minI (a :: r)))
      omega
theorem cr_maxA {X : Cx} (hc : X.calm = true) (hu : X.A.units + 64 < cLine) : CallR X (.builtin "max") (rMaxA X.K) := by
  intro pins s σ H vs us Q I r h
  obtain ⟨a, ns, rfl, hs, hne, q⟩ := h
  rcases hs with hs | hs
  · refine cr_max hc pins s σ H _ us Q I r ⟨a, ns, rfl, hs, List.length_pos_iff.mpr hne, fun m h1 h2 => ?_⟩
    rw [maxI_eq h1 h2]
    exact q
  · obtain ⟨its, rv, ht, _⟩ := I.tuple hs
    rw [Vals.ref1 r]
    obtain ⟨n, ns', rfl⟩ : ∃ n ns', ns = n :: ns' := by
      cases ns with
      | nil => exact absurd rfl hne
      | cons n ns' => exact ⟨n, ns', rfl⟩
    obtain ⟨as, ra⟩ := Dp.readsAll I _ _ _ (dp_ints (n :: ns')) rv
    have hd := depth_ints (n :: ns')
    refine PySem.W.max_tuple_data (xs := ns'.map PyData.int) (x := .int n) (I.ok.hd hc) (show s.heap.IsTuple a its.toArray from ht) (by simpa using ra) (alike_ints (n :: ns')) (by have : PyData.depthAll (PyData.int n :: ns'.map PyData.int) ≤ 60 := hd; omega) fun i v h' tk bs hv rd hk => ?_
    rw [PySem.W.maxD_ints, fold_max] at rd
    cases rd
    exact ⟨.int _, H, I.kept hk, ⟨_, rfl⟩, q⟩
theorem cr_minA {X : Cx} (hc : X.calm = true) (hu : X.A.units + 64 < cLine) : CallR X (.builtin "min") (rMinA X.K) := by
  intro pins s σ H vs us Q I r h
  obtain ⟨a, ns, rfl, hs, hne, q⟩ := h
  rcases hs with hs | hs
  · refine cr_min hc pins s σ H _ us Q I r ⟨a, ns, rfl, hs, List.length_pos_iff.mpr hne, fun m h1 h2 => ?_⟩
    rw [minI_eq h1 h2]
    exact q
  · obtain ⟨its, rv, ht, _⟩ := I.tuple hs
    rw [Vals.ref1 r]
    obtain ⟨n, ns', rfl⟩ : ∃ n ns', ns = n :: ns' := by
      cases ns with
      | nil => exact absurd rfl hne
      | cons n ns' => exact ⟨n, ns', rfl⟩
    obtain ⟨as, ra⟩ := Dp.readsAll I _ _ _ (dp_ints (n :: ns')) rv
    have hd := depth_ints (n :: ns')
    refine PySem.W.min_tuple_data (xs := ns'.map PyData.int) (x := .int n) (I.ok.hd hc) (show s.heap.IsTuple a its.toArray from ht) (by simpa using ra) (alike_ints (n :: ns')) (by have : PyData.depthAll (PyData.int n :: ns'.map PyData.int) ≤ 60 := hd; omega) fun i v h' tk bs hv rd hk => ?_
    rw [PySem.W.minD_ints, fold_min] at rd
    cases rd
    exact ⟨.int _, H, I.kept hk, ⟨_, rfl⟩, q⟩
def seqI (d : D) (ns : List Int) : Prop := d = .lst (ns.map D.int) ∨ d = .tup (ns.map D.int)
def gSumA : List D → (D → Prop) → Prop := fun ds k => ∃ d ns, ds = [d] ∧ seqI d ns ∧ k (.int ns.sum)
def gMaxA : List D → (D → Prop) → Prop := fun ds k => ∃ d ns, ds = [d] ∧ seqI d ns ∧ ns ≠ [] ∧ k (.int (maxI ns))
def gMinA : List D → (D → Prop) → Prop := fun ds k => ∃ d ns, ds = [d] ∧ seqI d ns ∧ ns ≠ [] ∧ k (.int (minI ns))
theorem seq_at {z : Zn} {M : AP} {H : Hp} {K : PySem.W.Frag} {vs : List V} {d : D} {ns : List Int} (h : IsA z M H vs [d]) (hd : seqI d ns) : ∃ a, vs = [.ref a] ∧ (SqL K H a (ns.map V.int) ∨ SqT K H a (ns.map V.int)) := by
  obtain ⟨v, rfl, hv⟩ := h.one
  rcases hd with rfl | rfl
  · cases hv with
    | lst e n r => exact ⟨_, rfl, .inl (SqL.of (by rw [e, isa_ints r]))⟩
  · cases hv with
    | tup e n r => exact ⟨_, rfl, .inr (SqT.of (by rw [e, isa_ints r]))⟩
theorem cd_sumA {l : Bool} {K : PySem.W.Frag} : CallD l .e (rSumA K) gSumA := fun z X H0 H σ env vs ds Q k o h c hp => by
  obtain ⟨d, ns, rfl, hd, hk⟩ := hp
  obtain ⟨a, rfl, ha⟩ := seq_at (K := K) h hd
  exact ⟨a, ns, rfl, ha, c _ _ H (Evo.refl _ _) (Is.int _) hk⟩
theorem cd_maxA {l : Bool} {K : PySem.W.Frag} : CallD l .e (rMaxA K) gMaxA := fun z X H0 H σ env vs ds Q k o h c hp => by
  obtain ⟨d, ns, rfl, hd, hne, hk⟩ := hp
  obtain ⟨a, rfl, ha⟩ := seq_at (K := K) h hd
  exact ⟨a, ns, rfl, ha, hne, c _ _ H (Evo.refl _ _) (Is.int _) hk⟩
theorem cd_minA {l : Bool} {K : PySem.W.Frag} : CallD l .e (rMinA K) gMinA := fun z X H0 H σ env vs ds Q k o h c hp => by
  obtain ⟨d, ns, rfl, hd, hne, hk⟩ := hp
  obtain ⟨a, rfl, ha⟩ := seq_at (K := K) h hd
  exact ⟨a, ns, rfl, ha, hne, c _ _ H (Evo.refl _ _) (Is.int _) hk⟩
theorem gSumA_t {ns : List Int} {k : D → Prop} (h : k (.int ns.sum)) : gSumA [.tup (ns.map D.int)] k := ⟨_, ns, rfl, .inr rfl, h⟩
theorem gMaxA_t {ns : List Int} {k : D → Prop} (hn : ns ≠ []) (h : k (.int (maxI ns))) : gMaxA [.tup (ns.map D.int)] k := ⟨_, ns, rfl, .inr rfl, hn, h⟩
theorem gMinA_t {ns : List Int} {k : D → Prop} (hn : ns ≠ []) (h : k (.int (minI ns))) : gMinA [.tup (ns.map D.int)] k := ⟨_, ns, rfl, .inr rfl, hn, h⟩
theorem gMaxA_l {ns : List Int} {k : D → Prop} (hn : ns ≠ []) (h : k (.int (maxI ns))) : gMaxA [.lst (ns.map D.int)] k := ⟨_, ns, rfl, .inl rfl, hn, h⟩
theorem gMinA_l {ns : List Int} {k : D → Prop} (hn : ns ≠ []) (h : k (.int (minI ns))) : gMinA [.lst (ns.map D.int)] k := ⟨_, ns, rfl, .inl rfl, hn, h⟩
/-! ### (x,) * n -/
theorem tuple_mul0 (l : Addr) (items : Array Value) (n : Nat) (dd : Option Addr) (sl : Array (Option Value)) (x : Int) (u : Tok) (c0 : (decide (x < -(2 ^ 63)) || decide (x ≥ 2 ^ 63)) = false) (c1 : (items.isEmpty || x == 1) = false) (c2 : (decide (x ≤ 0) || items.isEmpty) = true) :
    Meets (Builtin.«tuple.__mul__» ⟨[.ref l, .int x u], []⟩) (fun _ R s => s.heap.get? l = some { cls := .type "tuple", dict := dd, data := .seq items n, slots := sl } ∧
      R (.ok (.ret (Value.ref s.heap.objs.size))) { s with heap := s.heap.push { cls := Value.type "tuple", data := Data.seq #[] }, toks := s.toks }) :=
  .of_wp fun prog w A R s h => by
    obtain ⟨hp, g, d, tk, os⟩ := s
    obtain ⟨hl, h⟩ := h
    have f1 := AutoSeq1.idx_int
    wp_walk using wpAny_loadPart' hl
    repeat (first
      | (refine wpAny_ite_false (decide_eq_false (by rw [c0]; exact Bool.false_ne_true)) ?_; wp_walk using wpAny_loadPart' hl)
      | (refine wpAny_ite_false (decide_eq_false (by rw [c1]; exact Bool.false_ne_true)) ?_; wp_walk using wpAny_loadPart' hl)
      | (refine wpAny_ite_true (decide_eq_true c2) ?_; wp_walk using wpAny_loadPart' hl))
    exact ⟨_, rfl, h⟩
def rRepTA (K : PySem.W.Frag) : R2 := fun x y H Q => ∃ l k xs, x = .ref l ∧ y = .int k ∧ SqT K H l xs ∧ xs ≠ [] ∧ (k = 0 ∨ 2 ≤ k) ∧ k ≤ 1000 ∧ xs.length ≤ 1000 ∧ ∀ p, H p = none → Q (.ref p) (upd H p (.tup (List.replicate k.toNat xs).flatten))
theorem op_repTA {X : Cx} : OpR X (binaryOp .Mult) (rRepTA X.K) := by
  intro pins s σ H x y v u Q I rx ry h
  obtain ⟨l, k, xs, rfl, rfl, hT, hne, h1, h2, hz, q⟩ := h
  rcases h1 with rfl | h1
  · cases rx
    obtain ⟨t, rfl⟩ := ry
    obtain ⟨its, r, ⟨⟨cls, dd, data, sl⟩, ho, hc, n, hd⟩, hs⟩ := I.tuple hT
    simp only at hc hd
    subst hc hd
    have hle : its.length = xs.length := r.length.symm
    have hi : its.toArray.isEmpty = false := by
      cases its with
      | nil => exact absurd (List.eq_nil_of_length_eq_zero hle.symm) hne
      | cons a b => rfl
    have c1 : (its.toArray.isEmpty || (0 : Int) == 1) = false := by rw [hi]; rfl
    refine wpAny_binaryOp_repeat_ref (T := "tuple") (U := "int") (by decide) ⟨_, ho, rfl⟩ (fun s' => typeIs_int s' 0 t) noFill_tuple_mul F.fills_int_mul F.slot_int_rmul repeat_tuple F.slot_int_index.lookup
      (call_meets F.slot_int_rmul (typeIs_int s 0 t) F.entry_int_rmul (F.args_int_rmul_2 _ _) (int_rmul_tuple 0 t l its.toArray n dd sl)
        ⟨ho, rfl, ⟨_, ho, rfl⟩, call_meets F.slot_tuple_mul ⟨_, ho, rfl⟩ F.entry_tuple_mul (F.args_tuple_mul_2 _ _) (tuple_mul0 l its.toArray n dd sl 0 t rfl c1 rfl) ⟨ho, ?_⟩⟩)
    refine ⟨.ref s.heap.objs.size, _, I.laid (t' := s.toks) (o := .tup []) (fun b ob q => Heap.get?_push_of_some _ q) (Nat.le_refl _) ?_, rfl, q _ (I.hok.fresh (Nat.le_refl _))⟩
    exact ⟨Nat.zero_le _, [], .nil, IsTup.new _ _⟩
  · exact op_repT pins s σ H _ _ v u Q I rx ry ⟨l, k, xs, rfl, rfl, hT, hne, h1, h2, hz, q⟩
def dRepT : D → D → (D → Prop) → Prop := fun x y k => match x, y with
  | .tup xs, .int i => xs ≠ [] ∧ (i = 0 ∨ 2 ≤ i) ∧ i ≤ 1000 ∧ xs.length ≤ 1000 ∧ k (.tup (List.replicate i.toNat xs).flatten)
  | _, _ => False
theorem opd_repT {K : PySem.W.Frag} : OpD .c .e (rRepTA K) dRepT := fun z X H0 H σ env v u x y Q k o r1 r2 c hp => by
  cases x with
  | tup xs =>
    cases y with
    | int i =>
      obtain ⟨h0, h1, h2, h3, hk⟩ := hp
      obtain ⟨a, vs, rfl, q1, q2, n⟩ := r1.conT
      refine ⟨a, i, vs, rfl, r2.intC, SqT.of q1, fun e => h0 ?_, h1, h2, by rw [q2.length]; exact h3, fun q hq => c _ _ _ ((Evo.refl _ _).new hq) ((Rel.newT hq hq (q2.rep _)).fe o) hk⟩
      have := q2.length
      rw [e] at this
      exact List.eq_nil_of_length_eq_zero this.symm
    | _ => exact (show False from hp).elim
  | _ => exact (show False from hp).elim
end Pu

namespace Pu
open PySem PySem.Spec PyProof.Rows L2
variable [Tbs]
/-! ### dicts by whole numbers, owned -/
def valD (kvs : List (Key × D)) (k : Key) : Option D := (kvs.find? fun kv => decide (kv.1 = k)).map (·.2)
def putD (kvs : List (Key × D)) (k : Key) (d : D) : List (Key × D) :=
  if (kvs.any fun kv => decide (kv.1 = k)) = true then kvs.map (fun kv => if kv.1 = k then (kv.1, d) else kv) else kvs ++ [(k, d)]
section
variable {z : Zn} {M : AP} {H : Hp}
theorem IsK.len : ∀ {vs : List (Key × V)} {ds : List (Key × D)}, IsK z M H vs ds → vs.length = ds.length
  | _, _, .nil => rfl
  | _, _, .cons _ t => congrArg Nat.succ (IsK.len t)
theorem IsK.val (k : Key) : ∀ {vs : List (Key × V)} {ds : List (Key × D)}, IsK z M H vs ds → (valD ds k = none → valV vs k = none) ∧ (∀ d, valD ds k = some d → ∃ v, valV vs k = some v ∧ Is z M H v d)
  | _, _, .nil => ⟨fun _ => rfl, fun d h => by cases h⟩
  | _, _, .cons (k := k') (v := v) (d := d) (vs := vs) (ds := ds) h t => by
    have ih := IsK.val k t
    by_cases e : k' = k
    · rw [valV_pos (p := (k', v)) (r := vs) e, show valD ((k', d) :: ds) k = some d by simp [valD, List.find?_cons, e]]
      refine ⟨fun q => (by cases q), fun d' q => ?_⟩
      cases q
      exact ⟨v, rfl, h⟩
    · rw [valV_neg (p := (k', v)) (r := vs) e, show valD ((k', d) :: ds) k = valD ds k by simp [valD, List.find?_cons, e]]
      exact ih
theorem IsK.any (k : Key) : ∀ {vs : List (Key × V)} {ds : List (Key × D)}, IsK z M H vs ds → (vs.any fun kv => decide (kv.1 = k)) = ds.any fun kv => decide (kv.1 = k)
  | _, _, .nil => rfl
  | _, _, .cons h t => by rw [List.any_cons, List.any_cons, IsK.any k t]
theorem IsK.mapP {k : Key} {v : V} {d : D} (hv : Is z M H v d) : ∀ {vs : List (Key × V)} {ds : List (Key × D)}, IsK z M H vs ds → IsK z M H (vs.map fun kv => if kv.1 = k then (kv.1, v) else kv) (ds.map fun kv => if kv.1 = k then (kv.1, d) else kv)
  | _, _, .nil => .nil
  | _, _, .cons (k := k') h t => by
    rw [List.map_cons, List.map_cons]
    by_cases e : k' = k
    · rw [if_pos e, if_pos e]
      exact .cons hv (IsK.mapP hv t)
    · rw [if_neg e, if_neg e]
      exact .cons h (IsK.mapP hv t)
theorem IsK.snoc {k : Key} {v : V} {d : D} (hv : Is z M H v d) : ∀ {vs : List (Key × V)} {ds : List (Key × D)}, IsK z M H vs ds → IsK z M H (vs ++ [(k, v)]) (ds ++ [(k, d)])
  | _, _, .nil => .cons hv .nil
  | _, _, .cons h t => .cons h (IsK.snoc hv t)
theorem IsK.put {k : Key} {v : V} {d : D} {vs : List (Key × V)} {ds : List (Key × D)} (h : IsK z M H vs ds) (hv : Is z M H v d) : IsK z M H (putK vs k v) (putD ds k d) := by
  unfold putK putD
  rw [h.any k]
  split
  · exact h.mapP hv
  · exact h.snoc hv
end
theorem valD_put {ds : List (Key × D)} {k k' : Key} {d : D} : valD (putD ds k d) k' = if k' = k then some d else valD ds k' := by
  unfold putD
  split
  · rename_i h
    induction ds with
    | nil => cases h
    | cons p ds ih =>
      obtain ⟨a, b⟩ := p
      by_cases e : a = k
      · subst e
        by_cases q : k' = a
        · subst q
          simp [valD, List.find?_cons]
        · have q' : ¬ a = k' := fun w => q w.symm
          have : ∀ l : List (Key × D), valD (l.map fun kv => if kv.1 = a then (kv.1, d) else kv) k' = valD l k' := fun l => by
            induction l with
            | nil => rfl
            | cons p l ih2 =>
              obtain ⟨c, b'⟩ := p
              rw [List.map_cons]
              by_cases w : c = a
              · subst w
                simp [valD, List.find?_cons, q'] at ih2 ⊢
                exact ih2
              · by_cases w2 : c = k'
                · subst w2
                  simp [valD, List.find?_cons, w]
                · simp [valD, List.find?_cons, w, w2] at ih2 ⊢
                  exact ih2
          rw [this, if_neg q]
      · have h' : (ds.any fun kv => decide (kv.1 = k)) = true := by
          rw [List.any_cons, decide_eq_false e, Bool.false_or] at h
          exact h
        have := ih h'
        rw [List.map_cons]
        by_cases w : a = k'
        · subst w
          simp [valD, List.find?_cons, e]
        · simp [valD, List.find?_cons, e, w] at this ⊢
          exact this
  · rename_i h
    have hn : ∀ p ∈ ds, p.1 ≠ k := fun p hp e => h (List.any_eq_true.mpr ⟨p, hp, decide_eq_true e⟩)
    clear h
    induction ds with
    | nil =>
      by_cases q : k' = k
      · subst q; simp [valD, List.find?_cons]
      · have q' : ¬ k = k' := fun w => q w.symm
        simp [valD, List.find?_cons, q, q']
    | cons p ds ih =>
      obtain ⟨a, b⟩ := p
      have e : a ≠ k := hn (a, b) List.mem_cons_self
      have := ih fun p hp => hn p (List.mem_cons_of_mem _ hp)
      by_cases w : a = k'
      · subst w
        simp [valD, List.find?_cons, e]
      · simp [valD, List.find?_cons, w] at this ⊢
        exact this
section
variable {C : Cx} {fr : Bool} {m : Mode} {e a b : Expr} {p q : PX} {pos pp : Pos}
def eDic0 : PX := fun _ k => k (.dic [])
theorem e_dic0 : E .f C (.Dict [] [] pos) eDic0 := ⟨_, pe_dnewK, fun z X H0 H σ env Q k o c hp => fun q hq => c (.dic []) (.ref q) _ ((Evo.refl _ _).new hq) ⟨q, rfl, hq, [], upd_same, .nil⟩ hp⟩
/-- x[i] = e, x a dict -/
def sDput (i : Nat) (pi pe : PX) : PSt := fun env k => pe env fun y => match env[i]? with
  | some (.own (.dic kvs)) => pi env fun d => inK d fun n => kvs.length ≤ 100000 ∧ k.nx (env.set i (.own (.dic (putD kvs (.inl n) y))))
  | _ => False
theorem s_dput (i : Nat) {x : Str} {ix : Expr} {spos : Pos} (hu : C.A.units + 1 < cLine) (he : E .e C e p) (hi : E m C ix q) (hN : C.N[i]? = some x := by rfl) (hv : Vis C.env.scope x := by first | exact Or.inl rfl | exact Or.inr (Or.inl rfl) | exact Or.inr (Or.inr rfl)) (hd : (x == ("__debug__" : Str)) = false := by decide)
    (hcd : (x == ("__classdict__" : Str)) = false := by decide) (hs : swapsWith e (some (.Subscript (.Name x pp) ix spos)) pos.line C.env = pure false := by rfl) : S fr C (.Assign [.Subscript (.Name x pp) ix spos] e pos) (sDput i q p) := by
  obtain ⟨t, h1, h2⟩ := he
  obtain ⟨u, g1, g2⟩ := hi.toB
  refine ⟨_, ps_dput hu (pe_var hN hv hd hcd) g1 h1 hs, fun z X H0 H σ env G k o s hp => ?_⟩
  refine h2 z X H0 H σ env _ _ o (fun y v H1 e1 r1 hx => ?_) hp
  have o1 := o.go e1
  split at hx
  · rename_i kvs hk
    obtain ⟨ad, q1, ⟨vs, q5, q6⟩, q3, q4⟩ := o1.own i _ hk
    refine ⟨_, q1, g2 z X H0 H1 σ env _ _ o1 (fun d w H2 e2 r2 hy => ?_) hx⟩
    cases d with
    | int n =>
      cases Is.intI r2
      obtain ⟨hl, hy⟩ := hy
      have o2 := o1.go e2
      have q5' := e2.old ad _ q5 q3
      have q6' : IsK z (Ms z X σ env) H2 vs kvs := q6.gen (fun b ob qb nb => ⟨e2.old b ob qb fun w => nb (.inl w), nb⟩) e2.dk
      have r1' : Is z (Ms z X σ env) H2 v y := Is.evo (fun _ q => .inl q) e2 r1
      have hlen := q6.len
      refine ⟨ad, _, rfl, DPut.k (k := Sum.inl n) q5' (by rw [hlen, sizeLine_eq]; omega), ?_⟩
      have ia : Ms z X σ env ad := .inr (.inr ⟨i, _, hk, q1⟩)
      obtain ⟨o3, f3⟩ := o2.mut (d' := .dic (putD kvs (.inl n) y)) (o := .dK (putK vs (.inl n) v)) hk q1 ⟨_, upd_same, (q6'.put r1').gen (fun b u hb nb => ⟨by rw [upd_ne (fun w => nb (by rw [w]; exact ia))]; exact hb, nb⟩) fun b hb => ok_mut q3 hb⟩
      exact s.nx _ _ _ o3 ((o.fr (e1.trans e2)).trans f3) hy
    | _ => exact (show False from hy).elim
  · exact hx.elim
/-- x[k], k in x, x an owned dict -/
def dDget : D → D → (D → Prop) → Prop := fun x y k => match x, y with
  | .dic kvs, .int n => ∃ d, valD kvs (.inl n) = some d ∧ k d
  | _, _ => False
def dDin : D → D → (D → Prop) → Prop := fun x y k => match x, y with
  | .int n, .dic kvs => k (.bl (valD kvs (.inl n)).isSome)
  | _, _ => False
theorem Rel.conD {z : Zn} {X : AP} {H H' : Hp} {σ : Sl} {env : List SV} {v : V} {xs : List (Key × D)} (h : Rel .c z X H H' σ env v (.dic xs)) : ∃ a vs, v = .ref a ∧ H' a = some (.dK vs) ∧ IsK z (Ms z X σ env) H' vs xs := by
  rcases h with h | ⟨a, rfl, ⟨vs, e, r⟩, n, md⟩
  · cases h with
    | dic e n r => exact ⟨_, _, rfl, e, r⟩
  · exact ⟨a, vs, rfl, e, r⟩
theorem e_dgetO (hu : C.A.units + 1 < cLine) (ha : E .c C a p) (hb : E .c C b q) (hs : NoSl b := by exact fun _ _ => rfl) : E .e C (.Subscript a b pos) (eOp dDget p q) := by
  obtain ⟨ta, a1, a2⟩ := ha
  obtain ⟨tb, b1, b2⟩ := hb
  refine ⟨_, pe_dget hu a1 b1 hs, fun z X H0 H σ env Q k o c hp => a2 z X H0 H σ env _ _ o (fun x v H1 e1 r1 hp1 => b2 z X H0 H1 σ env _ _ (o.go e1) (fun y u H2 e2 r2 hp2 => ?_) hp1) hp⟩
  have r1' := r1.evo o e2 e1
  cases x with
  | dic kvs =>
    cases y with
    | int n =>
      obtain ⟨d, hd, hk⟩ := hp2
      obtain ⟨ad, vs, rfl, h1, h2⟩ := Rel.conD r1'
      obtain ⟨w, hw, iw⟩ := (h2.val (.inl n)).2 d hd
      cases r2.intC
      exact ⟨ad, w, rfl, hw ▸ DGet.k (k := Sum.inl n) h1, c d w H2 (e1.trans e2) iw hk⟩
    | _ => exact (show False from hp2).elim
  | _ => exact (show False from hp2).elim
theorem t_dinO (hu : C.A.units + 1 < cLine) (ha : E .c C a p) (hb : E .c C b q) (hk : behindInMarks .In b = false := by rfl) : T C (.Compare a [.In] [b] pos) (tOf (eOp dDin p q)) := by
  obtain ⟨ta, a1, a2⟩ := ha
  obtain ⟨tb, b1, b2⟩ := hb
  refine ⟨_, pt_cmp (pc_din hu a1 b1) hk, fun z X H0 H σ env Q k o c hp => a2 z X H0 H σ env _ _ o (fun x v H1 e1 r1 hp1 => b2 z X H0 H1 σ env _ _ (o.go e1) (fun y u H2 e2 r2 hp2 => ?_) hp1) hp⟩
  have r1' := r1.evo o e2 e1
  cases x with
  | int n =>
    cases y with
    | dic kvs =>
      obtain ⟨ad, vs, rfl, h1, h2⟩ := Rel.conD r2
      cases r1'.intC
      have hv := h2.val (.inl n)
      refine ⟨ad, valV vs (.inl n), rfl, DGet.k (k := Sum.inl n) h1, _, rfl, ?_⟩
      have : (valV vs (.inl n)).isSome = (valD kvs (.inl n)).isSome := by
        cases q : valD kvs (.inl n) with
        | none => rw [hv.1 q]; rfl
        | some d =>
          obtain ⟨w, hw, _⟩ := hv.2 d q
          rw [hw]
          rfl
      rw [this]
      exact c _ H2 (e1.trans e2) hp2
    | _ => exact (show False from hp2).elim
  | _ => exact (show False from hp2).elim
theorem dDget_i {kvs : List (Key × D)} {n : Int} {d : D} {k : D → Prop} (e : valD kvs (.inl n) = some d) (h : k d) : dDget (.dic kvs) (.int n) k := ⟨d, e, h⟩
theorem dDin_i {kvs : List (Key × D)} {n : Int} {k : D → Prop} (h : k (.bl (valD kvs (.inl n)).isSome)) : dDin (.int n) (.dic kvs) k := h
theorem eO_d {i : Nat} {env : List SV} {kvs : List (Key × D)} {k : D → Prop} (e : env[i]? = some (.own (.dic kvs))) (h : k (.dic kvs)) : eO i env k := by unfold eO; rw [e]; exact h
theorem sDput_i {i : Nat} {pi pe : PX} {env : List SV} {kvs : List (Key × D)} {K : PK'} (e : env[i]? = some (.own (.dic kvs))) (h : pe env fun y => pi env fun d => inK d fun n => kvs.length ≤ 100000 ∧ K.nx (env.set i (.own (.dic (putD kvs (.inl n) y))))) : sDput i pi pe env K := by
  unfold sDput
  rw [e]
  exact h
end
/-! ### a statement by its reading, between statements by hand -/
theorem S.ps {fr : Bool} {C : Cx} {st : Stmt} {p : PSt} (h : S fr C st p) : PS C st (tPS fr p) := by
  obtain ⟨t, h1, h2⟩ := h
  exact ⟨fun pins s σ H G I ⟨z, X, H0, env, k, o, c, hp⟩ => h1.run pins s σ H G I (h2 z X H0 H σ env G k o c hp)⟩
/-- the second statement of a deck's making, by its reading -/
theorem mid_deck {p : PSt} {n : Nat} {a q : Addr} {H : Hp} {cs : List Int} {G : Ends} (hc : H q = some (.lst (cs.map V.int))) (hT : Tabs H)
    (k : ∀ (σ' : Sl) H' b s, σ'[1]? = some (some (V.ref b)) → H' b = some (.lst (cs.map V.int)) → σ'[2]? = some (some (V.int s)) → Tabs H' → G.nx σ' H')
    (hp : p (SV.no :: SV.val (.lst (cs.map D.int)) :: List.replicate n SV.no) { nx := fun env => ∃ s : Int, env[1]? = some (.val (.lst (cs.map D.int))) ∧ env[2]? = some (.val (.int s)), rt := fun _ => False }) :
    tPS false p G (some (V.ref a) :: some (.ref q) :: List.replicate n none) H := by
  have zz : ∀ b, Zn.none.Z b → b ∈ Tbs.tb := fun b w => w.elim (fun w => absurd rfl w.1) fun w => w
  have zq : ¬ Zn.none.Z q := fun w => by
    obtain ⟨ps, e, _⟩ := hT q (zz q w)
    rw [hc] at e
    cases e
  have hrep : ∀ (i : Nat) (d : SV), (SV.no :: SV.val (.lst (cs.map D.int)) :: List.replicate n SV.no)[i]? = some d → d = .no ∨ (i = 1 ∧ d = .val (.lst (cs.map D.int))) := fun i d h => by
    match i, h with
    | 0, h => simp at h; exact .inl h.symm
    | 1, h => simp at h; exact .inr ⟨rfl, h.symm⟩
    | j + 2, h =>
      simp only [List.getElem?_cons_succ, List.getElem?_replicate] at h
      split at h
      · cases h; exact .inl rfl
      · cases h
  have hia : ∀ (M : AP) (ns : List Int), IsA Zn.none M H (ns.map V.int) (ns.map D.int) := fun M ns => by
    induction ns with
    | nil => exact .nil
    | cons n ns ih => exact .cons (.int n) ih
  have hms : ¬ Ms Zn.none (fun _ => False) (some (V.ref a) :: some (.ref q) :: List.replicate n none) (SV.no :: SV.val (.lst (cs.map D.int)) :: List.replicate n SV.no) q := fun w => by
    rcases w with w | w | ⟨i, d, w, _⟩
    · exact zq w
    · exact w
    · rcases hrep i _ w with q | ⟨_, q⟩ <;> cases q
  refine ⟨Zn.none, fun _ => False, H, _, { nx := fun env => ∃ s : Int, env[1]? = some (.val (.lst (cs.map D.int))) ∧ env[2]? = some (.val (.int s)), rt := fun _ => False }, ⟨by simp, Evo.refl _ _, fun b w => hT.at (zz b w), fun _ q => q.elim, fun i d h => ?_, fun i d h => ?_, fun i j b d e h _ _ _ => ?_, hT⟩, ⟨fun env' σ' H' o _ hx => ?_, fun _ _ _ _ _ _ q => q.elim, fun _ _ _ _ _ q => q.elim, fun _ _ _ _ _ q => q.elim, fun _ _ _ _ _ _ _ q => q.elim⟩, hp⟩
  · rcases hrep i _ h with q | ⟨rfl, q⟩
    · cases q
    · cases q
      exact ⟨.ref _, rfl, Is.lst hc hms (hia _ cs)⟩
  · rcases hrep i _ h with q | ⟨rfl, q⟩ <;> cases q
  · rcases hrep i _ h with q | ⟨rfl, q⟩ <;> cases q
  · obtain ⟨s, h1, h2⟩ := hx
    obtain ⟨v, q1, q2⟩ := o.val 1 _ h1
    obtain ⟨u, p1, p2⟩ := o.val 2 _ h2
    cases p2
    cases q2 with
    | lst e _ r => exact k σ' H' _ s q1 (by rw [e, isa_ints r]) p1 o.tab
theorem isa_of {z : Zn} {M : AP} {H : Hp} (A : List Int) : IsA z M H (A.map V.int) (A.map D.int) := by
  induction A with
  | nil => exact .nil
  | cons a A ih => exact .cons (.int a) ih
/-! ### sorted(set(t)), t a tuple of whole numbers -/
theorem pigeon : ∀ (b : Nat) (l : List Int), l.Nodup → (∀ x ∈ l, 0 ≤ x ∧ x < (b : Int)) → l.length ≤ b
  | 0, l, _, h => by
    cases l with
    | nil => exact Nat.le_refl _
    | cons x l => have := h x List.mem_cons_self; omega
  | b + 1, l, nd, h => by
    by_cases q : (b : Int) ∈ l
    · have e := List.length_erase_of_mem q
      have := pigeon b (l.erase b) (nd.erase _) fun x hx => by
        have h1 := (List.Nodup.mem_erase_iff nd).mp hx
        have h2 := h x h1.2
        have h3 := h1.1
        omega
      omega
    · have := pigeon b l nd fun x hx => by
        have h2 := h x hx
        have h3 : x ≠ b := fun e => q (by rw [← e]; exact hx)
        omega
      omega
def rSetTup (K : PySem.W.Frag) (w : World) : List V → Hp → VK → Prop := fun xs H Q => ∃ (l : Addr) (ns : List Int), xs = [.ref l] ∧ SqT K H l (ns.map V.int) ∧ ns.length ≤ 1000 ∧ (∀ x ∈ ns, 0 ≤ x ∧ x < 60) ∧ ∀ a n, H a = none → n ≤ 60 → Q (.ref a) (upd H a (SetO w a (fun j => decide (j ∈ ns)) n))
theorem cr_setTup {X : Cx} (hc : X.calm = true) : CallR X (.type "set") (rSetTup X.K X.w) := by
  intro pins s σ H xs us Q I r h
  obtain ⟨l, ns, rfl, hT, hl, hns, q⟩ := h
  obtain ⟨its, rv, ht, _⟩ := I.tuple hT
  rw [Vals.ref1 r]
  have hi : IntsAre its ns := Vals.ints rv
  refine call_set_tupI ns (I.ok.hd hc) (show s.heap.IsTuple l its.toArray from ht) (by simpa using hi) (by unfold scanBound; omega) fun h' tk cnt R hle hk => ?_
  refine ⟨.ref _, upd H s.heap.objs.size (SetO X.w s.heap.objs.size (fun j => decide (j ∈ ns)) cnt), I.laid (t' := tk) hk (Nat.le_refl _) (setO_new R), rfl, q _ cnt (I.hok.fresh (Nat.le_refl _)) ?_⟩
  obtain ⟨ob, es, ep, t, _, _, _, _, nd, mem, _, _, hn, _⟩ := R
  have hk2 : (es.toList.map keyOf).length ≤ 60 := pigeon 60 _ nd fun x hx => hns x (of_decide_eq_true ((mem x).mpr hx))
  rw [List.length_map, Array.length_toList, hn] at hk2
  exact hk2
def dSortSet : D → (D → Prop) → Prop := fun d k => ∃ ns : List Int, d = .tup (ns.map D.int) ∧ ns.length ≤ 1000 ∧ (∀ x ∈ ns, 0 ≤ x ∧ x < 60) ∧ ∀ ms : List Int, ms.Pairwise (· < ·) → (∀ x, x ∈ ms ↔ x ∈ ns) → k (.lst (ms.map D.int))
theorem e_sortSet {C : Cx} {e : Expr} {p : PX} {p1 p2 q1 q2 : Pos} (h : E .e C e p) (hc : C.calm = true) (hg : Gl C "sorted") (hm : C.mg "sorted" = none) (hg2 : Gl C "set") (hm2 : C.mg "set" = none)
    (hs1 : starEach [e] C.env = (false, eval e C.env) :: starEach [] C.env := by rfl) (hs2 : starEach [.Call (.Name "set" p2) [e] [] q2] C.env = (false, eval (.Call (.Name "set" p2) [e] [] q2) C.env) :: starEach [] C.env := by rfl) :
    E .f C (.Call (.Name "sorted" p1) [.Call (.Name "set" p2) [e] [] q2] [] q1) (eUn dSortSet p) := by
  obtain ⟨t, h1, h2⟩ := h
  refine ⟨_, pe_callB (cr_sortedSet hc) hg hm (by decide +kernel) (pa_cons (pe_callTy (cr_setTup hc) hg2 hm2 (by decide +kernel) (pa_cons h1 pa_nil hs1) (he := hs1)) pa_nil hs2) (he := hs2), fun z X H0 H σ env Q k o c hp => h2 z X H0 H σ env _ _ o (fun d v H1 e1 r1 hx => ?_) hp⟩
  obtain ⟨ns, rfl, h64, hns, hk⟩ := hx
  cases (show Is z (Ms z X σ env) H1 v (.tup (ns.map D.int)) from r1) with
  | tup e' n' r' =>
    rename_i l vs
    refine ⟨l, ns, rfl, SqT.of (by rw [e', isa_ints r']), h64, hns, fun a n ha hn => ?_⟩
    refine ⟨a, _, n, rfl, upd_same, by omega, fun ms q hms hmem _ hq => ?_⟩
    have e2 := e1.new (o := SetO C.w a (fun j => decide (j ∈ ns)) n) ha
    refine c _ _ _ (e2.new hq) (Rel.newL (e2.fresh hq) hq (isa_of ms)) (hk ms hms fun x => ?_)
    rw [hmem, decide_eq_true_eq]
end Pu

namespace Pu
open PySem PySem.Spec PyProof.Rows L2
variable [Tbs]
/-! ### going through a reading, step by step -/
section
variable {env : List SV} {k : D → Prop} {K : PK'} {p q r : PX} {s t : PTs'} {P Q : PSt} {d : D} {ds xs ys : List D} {i n : Nat} {a b c : Int} {g : PAs}
theorem sSeq_i (h : P env { K with nx := fun env' => Q env' K }) : sSeq P Q env K := h
theorem sSeq_mid (Mid : List SV → Prop) (h : ∀ N : List SV → Prop, (∀ e, Mid e → N e) → P env { K with nx := N }) (h2 : ∀ e, Mid e → Q e K) : sSeq P Q env K := h _ h2
theorem sSeq_set (h : sSet i p env { K with nx := fun env' => Q env' K }) : sSeq (sSet i p) Q env K := h
theorem sSeq_own (h : sOwn i p env { K with nx := fun env' => Q env' K }) : sSeq (sOwn i p) Q env K := h
theorem sSeq_asg {gt : PGt} (h : sAsg p gt env { K with nx := fun env' => Q env' K }) : sSeq (sAsg p gt) Q env K := h
theorem sSeq_par {j : Nat} (h : sPar i j g env { K with nx := fun env' => Q env' K }) : sSeq (sPar i j g) Q env K := h
theorem sSeq_app (h : sAppend i p env { K with nx := fun env' => Q env' K }) : sSeq (sAppend i p) Q env K := h
theorem sSeq_put (h : sPut i p q env { K with nx := fun env' => Q env' K }) : sSeq (sPut i p q) Q env K := h
theorem sSeq_pop {j : Nat} (h : sPopAt j i p env { K with nx := fun env' => Q env' K }) : sSeq (sPopAt j i p) Q env K := h
theorem sSeq_drop (h : sDrop p env { K with nx := fun env' => Q env' K }) : sSeq (sDrop p) Q env K := h
theorem sSeq_for {it : PIt} {gt : PGt} (h : sFor it gt P env { K with nx := fun env' => Q env' K }) : sSeq (sFor it gt P) Q env K := h
theorem sSeq_ifr (h : sIf s (sRet p) sNext env { K with nx := fun env' => Q env' K }) : sSeq (sIf s (sRet p) sNext) Q env K := h
theorem sSeq_ifn (h : sIf s sRetN sNext env { K with nx := fun env' => Q env' K }) : sSeq (sIf s sRetN sNext) Q env K := h
theorem sNext_i (h : K.nx env) : sNext env K := h
theorem sSet_i (h : p env fun d => K.nx (env.set i (.val d))) : sSet i p env K := h
theorem sOwn_i (h : p env fun d => i < env.length ∧ K.nx (env.set i (.own d))) : sOwn i p env K := h
theorem sRet_i (h : p env K.rt) : sRet p env K := h
theorem sRetO_i (e : env[i]? = some (.own d)) (h : K.rt d) : sRetO i env K := by unfold sRetO; rw [e]; exact h
theorem sRetN_i (h : K.rt .non) : sRetN env K := h
theorem sDrop_i (h : p env fun _ => K.nx env) : sDrop p env K := h
theorem sIf_i (h : s env fun b => if b = true then P env K else Q env K) : sIf s P Q env K := h
theorem sAsg_i {gt : PGt} (h : p env fun d => gt d env K.nx) : sAsg p gt env K := h
theorem sPar_i {j : Nat} (h : g env fun ds => prK ds fun c d => K.nx ((env.set i (.val c)).set j (.val d))) : sPar i j g env K := h
theorem prK_i {e : D} {k : D → D → Prop} (h : k d e) : prK [d, e] k := h
theorem nx_i {f f' f'' : List SV → Prop} {g : D → Prop} (h : f env) : PK'.nx { nx := f, rt := g, bk := f', ct := f'' } env := h
theorem bk_i {f f' f'' : List SV → Prop} {g : D → Prop} (h : f' env) : PK'.bk { nx := f, rt := g, bk := f', ct := f'' } env := h
theorem ct_i {f f' f'' : List SV → Prop} {g : D → Prop} (h : f'' env) : PK'.ct { nx := f, rt := g, bk := f', ct := f'' } env := h
theorem rt_i {f f' f'' : List SV → Prop} {g : D → Prop} (h : g d) : PK'.rt { nx := f, rt := g, bk := f', ct := f'' } d := h
theorem blK_i {b : Bool} {k : Bool → Prop} (h : k b) : blK (.bl b) k := h
theorem inK_i {k : Int → Prop} (h : k a) : inK (.int a) k := h
theorem sqK_t {k : List D → Prop} (h : k xs) : sqK (.tup xs) k := h
theorem sqK_l {k : List D → Prop} (h : k xs) : sqK (.lst xs) k := h
theorem sFrz_i (e : env[i]? = some (.own d)) (h : P (env.set i (.val d)) K) : sFrz i P env K := by unfold sFrz frz; rw [e]; exact h
theorem sFor_i {it : PIt} {gt : PGt} (h : it env fun ds => forP gt P ds env K) : sFor it gt P env K := h
theorem sAppend_i (e : env[i]? = some (.own (.lst xs))) (h : p env fun d => xs.length ≤ 100000 ∧ K.nx (env.set i (.own (.lst (xs ++ [d]))))) : sAppend i p env K := by unfold sAppend; rw [e]; exact h
theorem eC_i (h : k d) : eC d env k := h
theorem eV_i (e : env[i]? = some (.val d)) (h : k d) : eV i env k := by unfold eV; rw [e]; exact h
theorem eO_i (e : env[i]? = some (.own (.lst xs))) (h : k (.lst xs)) : eO i env k := by unfold eO; rw [e]; exact h
theorem eOp_i {o : D → D → (D → Prop) → Prop} (h : p env fun x => q env fun y => o x y k) : eOp o p q env k := h
theorem eUn_i {o : D → (D → Prop) → Prop} (h : p env fun x => o x k) : eUn o p env k := h
theorem eChain_i {o o' : D → D → (D → Prop) → Prop} (h : p env fun x => q env fun y => o x y fun w => bCase w (r env fun u => o' y u k) (k (.bl false))) : eChain o o' p q r env k := h
theorem bCase_i {c : Bool} {A B : Prop} (h1 : c = true → A) (h2 : c = false → B) : bCase (.bl c) A B := by
  cases c with
  | true => exact h1 rfl
  | false => exact h2 rfl
theorem bCase_d {c : Prop} [Decidable c] {A B : Prop} (h1 : c → A) (h2 : ¬ c → B) : bCase (.bl (decide c)) A B := bCase_i (fun e => h1 (of_decide_eq_true e)) fun e => h2 (of_decide_eq_false e)
theorem bCase_t {A B : Prop} (h : A) : bCase (.bl true) A B := h
theorem bCase_f {A B : Prop} (h : B) : bCase (.bl false) A B := h
theorem eAnd_i (h : p env fun x => bCase x (q env k) (k (.bl false))) : eAnd p q env k := h
theorem eOr_i (h : p env fun x => bCase x (k (.bl true)) (q env k)) : eOr p q env k := h
theorem eIf_i (h : s env fun x => if x = true then p env k else q env k) : eIf s p q env k := h
theorem eTup_i (h : g env fun xs => xs.length ≤ 100000 ∧ k (.tup xs)) : eTup g env k := h
theorem eLst_i (h : g env fun xs => xs.length ≤ 100000 ∧ k (.lst xs)) : eLst g env k := h
theorem eCall_i {o : List D → (D → Prop) → Prop} (h : g env fun ds => o ds k) : eCall o g env k := h
theorem aNil_i {k : List D → Prop} (h : k []) : aNil env k := h
theorem aCons_i {k : List D → Prop} (h : p env fun x => g env fun xs => k (x :: xs)) : aCons p g env k := h
theorem tOf_i {k : Bool → Prop} (h : p env fun d => blK d k) : tOf p env k := h
theorem tAndP_i {k : Bool → Prop} (h : s env fun x => if x = true then t env k else k false) : tAndP s t env k := h
theorem tOrP_i {k : Bool → Prop} (h : s env fun x => if x = true then k true else t env k) : tOrP s t env k := h
theorem tNotP_i {k : Bool → Prop} (h : s env fun x => k (!x)) : tNotP s env k := h
theorem dI0_i {f : Int → Int → D} (h : k (f a b)) : dI0 f (.int a) (.int b) k := h
theorem dII_i {C : Int → Int → Prop} {f : Int → Int → D} (c : C a b) (h : k (f a b)) : dII C f (.int a) (.int b) k := ⟨c, h⟩
theorem dAdd_i (h : k (.int (a + b))) : dAdd (.int a) (.int b) k := h
theorem dAdd_t (hl : xs.length + ys.length ≤ 100000) (h : k (.tup (xs ++ ys))) : dAdd (.tup xs) (.tup ys) k := ⟨hl, h⟩
theorem dAdd_l (hl : xs.length + ys.length ≤ 100000) (h : k (.lst (xs ++ ys))) : dAdd (.lst xs) (.lst ys) k := ⟨hl, h⟩
theorem dIx_t (e : atI xs a = some d) (h : k d) : dIx (.tup xs) (.int a) k := ⟨d, e, h⟩
theorem dIx_l (e : atI xs a = some d) (h : k d) : dIx (.lst xs) (.int a) k := ⟨d, e, h⟩
theorem dIx_in (h0 : 0 ≤ a) (h1 : a < xs.length) (h : ∀ d ∈ xs, k d) : dIx (.lst xs) (.int a) k := by
  have hl : a.toNat < xs.length := by omega
  refine ⟨xs[a.toNat], ?_, h _ (List.getElem_mem hl)⟩
  unfold atI ixN
  rw [if_pos h0, if_pos h1]
  exact List.getElem?_eq_getElem hl
theorem dIx_at (h0 : 0 ≤ a) (h1 : a < xs.length) (h : ∀ d, xs[a.toNat]? = some d → k d) : dIx (.lst xs) (.int a) k := by
  have hl : a.toNat < xs.length := by omega
  refine ⟨xs[a.toNat], ?_, h _ (List.getElem?_eq_getElem hl)⟩
  unfold atI ixN
  rw [if_pos h0, if_pos h1]
  exact List.getElem?_eq_getElem hl
theorem dIx_atT (h0 : 0 ≤ a) (h1 : a < xs.length) (h : ∀ d, xs[a.toNat]? = some d → k d) : dIx (.tup xs) (.int a) k := dIx_at h0 h1 h
theorem dNeg_i (h : k (.int (-a))) : dNeg (.int a) k := h
theorem dNot_i {c : Bool} (h : k (.bl (!c))) : dNot (.bl c) k := h
theorem dTuple_l (h : k (.tup xs)) : dTuple (.lst xs) k := h
theorem dTuple_t (h : k (.tup xs)) : dTuple (.tup xs) k := h
theorem dList_l (h : k (.lst xs)) : dList (.lst xs) k := h
theorem dList_t (h : k (.lst xs)) : dList (.tup xs) k := h
theorem dRevT_i (hn : xs ≠ []) (h : k (.tup xs.reverse)) : dRevT (.tup xs) k := ⟨hn, h⟩
theorem dRevL_i (h : k (.lst xs.reverse)) : dRevL (.lst xs) k := h
theorem gMax_2 (h : k (.int (max a b))) : gMaxN [.int a, .int b] k := h
theorem gMax_3 (h : k (.int (max a (max b c)))) : gMaxN [.int a, .int b, .int c] k := h
theorem gMax_4 {d : Int} (h : k (.int (max a (max b (max c d))))) : gMaxN [.int a, .int b, .int c, .int d] k := h
theorem gMax_5 {d e : Int} (h : k (.int (max a (max b (max c (max d e)))))) : gMaxN [.int a, .int b, .int c, .int d, .int e] k := h
theorem gMin_2 (h : k (.int (min a b))) : gMinN [.int a, .int b] k := h
theorem gMin_3 (h : k (.int (min a (min b c)))) : gMinN [.int a, .int b, .int c] k := h
theorem gMin_4 {d : Int} (h : k (.int (min a (min b (min c d))))) : gMinN [.int a, .int b, .int c, .int d] k := h
theorem gAbs_i (h : k (.int (max a (-a)))) : gAbs [.int a] k := by
  show k (.int (if a < 0 then -a else a))
  rw [show (if a < 0 then -a else a) = max a (-a) by split <;> omega]
  exact h
theorem gLen_t (h : k (.int xs.length)) : gLen [.tup xs] k := h
theorem gLen_l (h : k (.int xs.length)) : gLen [.lst xs] k := h
theorem gInt_i (h : k (.int a)) : gInt [.int a] k := h
theorem gInt_b {c : Bool} (h : k (.int (if c then 1 else 0))) : gInt [.bl c] k := h
theorem gIsi_i {n t : String} {c : Bool} (e1 : tyD d = some t) (e2 : isB t n = some c) (h : k (.bl c)) : gIsi [d, .ty n] k := ⟨t, c, e1, e2, h⟩
theorem gMaxL_i {ns : List Int} (e : intsD xs = some ns) (hn : ns ≠ []) (h : k (.int (maxI ns))) : gMaxL [.lst xs] k := ⟨xs, ns, rfl, e, hn, h⟩
theorem gMinL_i {ns : List Int} (e : intsD xs = some ns) (hn : ns ≠ []) (h : k (.int (minI ns))) : gMinL [.lst xs] k := ⟨xs, ns, rfl, e, hn, h⟩
theorem gSum_i {ns : List Int} (e : intsD xs = some ns) (h : k (.int ns.sum)) : gSum [.lst xs] k := ⟨xs, ns, rfl, e, h⟩
theorem gtName_i {k : List SV → Prop} (h : k (env.set i (.val d))) : gtName i d env k := h
theorem gtTup_i {k : List SV → Prop} {gs : PGs'} (hn : ds.length = n) (h : gs ds env k) : gtTup n gs (.tup ds) env k := ⟨hn, h⟩
theorem gtCons_i {k : List SV → Prop} {gt : PGt} {gs : PGs'} (h : gt d env fun env' => gs ds env' k) : gtCons gt gs (d :: ds) env k := h
theorem gtNil_i {k : List SV → Prop} (h : k env) : gtNil [] env k := h
theorem iRange1_i {k : List D → Prop} (h : g env fun ds => rgK1 ds k) : iRange1 g env k := h
theorem iRange2_i {k : List D → Prop} (h : g env fun ds => rgK2 ds k) : iRange2 g env k := h
theorem rgK1_i {k : List D → Prop} (h1 : -100000 < a) (h2 : a < 100000) (h : k (rangeD 0 a.toNat)) : rgK1 [.int a] k := ⟨h1, h2, h⟩
theorem rgK2_i {k : List D → Prop} (h1 : -100000 < a ∧ a < 100000 ∧ -100000 < b ∧ b < 100000) (h : k (rangeD a (b - a).toNat)) : rgK2 [.int a, .int b] k := ⟨h1, h⟩
theorem iSeq_i {k : List D → Prop} (h : p env fun d => sqK d k) : iSeq p env k := h
theorem iEnumS_i {k : List D → Prop} (h : p env fun d => q env fun s => enK d s k) : iEnumS p q env k := h
theorem enK_i {k : List D → Prop} (h1 : -100000 < a ∧ a < 100000) (h : k (enumD a xs)) : enK (.tup xs) (.int a) k := ⟨h1, h⟩
theorem iEnum0_i {k : List D → Prop} (h : p env fun d => en0K d k) : iEnum0 p env k := h
theorem en0K_t {k : List D → Prop} (h : k (enumD 0 xs)) : en0K (.tup xs) k := h
theorem en0K_l {k : List D → Prop} (h : k (enumD 0 xs)) : en0K (.lst xs) k := h
theorem iRev1_i {k : List D → Prop} (h : p env fun d => rvK d k) : iRev1 p env k := h
theorem rvK_i {k : List D → Prop} (h1 : -100000 < a ∧ a < 100000) (h : k (revD a.toNat)) : rvK (.int a) k := ⟨h1, h⟩
theorem gSorted_i {ns : List Int} (e : intsD xs = some ns) (h : ∀ ms : List Int, ms.Perm ns → ms.Pairwise (· ≤ ·) → k (.lst (ms.map D.int))) : gSorted [.lst xs] k := ⟨xs, ns, rfl, e, h⟩
theorem sAug_i (e : env[i]? = some (.val (.int a))) (h : p env fun d => inK d fun b => K.nx (env.set i (.val (.int (a + b))))) : sAug i p env K := by unfold sAug; rw [e]; exact h
theorem sInsert_i (e : env[i]? = some (.own (.lst xs))) (h : p env fun d => q env fun y => inK d fun n => (0 ≤ n ∧ n < 100000 ∧ xs.length ≤ 100000) ∧ K.nx (env.set i (.own (.lst (xs.take n.toNat ++ [y] ++ xs.drop n.toNat))))) : sInsert i p q env K := by unfold sInsert; rw [e]; exact h
theorem sPopAt_i {j : Nat} (e : env[i]? = some (.own (.lst xs))) (h : p env fun d => inK d fun n => (-100000 < n ∧ n < 100000) ∧ ∃ jj y, seqIndex? n xs.length = some jj ∧ xs[jj]? = some y ∧ K.nx ((env.set i (.own (.lst (xs.eraseIdx jj)))).set j (.val y))) : sPopAt j i p env K := by unfold sPopAt; rw [e]; exact h
theorem sSeq_ins (h : sInsert i p q env { K with nx := fun env' => Q env' K }) : sSeq (sInsert i p q) Q env K := h
theorem sSeq_aug (h : sAug i p env { K with nx := fun env' => Q env' K }) : sSeq (sAug i p) Q env K := h
theorem eSl_i {lo hi : PO'} (h : p env fun x => lo env fun i => hi env fun j => dSl x i j k) : eSl p lo hi env k := h
theorem oNo_i {k : Option Int → Prop} (h : k none) : oNo env k := h
theorem oPart_i {k : Option Int → Prop} (h : p env fun d => inK d fun i => k (some i)) : oPart p env k := h
theorem dSl_t {lo hi : Option Int} (h : k (.tup (cutD xs lo hi))) : dSl (.tup xs) lo hi k := h
theorem dSl_l {lo hi : Option Int} (h : k (.lst (cutD xs lo hi))) : dSl (.lst xs) lo hi k := h
theorem eRg1_i {f : List D → D} (h : p env fun x => dRg f (.int 0) x k) : eRg1 f p env k := h
theorem dRg_i {f : List D → D} (hb : 0 ≤ a ∧ a < 100000 ∧ 0 ≤ b ∧ b < 100000) (h : k (f (rangeD a (b - a).toNat))) : dRg f (.int a) (.int b) k := ⟨hb, h⟩
theorem dIs_bn {c : Bool} {neg : Bool} (h : k (.bl neg)) : dIs neg (.bl c) .non k := h
theorem dEq_i (hx : pln 60 d = true) {e : D} (he : pln 60 e = true) (h : ∀ c : Bool, (c = true ↔ d = e) → k (.bl c)) : dEq d e k := ⟨_, ⟨pln_shp _ _ hx, pln_shp _ _ he, rfl⟩, h _ (eqvD_iff hx he)⟩
theorem dNe_i (hx : pln 60 d = true) {e : D} (he : pln 60 e = true) (h : ∀ c : Bool, (c = true ↔ d = e) → k (.bl (!c))) : dNe d e k := ⟨_, ⟨pln_shp _ _ hx, pln_shp _ _ he, rfl⟩, h _ (eqvD_iff hx he)⟩
theorem dEq_int (h : k (.bl (decide (a = b)))) : dEq (.int a) (.int b) k := by
  refine ⟨_, ⟨rfl, rfl, rfl⟩, ?_⟩
  have e : eqvD (.int a) (.int b) = decide (a = b) := by
    unfold eqvD
    simp only [pd, PyData.eqv]
    by_cases h : a = b <;> simp [h]
  rw [e]; exact h
theorem dNe_int (h : k (.bl (!decide (a = b)))) : dNe (.int a) (.int b) k := by
  refine ⟨_, ⟨rfl, rfl, rfl⟩, ?_⟩
  have e : eqvD (.int a) (.int b) = decide (a = b) := by
    unfold eqvD
    simp only [pd, PyData.eqv]
    by_cases h : a = b <;> simp [h]
  rw [e]; exact h
/-- a list and [] -/
theorem dEq_nil (hx : plnA 59 xs = true) (h : k (.bl (decide (xs = [])))) : dEq (.lst xs) (.lst []) k := by
  refine dEq_i (by simp only [pln]; exact hx) rfl fun c hc => ?_
  rw [show c = decide (xs = []) from ?_]
  · exact h
  · rw [D.lst.injEq] at hc
    by_cases e : xs = []
    · rw [decide_eq_true e]; exact hc.mpr e
    · rw [decide_eq_false e]; cases c with
      | true => exact absurd (hc.mp rfl) e
      | false => rfl
theorem dNe_nil (hx : plnA 59 xs = true) (h : k (.bl (!decide (xs = [])))) : dNe (.lst xs) (.lst []) k := by
  refine dNe_i (by simp only [pln]; exact hx) rfl fun c hc => ?_
  rw [show c = decide (xs = []) from ?_]
  · exact h
  · rw [D.lst.injEq] at hc
    by_cases e : xs = []
    · rw [decide_eq_true e]; exact hc.mpr e
    · rw [decide_eq_false e]; cases c with
      | true => exact absurd (hc.mp rfl) e
      | false => rfl
theorem ite_d {c : Prop} [Decidable c] {A B : Prop} (h1 : c → A) (h2 : ¬ c → B) : if decide c = true then A else B := by
  by_cases h : c
  · rw [if_pos (decide_eq_true h)]; exact h1 h
  · rw [if_neg (by rw [decide_eq_false h]; exact Bool.false_ne_true)]; exact h2 h
theorem ite_n {c : Prop} [Decidable c] {A B : Prop} (h1 : ¬ c → A) (h2 : c → B) : if (!decide c) = true then A else B := by
  by_cases h : c
  · rw [if_neg (by rw [decide_eq_true h]; exact Bool.false_ne_true)]; exact h2 h
  · rw [if_pos (by rw [decide_eq_false h]; rfl)]; exact h1 h
theorem ite_b {c : Bool} {A B : Prop} (h1 : c = true → A) (h2 : c = false → B) : if c = true then A else B := by
  cases c with
  | true => exact h1 rfl
  | false => exact h2 rfl
theorem ite_nb {c : Bool} {A B : Prop} (h1 : c = false → A) (h2 : c = true → B) : if (!c) = true then A else B := by
  cases c with
  | true => exact h2 rfl
  | false => exact h1 rfl
theorem ite_t {A B : Prop} (h : A) : if true = true then A else B := h
theorem ite_f {A B : Prop} (h : B) : if false = true then A else B := h
theorem ite_nt {A B : Prop} (h : B) : if (!true) = true then A else B := h
theorem ite_nf {A B : Prop} (h : A) : if (!false) = true then A else B := h
theorem and_le {n m : Nat} {A : Prop} (e : Nat.ble n m = true) (h : A) : n ≤ m ∧ A := ⟨Nat.le_of_ble_eq_true e, h⟩
theorem and_lt {n m : Nat} {A : Prop} (e : Nat.ble (n + 1) m = true) (h : A) : n < m ∧ A := ⟨Nat.le_of_ble_eq_true e, h⟩
theorem and_rfl {n m : Nat} {A : Prop} (e : n = m) (h : A) : n = m ∧ A := ⟨e, h⟩
end
/-! loops -/
theorem forP_i {gt : PGt} {body : PSt} {K : PK'} (Inv : Nat → List SV → Prop) : ∀ (ds : List D) (n : Nat) {env : List SV}, Inv n env →
    (∀ i d env, ds[i]? = some d → Inv (n + i) env → ∀ N : List SV → Prop, (∀ e, Inv (n + i + 1) e → N e) → gt d env fun env1 => body env1 { nx := N, rt := K.rt, bk := K.nx, ct := N }) →
    (∀ env, Inv (n + ds.length) env → K.nx env) → forP gt body ds env K
  | [], n, env, h0, _, hd => hd env (by simpa using h0)
  | d :: ds, n, env, h0, hs, hd => by
    unfold forP
    refine hs 0 d env rfl (by simpa using h0) _ fun e he => ?_
    exact forP_i Inv ds (n + 1) (by simpa using he) (fun i d' env' hi hI N hN => by
        refine hs (i + 1) d' env' hi (by rw [show n + (i + 1) = n + 1 + i by omega]; exact hI) N fun e h => hN e ?_
        rw [show n + 1 + i + 1 = n + (i + 1) + 1 by omega]; exact h) (fun env' h => hd env' (by rw [List.length_cons, show n + (ds.length + 1) = n + 1 + ds.length by omega]; exact h))
theorem lcP_i {pg : PGt} {pt : PTs'} {pe : PX} {env : List SV} {k : List D → Prop} (Inv : Nat → List D → Prop) : ∀ (ds : List D) (n : Nat) {acc : List D}, Inv n acc →
    (∀ i d acc, ds[i]? = some d → Inv (n + i) acc → acc.length ≤ 100000 ∧ ∀ (A : D → Prop) (B : Prop), (∀ r, Inv (n + i + 1) (acc ++ [r]) → A r) → (Inv (n + i + 1) acc → B) → pg d env fun env1 => pt env1 fun b => if b = true then pe env1 A else B) →
    (∀ acc, Inv (n + ds.length) acc → k acc) → lcP pg pt pe env ds acc k
  | [], n, acc, h0, _, hd => hd acc (by simpa using h0)
  | d :: ds, n, acc, h0, hs, hd => by
    unfold lcP
    have go : ∀ acc', Inv (n + 1) acc' → lcP pg pt pe env ds acc' k := fun acc' h => lcP_i Inv ds (n + 1) h (fun i d' acc'' hi hI => by
        have q := hs (i + 1) d' acc'' hi (by rw [show n + (i + 1) = n + 1 + i by omega]; exact hI)
        refine ⟨q.1, fun A B hA hB => q.2 A B (fun r h => hA r ?_) (fun h => hB ?_)⟩
        · rw [show n + 1 + i + 1 = n + (i + 1) + 1 by omega]; exact h
        · rw [show n + 1 + i + 1 = n + (i + 1) + 1 by omega]; exact h) (fun acc'' h => hd acc'' (by rw [List.length_cons, show n + (ds.length + 1) = n + 1 + ds.length by omega]; exact h))
    have q := hs 0 d acc rfl (by simpa using h0)
    exact q.2 _ _ (fun r h => ⟨q.1, go _ (by simpa using h)⟩) (fun h => go _ (by simpa using h))
theorem lcP_f {pg : PGt} {pt : PTs'} {pe : PX} {env : List SV} {k : List D → Prop} (f : D → Option D) : ∀ (ds : List D) {acc : List D}, acc.length + ds.length ≤ 100000 →
    (∀ d ∈ ds, ∀ (A : D → Prop) (B : Prop), (∀ r, f d = some r → A r) → (f d = none → B) → pg d env fun env1 => pt env1 fun b => if b = true then pe env1 A else B) →
    k (acc ++ ds.filterMap f) → lcP pg pt pe env ds acc k
  | [], acc, _, _, hk => by unfold lcP; simpa using hk
  | d :: ds, acc, hl, hs, hk => by
    unfold lcP
    have hl' : acc.length + (ds.length + 1) ≤ 100000 := by simpa using hl
    refine hs d List.mem_cons_self _ _ (fun r hr => ⟨by omega, ?_⟩) (fun hr => ?_)
    · refine lcP_f f ds (by rw [List.length_append, List.length_singleton]; omega) (fun d' h => hs d' (List.mem_cons_of_mem _ h)) ?_
      rw [List.filterMap_cons, hr] at hk
      simpa using hk
    · refine lcP_f f ds (by omega) (fun d' h => hs d' (List.mem_cons_of_mem _ h)) ?_
      rw [List.filterMap_cons, hr] at hk
      exact hk
/-- each item by a function -/
theorem lcP_m {α : Type} {pg : PGt} {pt : PTs'} {pe : PX} {env : List SV} {k : List D → Prop} (e : α → D) (f : α → D) (xs : List α) (hl : xs.length ≤ 100000)
    (hs : ∀ x ∈ xs, ∀ (A : D → Prop) (B : Prop), A (f x) → pg (e x) env fun env1 => pt env1 fun b => if b = true then pe env1 A else B) (hk : k (xs.map f)) : lcP pg pt pe env (xs.map e) [] k := by
  have go : ∀ (xs : List α) (acc : List D), acc.length + xs.length ≤ 100000 → (∀ x ∈ xs, ∀ (A : D → Prop) (B : Prop), A (f x) → pg (e x) env fun env1 => pt env1 fun b => if b = true then pe env1 A else B) → k (acc ++ xs.map f) → lcP pg pt pe env (xs.map e) acc k := by
    intro xs
    induction xs with
    | nil => intro acc _ _ hk; simp only [List.map_nil, lcP]; simpa using hk
    | cons x xs ih =>
      intro acc hl hs hk
      rw [List.map_cons]
      unfold lcP
      have hl' : acc.length + (xs.length + 1) ≤ 100000 := by simpa using hl
      refine hs x List.mem_cons_self _ _ ⟨by omega, ih _ (by rw [List.length_append, List.length_singleton]; omega) (fun y h => hs y (List.mem_cons_of_mem _ h)) (by simpa using hk)⟩
  exact go xs [] (by simpa using hl) hs (by simpa using hk)
/-- some of the items -/
theorem lcP_flt {α : Type} {pg : PGt} {pt : PTs'} {pe : PX} {env : List SV} {k : List D → Prop} (e : α → D) (c : α → Bool) (f : α → D) (xs : List α) (hl : xs.length ≤ 100000)
    (hs : ∀ x ∈ xs, ∀ (A : D → Prop) (B : Prop), (c x = true → A (f x)) → (c x = false → B) → pg (e x) env fun env1 => pt env1 fun b => if b = true then pe env1 A else B) (hk : k ((xs.filter c).map f)) : lcP pg pt pe env (xs.map e) [] k := by
  have go : ∀ (xs : List α) (acc : List D), acc.length + xs.length ≤ 100000 → (∀ x ∈ xs, ∀ (A : D → Prop) (B : Prop), (c x = true → A (f x)) → (c x = false → B) → pg (e x) env fun env1 => pt env1 fun b => if b = true then pe env1 A else B) → k (acc ++ (xs.filter c).map f) → lcP pg pt pe env (xs.map e) acc k := by
    intro xs
    induction xs with
    | nil => intro acc _ _ hk; simp only [List.map_nil, lcP]; simpa using hk
    | cons x xs ih =>
      intro acc hl hs hk
      rw [List.map_cons]
      unfold lcP
      have hl' : acc.length + (xs.length + 1) ≤ 100000 := by simpa using hl
      refine hs x List.mem_cons_self _ _ (fun hc => ⟨by omega, ih _ (by rw [List.length_append, List.length_singleton]; omega) (fun y h => hs y (List.mem_cons_of_mem _ h)) ?_⟩) (fun hc => ih _ (by omega) (fun y h => hs y (List.mem_cons_of_mem _ h)) ?_)
      · rw [List.filter_cons_of_pos hc] at hk; simpa using hk
      · rw [List.filter_cons_of_neg (by rw [hc]; exact Bool.false_ne_true)] at hk; exact hk
  exact go xs [] (by simpa using hl) hs (by simpa using hk)
theorem lcP_ma {α : Type} {pg : PGt} {pt : PTs'} {pe : PX} {env : List SV} {k : List D → Prop} (e : α → D) (f : α → D) : ∀ (xs : List α) (acc : List D), acc.length + xs.length ≤ 100000 →
    (∀ x ∈ xs, ∀ (A : D → Prop) (B : Prop), A (f x) → pg (e x) env fun env1 => pt env1 fun b => if b = true then pe env1 A else B) → k (acc ++ xs.map f) → lcP pg pt pe env (xs.map e) acc k
  | [], acc, _, _, hk => by simp only [List.map_nil, lcP]; simpa using hk
  | x :: xs, acc, hl, hs, hk => by
    rw [List.map_cons]
    unfold lcP
    have hl' : acc.length + (xs.length + 1) ≤ 100000 := by simpa using hl
    exact hs x List.mem_cons_self _ _ ⟨by omega, lcP_ma e f xs _ (by rw [List.length_append, List.length_singleton]; omega) (fun y h => hs y (List.mem_cons_of_mem _ h)) (by simpa using hk)⟩
theorem lcP2_m {α β : Type} {vs1 : List Nat} {pg : PGt} {pt : PTs'} {pi1 : PIt} {pg1 : PGt} {pt1 : PTs'} {pe : PX} {env : List SV} {k : List D → Prop} (e : α → D) (ys : List β) (f : α → β → D) (xs : List α) (hl : xs.length * ys.length ≤ 100000)
    (hs : ∀ x ∈ xs, ∀ (acc : List D) (A : List D → Prop) (B : Prop), acc.length + ys.length ≤ 100000 → A (acc ++ ys.map (f x)) → pg (e x) env fun env1 => pt env1 fun b => if b = true then pi1 env1 fun ds1 => noOwn env1 vs1 ∧ lcP pg1 pt1 pe (wipeE env1 vs1) ds1 acc A else B)
    (hk : k (xs.flatMap fun x => ys.map (f x))) : lcP2 vs1 pg pt pi1 pg1 pt1 pe env (xs.map e) [] k := by
  have go : ∀ (xs : List α) (acc : List D), acc.length + xs.length * ys.length ≤ 100000 → (∀ x ∈ xs, ∀ (acc : List D) (A : List D → Prop) (B : Prop), acc.length + ys.length ≤ 100000 → A (acc ++ ys.map (f x)) → pg (e x) env fun env1 => pt env1 fun b => if b = true then pi1 env1 fun ds1 => noOwn env1 vs1 ∧ lcP pg1 pt1 pe (wipeE env1 vs1) ds1 acc A else B) →
      k (acc ++ xs.flatMap fun x => ys.map (f x)) → lcP2 vs1 pg pt pi1 pg1 pt1 pe env (xs.map e) acc k := by
    intro xs
    induction xs with
    | nil => intro acc _ _ hk; simp only [List.map_nil, lcP2]; simpa using hk
    | cons x xs ih =>
      intro acc hl hs hk
      rw [List.map_cons]
      unfold lcP2
      have hl' : acc.length + (xs.length * ys.length + ys.length) ≤ 100000 := by rw [List.length_cons, Nat.succ_mul] at hl; exact hl
      refine hs x List.mem_cons_self acc _ _ (by omega) (ih _ (by rw [List.length_append, List.length_map]; omega) (fun y h => hs y (List.mem_cons_of_mem _ h)) ?_)
      rw [List.flatMap_cons] at hk
      rw [List.append_assoc]
      exact hk
  exact go xs [] (by simpa using hl) hs (by simpa using hk)
theorem eLc_i {vs : List Nat} {pi : PIt} {pg : PGt} {pt : PTs'} {pe : PX} {env : List SV} {k : D → Prop} (h : pi env fun ds => noOwn env vs ∧ lcP pg pt pe (wipeE env vs) ds [] fun r => k (.lst r)) : eLc vs pi pg pt pe env k := h
theorem eLc2_i {vs vs1 : List Nat} {pi : PIt} {pg : PGt} {pt : PTs'} {pi1 : PIt} {pg1 : PGt} {pt1 : PTs'} {pe : PX} {env : List SV} {k : D → Prop} (h : pi env fun ds => noOwn env vs ∧ lcP2 vs1 pg pt pi1 pg1 pt1 pe (wipeE env vs) ds [] fun r => k (.lst r)) : eLc2 vs vs1 pi pg pt pi1 pg1 pt1 pe env k := h
theorem maxI_snoc {xs : List Int} {x : Int} (h : xs ≠ []) : maxI (xs ++ [x]) = max (maxI xs) x := by
  symm
  apply maxI_eq
  · rcases Int.le_total (maxI xs) x with q | q
    · rw [Int.max_eq_right q]; simp
    · rw [Int.max_eq_left q]; exact List.mem_append_left _ (maxI_mem h)
  · intro y hy
    rcases List.mem_append.mp hy with q | q
    · exact Int.le_trans (maxI_le q) (Int.le_max_left ..)
    · rw [List.mem_singleton.mp q]; exact Int.le_max_right ..
theorem minI_snoc {xs : List Int} {x : Int} (h : xs ≠ []) : minI (xs ++ [x]) = min (minI xs) x := by
  symm
  apply minI_eq
  · rcases Int.le_total (minI xs) x with q | q
    · rw [Int.min_eq_left q]; exact List.mem_append_left _ (minI_mem h)
    · rw [Int.min_eq_right q]; simp
  · intro y hy
    rcases List.mem_append.mp hy with q | q
    · exact Int.le_trans (Int.min_le_left ..) (minI_le q)
    · rw [List.mem_singleton.mp q]; exact Int.min_le_right ..
theorem maxI_congr {xs ys : List Int} (h : ∀ x, x ∈ xs ↔ x ∈ ys) : maxI xs = maxI ys := by
  by_cases hx : xs = []
  · subst hx
    cases ys with
    | nil => rfl
    | cons y r => exact absurd ((h y).mpr List.mem_cons_self) (by simp)
  · exact maxI_eq ((h _).mp (maxI_mem hx)) fun y hy => maxI_le ((h y).mpr hy)
theorem minI_congr {xs ys : List Int} (h : ∀ x, x ∈ xs ↔ x ∈ ys) : minI xs = minI ys := by
  by_cases hx : xs = []
  · subst hx
    cases ys with
    | nil => rfl
    | cons y r => exact absurd ((h y).mpr List.mem_cons_self) (by simp)
  · exact minI_eq ((h _).mp (minI_mem hx)) fun y hy => minI_le ((h y).mpr hy)
end Pu

namespace Pu
open PySem PySem.Spec PyProof.Rows L2
variable [Tbs]
/-! ### defs whose last parameters have the default None -/
section
variable {P : Program} {w : World} {K : PySem.W.Frag} {mg : Str → Option Value} {base : Heap} {x qual : Str} {st : Stmt} {f : Addr} {fd : FuncData} {N ps : List Str} {k : Nat} {fr : Bool} {p : PSt} {dvs : List V}
abbrev FunN (K : PySem.W.Frag) (x qual : Str) (st : Stmt) (f : Addr) (fd : FuncData) : Prop := FunD K x qual (defArgs st) (defBody st) (defScope st) [.non] [] f fd
theorem fn_okD (F : FunD K x qual (defArgs st) (defBody st) (defScope st) dvs [] f fd) (S : FnScope N ps (defScope st))
    (hb : ∀ (cdv : Value) (A : Around) (outer : List Env) (s : Shared) (H : Hp) (E : XK), Room k (A.deeper (envOfC qual (defScope st) s.heap.objs.size f cdv)) → B fr (cxOf CX0 P w K mg base N qual (defScope st) f cdv A outer s H E).nox (defBody st) p) :
    FnOk P w K mg base CX0 (k + 1) f fd ps (Sf fr ps.length (wpOf fr N.length p)) := by
  refine F.ok S (fun vs H Q E h => ?_) (fun cdv A outer s H vs Q E hr h => ?_)
  · obtain ⟨z, X, ds, kk, hl, _⟩ := h
    exact hl
  · obtain ⟨z, X, ds, kk, hl, hz, hx, hA, hw, c⟩ := h
    obtain ⟨t, b1, b2⟩ := hb cdv A outer s H E hr
    refine ⟨t, b1.nox, b2 z X H H (L2.start N vs) _ _ { nx := fun _ => fr = false ∧ kk .non, rt := kk } (start_ok hz hx hA) ⟨fun env' σ' H' o' f' hk => ?_, fun d v H' e r fq hk => ?_, fun _ _ _ _ _ hk => hk.elim, fun _ _ _ _ _ hk => hk.elim, fun _ _ _ _ _ _ _ h => h.elim⟩ hw⟩
    · exact c .non .non H' o'.evo .non (fun q => by rw [hk.1] at q; cases q) hk.2
    · exact c d v H' e r fq hk
theorem fun_mkN {oc : Value} {od an : Option Addr} {osl : Array (Option Value)} {kV doc pm cdv ct : Value} {T : Addr} {oc2 : Value} {od2 : Option Addr} {m2 : Nat} {osl2 : Array (Option Value)}
    (l : K.lookup f = some ⟨oc, od, .func (PySem.W.fnOf x qual (defArgs st) (defBody st) (defScope st) (.ref T) kV doc pm an cdv ct), osl⟩)
    (c : PySem.W.codeIn K cdv qual = true) (k : PySem.W.keepIn K (.ref f) = true) (lT : K.lookup T = some ⟨oc2, od2, .seq [Value.none].toArray m2, osl2⟩) :
    FunN K x qual st f (PySem.W.fnOf x qual (defArgs st) (defBody st) (defScope st) (.ref T) kV doc pm an cdv ct) :=
  ⟨⟨oc, od, _, kV, doc, pm, an, cdv, ct, osl, rfl, l, c, .inr ⟨List.cons_ne_nil _ _, T, _, [Value.none], m2, rfl, lT, rfl, .cons rfl .nil⟩, .inl rfl⟩, k⟩
end
section
variable {C : Cx} {e : Expr} {es : List Expr} {p : PX} {ga : PAs} {m mo : Mode} {fr : Bool} {k n : Nat} {pos pp : Pos} {x : Str} {f : Addr} {fd : FuncData} {ps : List Str} {wp : List D → (D → Prop) → Prop}
theorem isa_non {z : Zn} {M : AP} {H : Hp} : IsA z M H [V.non] [D.non] := .cons .non .nil
theorem re_callD {t : TA} (h : RA true t ga) (E' : XK) (hm : mo = .e ∨ (mo = .f ∧ fr = true)) : RE mo (tCall (Sf fr (n + 1) wp) [.non] E' t) (eCall (fun ds k => ds.length = n ∧ wp (ds ++ [.non]) k) ga) := fun z X H0 H σ env Q k o c hp => by
  refine h z X H0 H σ env _ _ o (fun ds vs H1 e1 r1 hx => ?_) hp
  have o1 := o.go e1
  rw [if_pos rfl] at r1
  refine ⟨z, Ox X σ env, ds ++ [.non], k, by rw [List.length_append, r1.length, hx.1]; rfl, ⟨o1.zal, o1.tab⟩, fun a => o1.ox, (r1.weak fun a q => zx_ox.mp q).append isa_non, hx.2, fun d v H2 e2 r2 fq kd => ?_⟩
  refine c d v H2 (e1.trans e2) ?_ kd
  rcases hm with rfl | ⟨rfl, hf⟩
  · exact Is.weak (fun a q => zx_ox.mpr q) r2
  · obtain ⟨a, ev, ha, hc⟩ := fq hf
    refine ⟨a, ev, e1.fresh ha, hc.gen (fun _ q => q) (fun b u q n => ⟨q, fun y => n ?_⟩) fun _ h => h⟩
    rcases y with y | (y | y) | y
    · exact .inl y
    · exact .inr (.inl (.inl y))
    · exact .inr (.inr y)
    · exact .inr (.inl (.inr y))
theorem re_callBD {t : TA} (h : RA false t ga) (E' : XK) : RE .b (tCall (Sf fr (n + 1) wp) [.non] E' t) (eCall (fun ds k => ds.length = n ∧ wp (ds ++ [.non]) k) ga) := fun z X H0 H σ env Q k o c hp => by
  refine h z X H0 H σ env _ _ o (fun ds vs H1 e1 r1 hx => ?_) hp
  have o1 := o.go e1
  rw [if_neg Bool.false_ne_true] at r1
  exact ⟨z, X, ds ++ [.non], k, by rw [List.length_append, r1.length, hx.1]; rfl, ⟨o1.zal, o1.tab⟩, o1.xal, r1.append isa_non, hx.2, fun d v H2 e2 r2 fq kd => c d v H2 (e1.trans e2) r2 kd⟩
theorem e_callD (F : FnOk C.prog C.w C.K C.mg C.base CX0 k f fd ps (Sf fr (n + 1) wp)) (hr : Room k C.A) (hg : Gl C x) (hm : C.mg x = some (.ref f)) (hk : PySem.W.keepIn C.K (.ref f) = true) (hb : Binds C.K fd ps [.none])
    (ha : A true C (e :: es) ga) (hmo : mo = .e ∨ (mo = .f ∧ fr = true)) (hdb : (x == ("__debug__" : Str)) = false := by decide) (he : starEach (e :: es) C.env = (false, eval e C.env) :: starEach es C.env := by rfl) (hpl : (backTo pos (starEach es C.env)).any (·.1) = false := by rfl) :
    E mo C (.Call (.Name x pp) (e :: es) [] pos) (eCall (fun ds k => ds.length = n ∧ wp (ds ++ [.non]) k) ga) := by
  obtain ⟨t, h1, h2⟩ := ha
  exact ⟨_, pe_call (dvs := [.non]) F hr hg hm hk hb (.cons rfl .nil) pass0 h1 hdb he hpl, re_callD h2 E0 hmo⟩
theorem e_callLD (F : FnOk C.prog C.w C.K C.mg C.base CX0 k f fd ps (Sf fr (n + 1) wp)) (hr : Room k C.A) (hg : Gl C x) (hm : C.mg x = some (.ref f)) (hk : PySem.W.keepIn C.K (.ref f) = true) (hb : Binds C.K fd ps [.none])
    (ha : A false C (e :: es) ga) (hdb : (x == ("__debug__" : Str)) = false := by decide) (he : starEach (e :: es) C.env = (false, eval e C.env) :: starEach es C.env := by rfl) (hpl : (backTo pos (starEach es C.env)).any (·.1) = false := by rfl) :
    E .b C (.Call (.Name x pp) (e :: es) [] pos) (eCall (fun ds k => ds.length = n ∧ wp (ds ++ [.non]) k) ga) := by
  obtain ⟨t, h1, h2⟩ := ha
  exact ⟨_, pe_call (dvs := [.non]) F hr hg hm hk hb (.cons rfl .nil) pass0 h1 hdb he hpl, re_callBD h2 E0⟩
end
/-- the two ways to bind: all given, all but the last -/
theorem vals_none {ds : List Value} (h : Vals [V.non] ds) : ds = [.none] := by
  cases h with
  | cons a b =>
    cases b
    exact congrArg (fun x => [x]) a
theorem vals_nil {ds : List Value} (h : Vals [] ds) : ds = [] := by cases h; rfl
theorem bindsN1 {K : PySem.W.Frag} {x qual : Str} {st : Stmt} {f : Addr} {fd : FuncData} {ps : List Str} (F : FunN K x qual st f fd) (n : Nat) (hn : n + 1 = ps.length)
    (h : ∀ (T : Addr) (kV doc pm : Value) (an : Option Addr) (cdv ct : Value) (us its : List Value), us.length = n → its.length = 1 →
      ∃ k, bindArgs (PySem.W.fnOf x qual (defArgs st) (defBody st) (defScope st) (.ref T) kV doc pm an cdv ct) ⟨us, []⟩ = seqItems? (.ref T) >>= k ∧ k (some its.toArray) = pure (ps.zip (us ++ its.drop 0))) : Binds K fd ps [.none] := by
  obtain ⟨ds, v, b⟩ := FunD.binds1 F n 0 (List.cons_ne_nil _ _) hn h
  rw [vals_none v] at b
  exact b
theorem bindsN0 {K : PySem.W.Frag} {x qual : Str} {st : Stmt} {f : Addr} {fd : FuncData} {ps : List Str} (F : FunN K x qual st f fd) (n : Nat) (hn : n + 0 = ps.length)
    (h : ∀ (T : Addr) (kV doc pm : Value) (an : Option Addr) (cdv ct : Value) (us its : List Value), us.length = n → its.length = 1 →
      ∃ k, bindArgs (PySem.W.fnOf x qual (defArgs st) (defBody st) (defScope st) (.ref T) kV doc pm an cdv ct) ⟨us, []⟩ = seqItems? (.ref T) >>= k ∧ k (some its.toArray) = pure (ps.zip (us ++ its.drop 1))) : Binds K fd ps [] := by
  obtain ⟨ds, v, b⟩ := FunD.binds1 F n 1 (List.cons_ne_nil _ _) hn h
  rw [vals_nil v] at b
  exact b
end Pu

namespace Pu
open PySem PySem.Spec PyProof.Rows L2
variable [Tbs]
/-! zip of a tuple and a list -/
def ItMx (K : PySem.W.Frag) (a b : Addr) : It where
  go := fun i H => ∃ (xs ys : List V) (x y : V), (SqT K H a xs ∧ SqL K H b ys) ∧ xs[i]? = some x ∧ ys[i]? = some y
  yld := fun i H v H' => ∃ T x y, v = .ref T ∧ H T = none ∧ H' = upd H T (.tup [x, y]) ∧ (∀ l, SqT K H a l → l[i]? = some x) ∧ ∀ l, SqL K H b l → l[i]? = some y
  stop := fun i H => ∃ xs ys : List V, (SqT K H a xs ∧ SqL K H b ys) ∧ i = min xs.length ys.length
def tnMx (z TI TO i1 i2 a b : Addr) (i : Nat) (h : Heap) : Prop :=
  (IsZip h z TI TO .none ∧ IsTupOf2 h TI (.ref i1) (.ref i2) ∧ ∃ x y, IsTupOf2 h TO x y) ∧ h.IsTupleIter i1 a i ∧ h.IsListIter i2 b i
theorem mem5 {c z TI TO i1 i2 : Addr} (h : c ∈ [z, TI, TO, i1, i2]) : c = z ∨ c = TI ∨ c = TO ∨ c = i1 ∨ c = i2 := by simpa using h
theorem out5 {c z TI TO i1 i2 : Addr} (h : c ∉ [z, TI, TO, i1, i2]) : c ≠ z ∧ c ≠ TI ∧ c ≠ TO ∧ c ≠ i1 ∧ c ≠ i2 := by simpa using h
theorem live5 {z TI TO i1 i2 a b : Addr} {i : Nat} {h : Heap} (st : tnMx z TI TO i1 i2 a b i h) {c : Addr} (hc : c ∈ [z, TI, TO, i1, i2]) : ∃ o, h.get? c = some o ∧ ∀ v, o.data ≠ .cell v := by
  obtain ⟨⟨hz, hTI, x, y, hTO⟩, ⟨o1, e1, q1, d1⟩, o2, e2, q2, d2⟩ := st
  rcases mem5 hc with rfl | rfl | rfl | rfl | rfl
  · exact ⟨_, hz, fun v q => nomatch q⟩
  · exact ⟨_, hTI, fun v q => nomatch q⟩
  · exact ⟨_, hTO, fun v q => nomatch q⟩
  · exact ⟨o1, e1, fun v q => by rw [d1] at q; cases q⟩
  · exact ⟨o2, e2, fun v q => by rw [d2] at q; cases q⟩
theorem turn_mx {P : Program} {w : World} {K : PySem.W.Frag} {elts : List Expr} {kk : Nat} {tpos : Pos} {a b z TI TO i1 i2 : Addr} (S : ZipSep2 z TI TO i1 i2 [i1, a] [i2, b]) :
    Turn P w K (.Tuple elts kk tpos) (ItMx K a b) [z, TI, TO, i1, i2] z (tnMx z TI TO i1 i2 a b) := by
  have nea : a ≠ i1 ∨ True := .inr trivial
  refine ⟨by simp, fun i h st c hc => live5 st hc, fun i h h' st k => ?_, ?_, ?_, fun A i s Q E st h => wpAny_pyIter_zip st.1.1 h⟩
  · obtain ⟨⟨hz, hTI, x, y, hTO⟩, h1, h2⟩ := st
    exact ⟨⟨k z (by simp) _ hz, k TI (by simp) _ hTI, x, y, k TO (by simp) _ hTO⟩, h1.at fun o q => k i1 (by simp) o q, h2.at fun o q => k i2 (by simp) o q⟩
  · intro X hP hw hK hc i pins s σ H E I hf st hg
    have lv : ∀ c, c ∈ [z, TI, TO, i1, i2] → c < s.heap.objs.size := fun c hcm => by
      obtain ⟨o, ho, _⟩ := live5 st hcm
      exact Heap.lt_size ho
    obtain ⟨⟨hz, hTI, x0, y0, hTO⟩, h1, h2⟩ := st
    obtain ⟨xs, ys, x, y, ⟨hqx, hqy⟩, hx, hy⟩ := hg
    subst hP hw hK
    obtain ⟨its, rv, p, _⟩ := I.tuple hqx
    obtain ⟨its2, rv2, p2, _⟩ := I.list hqy
    obtain ⟨u, hu, ru⟩ := rv.get hx
    obtain ⟨u2, hu2, ru2⟩ := rv2.get hy
    have na : a ≠ i1 := fun q => by
      obtain ⟨o, ho, hcl, _⟩ := id p
      obtain ⟨o1, ho1, hcl1, _⟩ := id h1
      rw [q, ho1] at ho
      cases ho
      rw [hcl] at hcl1
      injection hcl1 with e
      exact absurd e (by decide)
    have nb : b ≠ i2 := fun q => by
      obtain ⟨o, n, ho, hcl, _⟩ := id p2
      obtain ⟨o1, ho1, hcl1, _⟩ := id h2
      rw [q, ho1] at ho
      cases ho
      rw [hcl] at hcl1
      injection hcl1 with e
      exact absurd e (by decide)
    have hd : X.A.in1.handled = none := I.ok.hd hc
    refine wpAny_pyNext_zipD2_item S (Draws.tuple hd i1 a na its.toArray) (Draws.list hd i2 b nb its2.toArray) hz hTI hTO ⟨h1, p⟩ ⟨h2, p2.isList⟩ ?_ ?_ fun x1 x2 h' tk y1 y2 z' TO' d1 d2 hT hsz hk => ?_
    · obtain ⟨q, _⟩ := List.getElem?_eq_some_iff.mp hu
      simpa using q
    · obtain ⟨q, _⟩ := List.getElem?_eq_some_iff.mp hu2
      simpa using q
    · have e1 : x1 = u := by
        have q : its[i]? = some x1 := by simpa using y1
        rw [hu] at q
        cases q
        rfl
      have e2 : x2 = u2 := by
        have q : its2[i]? = some x2 := by simpa using y2
        rw [hu2] at q
        cases q
        rfl
      subst e1 e2
      have hzl := lv z (by simp)
      refine ⟨_, rfl, wpAny_letOwnedTupleGo_zip (s := { s with heap := h', toks := tk }) z' fun h'' z'' sb => ?_⟩
      have ob : h''.get? s.heap.objs.size = some { cls := .type "tuple", data := .seq #[x1, x2] } := (sb.2 _ (Nat.ne_of_gt hzl)).trans hT
      have J : Inv X pins σ (upd H s.heap.objs.size (.tup [x, y])) { s with heap := h'', toks := tk } := by
        refine I.turnedNew (ch := [z, TI, TO, i1, i2]) (fun c o hb q => ?_) hf (Nat.le_refl _) ⟨by show 2 ≤ sizeLine; decide, [x1, x2], .cons ru (.cons ru2 .nil), ⟨_, ob, rfl, _, rfl⟩⟩
        obtain ⟨n1, n2, n3, n4, n5⟩ := out5 hb
        exact (sb.2 c n1).trans (hk c o n1 n3 n4 n5 q)
      refine ⟨.ref s.heap.objs.size, _, J, rfl, ⟨_, x, y, rfl, I.hok.fresh (Nat.le_refl _), rfl, fun l hl => by rw [I.tuple_inj hl hqx]; exact hx, fun l hl => by rw [I.list_inj hl hqy]; exact hy⟩, ⟨⟨z'', ?_, x1, x2, ?_⟩, ?_, ?_⟩, fun c hcm => ?_⟩
      · exact (sb.2 _ S.TIz).trans (hk _ _ S.TIz S.TITO S.TIi1 S.TIi2 hTI)
      · exact (sb.2 _ S.TOz).trans TO'
      · exact d1.1.at fun o q => (sb.2 _ S.zi1.symm).trans q
      · exact d2.1.at fun o q => (sb.2 _ S.zi2.symm).trans q
      · rw [upd_ne (Nat.ne_of_lt (lv c hcm))]
        exact (hf c hcm).1
  · intro X hP hw hK hc i pins s σ H E I hf st hg
    obtain ⟨⟨hz, hTI, x0, y0, hTO⟩, h1, h2⟩ := st
    obtain ⟨xs, ys, ⟨hqx, hqy⟩, rfl⟩ := hg
    subst hP hw hK
    obtain ⟨its, rv, p, _⟩ := I.tuple hqx
    obtain ⟨its2, rv2, p2, _⟩ := I.list hqy
    have l1 := rv.length
    have l2 := rv2.length
    have na : a ≠ i1 := fun q => by
      obtain ⟨o, ho, hcl, _⟩ := id p
      obtain ⟨o1, ho1, hcl1, _⟩ := id h1
      rw [q, ho1] at ho
      cases ho
      rw [hcl] at hcl1
      injection hcl1 with e
      exact absurd e (by decide)
    have nb : b ≠ i2 := fun q => by
      obtain ⟨o, n, ho, hcl, _⟩ := id p2
      obtain ⟨o1, ho1, hcl1, _⟩ := id h2
      rw [q, ho1] at ho
      cases ho
      rw [hcl] at hcl1
      injection hcl1 with e
      exact absurd e (by decide)
    have hd : X.A.in1.handled = none := I.ok.hd hc
    refine wpAny_pyNext_zipD2_end S (Draws.tuple hd i1 a na its.toArray) (Draws.list hd i2 b nb its2.toArray) hz hTI hTO ⟨h1, p⟩ ⟨h2, p2.isList⟩ ?_ ?_ ?_ fun h' tk hk => ⟨rfl, I.turnedL (ch := [z, TI, TO, i1, i2]) (fun c o hb q => ?_) hf⟩
    · simp; omega
    · simp; omega
    · simp; omega
    · obtain ⟨n1, n2, n3, n4, n5⟩ := out5 hb
      exact hk c o n1 n3 n4 n5 q
def iZipX (K : PySem.W.Frag) (ta : TA) : TI := fun σ H R => ta σ H fun vs H1 => ∃ a b xs ys, vs = [.ref a, .ref b] ∧ ((SqL K H1 a xs ∧ SqL K H1 b ys ∧ R (Itz K a b) H1) ∨ (SqT K H1 a xs ∧ SqL K H1 b ys ∧ R (ItMx K a b) H1))
theorem pi_zipX {X : Cx} {e e2 : Expr} {ta : TA} {p pos tpos : Pos} {elts : List Expr} {kk : Nat} (hg : Gl X "zip") (hm : X.mg "zip" = none) (ha : PA X [e, e2] ta)
    (hs : starEach [e, e2] X.env = (false, eval e X.env) :: starEach [e2] X.env) (hpl : (backTo pos (starEach [e2] X.env)).any (·.1) = false) :
    PI X (.Tuple elts kk tpos) (.Call (.Name "zip" p) [e, e2] [] pos) (iZipX X.K ta) := by
  refine ⟨fun pins s σ H R I h => ?_⟩
  refine Call_ (ld_blt I hg hm boot_zip (callWith_type1 (thn (ha.run pos pins s σ H _ I h) fun us s1 ⟨vs, H1, I1, r1, q1⟩ => ?_) hs hpl))
  obtain ⟨a, b, xs, ys, ex, q1⟩ := q1
  subst ex
  cases r1 with
  | cons r rr =>
    cases rr with
    | cons r' rr =>
      cases rr
      cases r
      cases r'
      have nw : ∀ c, c ∈ [s1.heap.objs.size + 4, s1.heap.objs.size + 2, s1.heap.objs.size + 3, s1.heap.objs.size, s1.heap.objs.size + 1] → FpOk X pins H1 c := fun c hcm => by
        have hle : s1.heap.objs.size ≤ c := by
          rcases mem5 hcm with q | q | q | q | q <;> rw [q] <;> first | exact Nat.le_add_right _ _ | exact Nat.le_refl _
        exact I1.fpOk hle (I1.hok.fresh hle)
      rcases q1 with ⟨hqx, hqy, q⟩ | ⟨hqx, hqy, q⟩
      · obtain ⟨its, rv, p1, _⟩ := I1.list hqx
        obtain ⟨its2, rv2, p2, _⟩ := I1.list hqy
        refine call_zip_2 p1.isList p2.isList fun h' hz hTI hTO h1 h2 hsz hk => wpAny_pyIter_zip hz ?_
        exact ⟨_, _, _, _, H1, rfl, I1.kept (t' := s1.toks) hk, turn_zip (PySem.W.ktu_apart s1.heap.objs.size a b p1.lt p2.lt), ⟨hz, hTI, ⟨_, _, hTO⟩, h1, h2⟩, nw, q⟩
      · obtain ⟨its, rv, p1, _⟩ := I1.tuple hqx
        obtain ⟨its2, rv2, p2, _⟩ := I1.list hqy
        have la : a < s1.heap.objs.size := by
          obtain ⟨o1, ho1, _⟩ := id p1
          exact Heap.lt_size ho1
        have lb : b < s1.heap.objs.size := p2.lt
        refine zip_begins2 (begins_tuple a its.toArray) (begins_list b its2.toArray) p1 p2.isList fun h' hz hTI hTO h1 h2 hsz hk => wpAny_pyIter_zip hz ?_
        refine ⟨_, _, _, _, H1, rfl, I1.kept (t' := s1.toks) hk, turn_mx (zip_sep2 (fp1 := [a]) (fp2 := [b]) ?_ ?_), ⟨⟨hz, hTI, _, _, hTO⟩, ⟨_, h1, rfl, rfl⟩, _, h2, rfl, rfl⟩, nw, q⟩
        · intro c hcm; rw [List.mem_singleton.mp hcm]; exact la
        · intro c hcm; rw [List.mem_singleton.mp hcm]; exact lb
theorem yl_zipX {z : Zn} {X : AP} {M : AP} {H : Hp} {K : PySem.W.Frag} {a b : Addr} {vs us : List V} {ds es : List D} (h : H a = some (.tup vs)) (n : ¬ M a) (r : IsA z M H vs ds) (h2 : H b = some (.lst us)) (n2 : ¬ M b) (r2 : IsA z M H us es) : Yields z X M H (ItMx K a b) (zipD ds es) := fun M' H' f => by
  have h' := (f.old a _ h n).1
  have r' := f.isA r
  have h2' := (f.old b _ h2 n2).1
  have r2' := f.isA r2
  have hl := r'.length
  have hl2 := r2'.length
  refine ⟨⟨vs, us, ⟨SqT.of h', SqL.of h2'⟩, by rw [hl, hl2, zipD_len]⟩, fun i d hd => ?_⟩
  obtain ⟨x, y, hx, hy, rfl⟩ := zipD_get hd
  obtain ⟨v, q1, q2⟩ := r'.get hx
  obtain ⟨u, p1, p2⟩ := r2'.get hy
  refine ⟨⟨vs, us, v, u, ⟨SqT.of h', SqL.of h2'⟩, q1, p1⟩, fun w H2 yy => ?_⟩
  obtain ⟨T, x', y', rfl, hT, rfl, hx', hy'⟩ := yy
  have e := hx' vs (SqT.of h')
  rw [q1] at e
  cases e
  have e := hy' us (SqL.of h2')
  rw [p1] at e
  cases e
  exact ⟨(Evo.refl _ _).new hT, fun _ fm => pair2_is hT (fm T hT) q2 p2⟩
def zipKX (d e : D) (k : List D → Prop) : Prop := match d, e with
  | .lst xs, .lst ys => k (zipD xs ys)
  | .tup xs, .lst ys => k (zipD xs ys)
  | _, _ => False
def iZipPX (p q : PX) : PIt := fun env k => p env fun d => q env fun e => zipKX d e k
theorem i_zipX {C : Cx} {e e2 : Expr} {p q : PX} {tpos pp pos : Pos} {elts : List Expr} {kk : Nat} (h : E .e C e p) (g : E .e C e2 q) (hg : Gl C "zip") (hm : C.mg "zip" = none) (hs : starEach [e, e2] C.env = (false, eval e C.env) :: starEach [e2] C.env := by rfl) (hs2 : starEach [e2] C.env = (false, eval e2 C.env) :: starEach [] C.env := by rfl)
    (hpl : (backTo pos (starEach [e2] C.env)).any (·.1) = false := by rfl) : I C (.Tuple elts kk tpos) (.Call (.Name "zip" pp) [e, e2] [] pos) (iZipPX p q) := by
  obtain ⟨t, h1, h2⟩ := h
  obtain ⟨u, g1, g2⟩ := g
  refine ⟨_, pi_zipX hg hm (pa_cons h1 (pa_cons g1 pa_nil hs2) hs) hs hpl, fun z X H0 H σ env R k o c hp => h2 z X H0 H σ env _ _ o (fun d v H1 e1 r1 hx => g2 z X H0 H1 σ env _ _ (o.go e1) (fun d2 v2 H2 e2 r2 hy => ?_) hx) hp⟩
  have r1' : Is z (Ms z X σ env) H2 v d := Is.evo (fun _ q => .inl q) e2 r1
  cases r1' with
  | lst a1 n1 b1 =>
    cases (show Is z (Ms z X σ env) H2 v2 d2 from r2) with
    | lst a2 n2 b2 => exact ⟨_, _, _, _, rfl, .inl ⟨SqL.of a1, SqL.of a2, c _ _ H2 (e1.trans e2) (yl_zipL a1 n1 b1 a2 n2 b2) hy⟩⟩
    | _ => exact (show False from hy).elim
  | tup a1 n1 b1 =>
    cases (show Is z (Ms z X σ env) H2 v2 d2 from r2) with
    | lst a2 n2 b2 => exact ⟨_, _, _, _, rfl, .inr ⟨SqT.of a1, SqL.of a2, c _ _ H2 (e1.trans e2) (yl_zipX a1 n1 b1 a2 n2 b2) hy⟩⟩
    | _ => exact (show False from hy).elim
  | _ => exact (show False from hy).elim
theorem iZipPX_i {p q : PX} {env : List SV} {k : List D → Prop} (h : p env fun d => q env fun e => zipKX d e k) : iZipPX p q env k := h
theorem zipKX_t {xs ys : List D} {k : List D → Prop} (h : k (zipD xs ys)) : zipKX (.tup xs) (.lst ys) k := h
theorem zipKX_l {xs ys : List D} {k : List D → Prop} (h : k (zipD xs ys)) : zipKX (.lst xs) (.lst ys) k := h
end Pu

namespace Pu
open PySem PySem.Spec PyProof.Rows L2
variable [Tbs]
/-! a comprehension whose elements are popped from a list of the def's own -/
def RMK (t : TE) (p : PMX) : Prop := ∀ (z : Zn) (X : AP) (H0 H : Hp) (σ : Sl) (env : List SV) (Q : VK) (k : List SV → D → Prop), Ok z X H0 H σ env → (∀ d v H' env', Ok z X H0 H' σ env' → Fr z X (Ms z X σ env) H (Ms z X σ env') H' → (∀ b, X b → H' b = H b) → Is z (Ms z X σ env') H' v d → k env' d → Q v H') → p env k → t σ H Q
structure MK (C : Cx) (e : Expr) (p : PMX) : Prop where
  ex : ∃ t, PE C e t ∧ RMK t p
theorem mk_pop {C : Cx} {e : Expr} {p : PX} {m : Mode} {pp : Pos} (i : Nat) {x : Str} {apos cpos : Pos} (h : E m C e p)
    (hb : ∀ to te, PE C (.Name x pp) to → PE C e te → PE C (.Call (.Attribute (.Name x pp) "pop" apos) [e] [] cpos) (tBM C.K "list" rPopAt to (tCons te tNil)))
    (hN : C.N[i]? = some x := by rfl) (hv : Vis C.env.scope x := by first | exact Or.inl rfl | exact Or.inr (Or.inl rfl) | exact Or.inr (Or.inr rfl)) (hd : (x == ("__debug__" : Str)) = false := by decide)
    (hcd : (x == ("__classdict__" : Str)) = false := by decide) : MK C (.Call (.Attribute (.Name x pp) "pop" apos) [e] [] cpos) (mPop i p) := by
  obtain ⟨t, h1, h2⟩ := h.toB
  refine ⟨_, hb _ _ (pe_var hN hv hd hcd) h1, fun z X H0 H σ env Q k o c hp => ?_⟩
  unfold mPop at hp
  split at hp
  · rename_i xs he
    obtain ⟨a, q1, ⟨vs, q5, q6⟩, q3, q4, q7⟩ := o.own i _ he
    refine ⟨_, q1, .inl ⟨rfl, vs, SqL.of q5⟩, h2 z X H0 H σ env _ _ o (fun d v H1 e1 r1 hx => ?_) hp⟩
    cases d with
    | int n =>
      cases Is.intI r1
      obtain ⟨hn, jj, yy, g1, g2, hk⟩ := hx
      have o1 := o.go e1
      have q5' := e1.old a _ q5 q3
      have q6' := IsA.evo (fun _ q => .inl q) e1 q6
      obtain ⟨w, w1, w2⟩ := q6'.get g2
      refine ⟨a, vs, n, jj, w, rfl, rfl, q5', by omega, by omega, by rw [q6.length]; exact g1, w1, ?_⟩
      obtain ⟨o2, f2⟩ := mutL o1 he q1 q3 (q6'.eraseIdx jj)
      refine c _ _ _ _ o2 ((o.fr e1).trans f2) (fun b hb => ?_) (f2.is w2) hk
      rw [upd_ne (fun q => q4 (by rw [← q]; exact hb))]
      cases hv : H b with
      | none => exact absurd hv (o.xal b hb).1
      | some u => exact e1.old b u hv (o.xal b hb).2
    | _ => exact (show False from hx).elim
  · exact hp.elim
/-- what is locked may be written -/
theorem Ok.mutX {z : Zn} {X : AP} {H0 H : Hp} {σ : Sl} {env : List SV} (o : Ok z X H0 H σ env) {a : Addr} {u : HO} (ha : X a) (h0 : H0 a = none) : Ok z X H0 (upd H a u) σ env ∧ Fr z X (Ms z X σ env) H (Ms z X σ env) (upd H a u) := by
  have hz : ¬ z.Z a := (o.xal a ha).2
  have al : ∀ b, H b ≠ none → upd H a u b ≠ none := fun b hb => by
    by_cases e : b = a
    · rw [e, upd_same]; intro q; cases q
    · rw [upd_ne e]; exact hb
  have old : ∀ b v, H b = some v → ¬ Ms z X σ env b → upd H a u b = some v ∧ ¬ Ms z X σ env b := fun b v hb n => ⟨by rw [upd_ne (fun e => n (by rw [e]; exact .inr (.inl ha)))]; exact hb, n⟩
  have dk : ∀ b, z.ok H b → z.ok (upd H a u) b := fun b hb => ok_mut hz hb
  refine ⟨⟨o.len, o.evo.mut h0 hz, fun b hb => al b (o.zal b hb), fun b hb => ⟨al b (o.xal b hb).1, (o.xal b hb).2⟩, fun i d h => ?_, fun i d h => ?_, o.inj, o.tab.mut hz⟩, ⟨old, dk, al⟩⟩
  · obtain ⟨v, h1, h2⟩ := o.val i d h
    exact ⟨v, h1, h2.gen old dk⟩
  · obtain ⟨b, h1, h2, h3, h4, h5⟩ := o.own i d h
    refine ⟨b, h1, h2.gen (fun v q => ?_) old dk, h3, h4, h5⟩
    rw [upd_ne (fun e => h4 (by rw [e]; exact ha))]
    exact q
def lcM (vs : List Nat) (pg : PGt) (pm : PMX) : List SV → List D → List D → (List SV → List D → Prop) → Prop
  | env, [], acc, k => k env acc
  | env, d :: ds, acc, k => pg d env fun env1 => pm env1 fun env2 y => acc.length ≤ 100000 ∧ lcM vs pg pm (wipeE env2 vs) ds (acc ++ [y]) k
def mLc (vs : List Nat) (pi : PIt) (pg : PGt) (pm : PMX) : PMX := fun env k => pi env fun ds => noOwn env vs ∧ lcM vs pg pm (wipeE env vs) ds [] fun env' r => k env' (.lst r)
theorem re_lcM {wi : TI} {pi : PIt} {js vs : List Nat} {g : TG} {pg : PGt} {tt : TT} {te : TE} {pm : PMX} (hi : RI wi pi) (hg : RG js g pg) (hj : ∀ i ∈ js, i ∈ vs) (ht : RT tt fun _ k => k true) (he : RMK te pm) : RMX (tLc wi g tt te vs) (mLc vs pi pg pm) := fun z X H0 H σ env Q k o c hp => by
  refine hi z X H0 H σ env _ _ o (fun ds J H1 e1 yl hx => ?_) hp
  obtain ⟨hn, hx⟩ := hx
  have o1 := o.go e1
  intro Da hD
  have hzD : ¬ z.Z Da := fun q => o1.zal Da q hD
  have h0D : H0 Da = none := o1.evo.fresh hD
  have ms2 : ∀ {σ' : Sl} {env' : List SV} (b : Addr), Ms z (X.or Da) σ' env' b → Ms z X σ' env' b ∨ b = Da := fun b h => by
    rcases h with h | (h | h) | h
    · exact .inl (.inl h)
    · exact .inl (.inr (.inl h))
    · exact .inr h
    · exact .inl (.inr (.inr h))
  have ms3 : ∀ {σ' : Sl} {env' : List SV} (b : Addr), Ms z X σ' env' b → Ms z (X.or Da) σ' env' b := fun b h => by
    rcases h with h | h | h
    · exact .inl h
    · exact .inr (.inl (.inl h))
    · exact .inr (.inr h)
  have ev0 : Evo z H1 (upd H1 Da (.lst [])) := (Evo.refl _ _).new hD
  obtain ⟨ow0, sub0⟩ := (o1.lock hD ev0 (by rw [upd_same]; intro q; cases q)).wipe (vs := vs)
  refine ⟨fun i mm H' => mm = ds.length - i ∧ i ≤ ds.length ∧ ∃ envw accV accD, Ok z (X.or Da) H0 H' (L2.wipe σ vs) envw ∧ (∀ j ∈ vs, envw[j]? = none ∨ envw[j]? = some .no) ∧ Fr z X (Ms z X σ env) H1 (Ms z (X.or Da) (L2.wipe σ vs) envw) H' ∧ H' Da = some (.lst accV) ∧ IsA z (Ms z (X.or Da) (L2.wipe σ vs) envw) H' accV accD ∧ lcM vs pg pm envw (ds.drop i) accD fun e r => k e (.lst r),
    ⟨ds.length, by simp, Nat.zero_le _, wipeE env vs, [], [], ow0, fun j hj' => wipeE_in hj', ⟨fun a u q n => ⟨ev0.old a u q fun y => n (.inl y), fun y => (ms2 a (sub0 a y)).elim n (ne_of_none q hD)⟩, ev0.dk, ev0.al⟩, upd_same, .nil, by simpa using hx⟩, ?_⟩
  rintro i mm H' ⟨rfl, hil, envw, accV, accD, oL, hwp, fr, hacc, hA, hk⟩
  obtain ⟨y1, y2⟩ := yl _ _ fr
  by_cases hlt : i < ds.length
  · obtain ⟨go, y3⟩ := y2 i ds[i] (List.getElem?_eq_getElem hlt)
    rw [List.drop_eq_getElem_cons hlt] at hk
    refine .inr ⟨go, fun H2 => ∃ envw accV accD, Ok z (X.or Da) H0 H2 (L2.wipe σ vs) envw ∧ (∀ j ∈ vs, envw[j]? = none ∨ envw[j]? = some .no) ∧ Fr z X (Ms z X σ env) H1 (Ms z (X.or Da) (L2.wipe σ vs) envw) H2 ∧ H2 Da = some (.lst accV) ∧ IsA z (Ms z (X.or Da) (L2.wipe σ vs) envw) H2 accV accD ∧ lcM vs pg pm envw (ds.drop (i + 1)) accD fun e r => k e (.lst r), fun H2 h2 => ⟨ds.length - (i + 1), by omega, rfl, hlt, h2⟩, fun x H2 hy => ?_⟩
    obtain ⟨e2, is⟩ := y3 x H2 hy
    have oL2 := oL.go e2
    refine hg z (X.or Da) H0 H2 _ _ x _ _ _ oL2 (is (fun a q => .inl q) (fun b q => oL.notMs q)) (fun env3 σ3 o3 f3 kp hx3 => ⟨wipe_eq kp hj, ?_⟩) hk
    refine ht z (X.or Da) H0 H2 σ3 env3 _ (fun b => b = true ∧ pm env3 fun env2 y => accD.length ≤ 100000 ∧ lcM vs pg pm (wipeE env2 vs) (ds.drop (i + 1)) (accD ++ [y]) fun e r => k e (.lst r)) o3 (fun b H3 e3 hx4 => ?_) ⟨rfl, hx3⟩
    obtain ⟨hb, hx4⟩ := hx4
    cases b with
    | false => exact absurd hb Bool.false_ne_true
    | true =>
      rw [if_pos rfl]
      refine he z (X.or Da) H0 H3 σ3 env3 _ _ (o3.go e3) (fun r y H4 env4 o4 f4 kx is4 hx5 => ?_) hx4
      have acc4 : H4 Da = some (.lst accV) := by
        rw [kx Da (.inr rfl)]
        exact e3.old _ _ (e2.old _ _ hacc hzD) hzD
      obtain ⟨o5, f5⟩ := o4.mutX (a := Da) (u := .lst (accV ++ [y])) (.inr rfl) h0D
      obtain ⟨o6, sub6⟩ := o5.wipe (vs := vs)
      rw [wipe_eq kp hj] at o6 sub6
      have f34 : Fr z (X.or Da) (Ms z (X.or Da) (L2.wipe σ vs) envw) H' (Ms z (X.or Da) σ3 env4) H4 := (((oL.fr e2).trans f3).trans (o3.fr e3)).trans f4
      have f36 : Fr z (X.or Da) (Ms z (X.or Da) (L2.wipe σ vs) envw) H' (Ms z (X.or Da) (L2.wipe σ vs) (wipeE env4 vs)) (upd H4 Da (.lst (accV ++ [y]))) := ⟨fun a u q n => by
        obtain ⟨q1, n1⟩ := f34.old a u q n
        obtain ⟨q2, n2⟩ := f5.old a u q1 n1
        exact ⟨q2, fun w => n2 (sub6 a w)⟩, fun a q => f5.dk a (f34.dk a q), fun a q => f5.al a (f34.al a q)⟩
      refine ⟨accV, acc4, by rw [hA.length]; exact szl hx5.1, wipeE env4 vs, accV ++ [y], accD ++ [r], o6, fun j hj' => wipeE_in hj', ⟨fun a u q n => f36.old a u (fr.old a u q n).1 (fr.old a u q n).2, fun a q => f36.dk a (fr.dk a q), fun a q => f36.al a (fr.al a q)⟩, upd_same, ?_, hx5.2⟩
      refine (f36.isA hA).append (.cons ?_ .nil)
      exact (f5.is is4).weak sub6
  · have ei : i = ds.length := by omega
    subst ei
    rw [List.drop_length] at hk
    have ow : ∀ {j : Nat} {d : SV}, envw[j]? = some d → d ≠ .no → j ∉ vs := fun {j d} h n hv => by
      rcases hwp j hv with q | q
      · rw [q] at h; cases h
      · rw [q] at h; cases h; exact n rfl
    have msb : ∀ b, Ms z X σ envw b → Ms z (X.or Da) (L2.wipe σ vs) envw b := fun b h => by
      rcases h with h | h | ⟨j, d, h1, h2⟩
      · exact .inl h
      · exact .inr (.inl (.inl h))
      · exact .inr (.inr ⟨j, d, h1, by rw [wipe_out' (ow h1 (fun q => by cases q))]; exact h2⟩)
    have oF : Ok z X H0 H' σ envw := by
      refine ⟨?_, oL.evo, oL.zal, fun a h => oL.xal a (.inl h), fun j d h => ?_, fun j d h => ?_, fun j j' a d e h h' q q' => ?_, oL.tab⟩
      · have := oL.len
        rwa [wipe_length] at this
      · obtain ⟨v, h1, h2⟩ := oL.val j d h
        rw [wipe_out' (ow h (fun q => by cases q))] at h1
        exact ⟨v, h1, h2.weak msb⟩
      · obtain ⟨a, h1, h2, h3, h4, h5⟩ := oL.own j d h
        rw [wipe_out' (ow h (fun q => by cases q))] at h1
        exact ⟨a, h1, h2.gen (fun _ q => q) (fun b u q n => ⟨q, fun w => n (msb b w)⟩) (fun _ q => q), h3, fun q => h4 (.inl q), h5⟩
      · exact oL.inj j j' a d e h h' (by rw [wipe_out' (ow h (fun q => by cases q))]; exact q) (by rw [wipe_out' (ow h' (fun q => by cases q))]; exact q')
    have nD : ¬ Ms z X σ envw Da := fun w => by
      rcases w with w | w | ⟨j, d, h1, h2⟩
      · exact hzD w
      · exact (o1.xal Da w).1 hD
      · obtain ⟨a, q1, q2, q3, q4, q5⟩ := oL.own j d h1
        rw [wipe_out' (ow h1 (fun q => by cases q)), h2] at q1
        cases q1
        exact q4 (.inr rfl)
    refine .inl ⟨y1, c (.lst accD) (.ref Da) H' envw oF ⟨fun a u q n => ?_, fun a q => fr.dk a (e1.dk a q), fun a q => fr.al a (e1.al a q)⟩ (.lst hacc nD (hA.weak msb)) hk⟩
    obtain ⟨q1, n1⟩ := fr.old a u (e1.old a u q fun y => n (.inl y)) n
    exact ⟨q1, fun w => n1 (msb a w)⟩
def tMK (p : PMX) : TE := fun σ H Q => ∃ (z : Zn) (X : AP) (H0 : Hp) (env : List SV) (k : List SV → D → Prop), Ok z X H0 H σ env ∧ (∀ d v H' env', Ok z X H0 H' σ env' → Fr z X (Ms z X σ env) H (Ms z X σ env') H' → (∀ b, X b → H' b = H b) → Is z (Ms z X σ env') H' v d → k env' d → Q v H') ∧ p env k
theorem MK.pe {C : Cx} {e : Expr} {p : PMX} (h : MK C e p) : PE C e (tMK p) := by
  obtain ⟨t, h1, h2⟩ := h
  exact ⟨fun pins s σ H Q I ⟨z, X, H0, env, k, o, c, hp⟩ => h1.run pins s σ H Q I (h2 z X H0 H σ env Q k o c hp)⟩
theorem rmk_tMK {p : PMX} : RMK (tMK p) p := fun z X H0 H σ env Q k o c hp => ⟨z, X, H0, env, k, o, c, hp⟩
section
variable {C : Cx} {fr : Bool} {tg iter elt : Expr} {pi : PIt} {js : List Nat} {g : TG} {pg : PGt} {pm : PMX} {scope : Scope} {own : List (Str × Nat)} {pos : Pos}
theorem s_setLcM {i : Nat} {y : Str} {py spos : Pos} (hi : I C tg iter pi) (hg : ∀ (s : Shared) (H : Hp) (Ca : Addr) (cl : List (Str × Addr)) (fp : List Addr), G (C.blk s H scope (compEnvC scope cl Ca C.env) fp) tg js g pg)
    (he : ∀ (s : Shared) (H : Hp) (Ca : Addr) (cl : List (Str × Addr)) (fp : List Addr), MK (C.blk s H scope (compEnvC scope cl Ca C.env) fp) elt pm) (hc : C.calm = true) (hN : C.N.Nodup) (hy : C.N[i]? = some y) (hyl : C.env.scope.names.lookup y = some .local)
    (hsw : swapsWith (.ListComp elt [⟨tg, iter, [], 0⟩] scope pos) (some (.Name y py)) spos.line C.env = pure true) (ok : BlkOk C.N C.env.scope scope own) (hj : ∀ i ∈ js, i ∈ own.map (·.2)) (rg : RG js g pg) (hs : ∀ x, foldedSetIterable iter C.env x = pure x := by intro _; rfl) :
    S fr C (.Assign [.Name y py] (.ListComp elt [⟨tg, iter, [], 0⟩] scope pos) spos) (sSetM i (mLc (own.map (·.2)) pi pg pm)) := by
  refine ⟨_, ps_setLc hc hN hy hyl hsw hi.pi ok (fun s H Ca cl fp => (hg s H Ca cl fp).pg) (fun s H Ca cl fp => (ts_nil (C := C.blk s H scope (compEnvC scope cl Ca C.env) fp)).ex) (fun s H Ca cl fp => (he s H Ca cl fp).pe) hs, fun z X H0 H σ env G k o s hp => re_lcM ri_tP rg hj rt_tP rmk_tMK z X H0 H σ env _ _ o (fun d v H1 env1 o1 f1 r1 hx => ?_) hp⟩
  obtain ⟨o2, f2⟩ := o1.set (i := i) r1
  exact s.nx _ _ H1 o2 (f1.trans f2) hx
end
/-! d.get(k, e), a dict by whole numbers -/
def dDgetE (x y w : D) (k : D → Prop) : Prop := match x, y with
  | .dic kvs, .int n => k ((valD kvs (.inl n)).getD w)
  | _, _ => False
def dDicK (x : D) (k : Prop) : Prop := match x with
  | .dic _ => k
  | _ => False
def eDget2 (p q r : PX) : PX := fun env k => p env fun x => dDicK x (q env fun y => r env fun w => dDgetE x y w k)
theorem e_dget2 {C : Cx} {o e f : Expr} {p q r : PX} {m m' : Mode} {apos cpos : Pos} (hu : C.A.units + 1 < cLine) (ha : E .c C o p) (hb : E .c C e q) (hf : E .e C f r) (mm : M2 C o "get" apos e f cpos) : E .e C (.Call (.Attribute o "get" apos) [e, f] [] cpos) (eDget2 p q r) := by
  obtain ⟨ta, a1, a2⟩ := ha
  obtain ⟨tb, b1, b2⟩ := hb
  obtain ⟨tf, f1, f2⟩ := hf
  refine ⟨_, pe_dget2 hu a1 b1 f1 mm, fun z X H0 H σ env Q k o c hp => a2 z X H0 H σ env _ _ o (fun x v H1 e1 r1 hp1 => ?_) hp⟩
  cases x with
  | dic kvs =>
    obtain ⟨ad, vs0, rfl, g1, g2⟩ := Rel.conD r1
    refine ⟨ad, rfl, .inl ⟨vs0, .inl g1⟩, b2 z X H0 H1 σ env _ _ (o.go e1) (fun y u H2 e2 r2 hp2 => f2 z X H0 H2 σ env _ _ ((o.go e1).go e2) (fun w u2 H3 e3 r3 hp3 => ?_) hp2) hp1⟩
    cases y with
    | int n =>
      have r1' := r1.evo o (e2.trans e3) e1
      obtain ⟨ad', vs, hq, h1, h2⟩ := Rel.conD r1'
      cases hq
      cases r2.intC
      refine ⟨_, DGet.k (k := Sum.inl n) h1, ?_⟩
      cases hv : valD kvs (.inl n) with
      | none =>
        have q := (h2.val (.inl n)).1 hv
        rw [q]
        refine c w u2 H3 (e1.trans (e2.trans e3)) r3 ?_
        have hp3' : k ((valD kvs (.inl n)).getD w) := hp3
        rw [hv] at hp3'
        exact hp3'
      | some d =>
        obtain ⟨u3, hw, iw⟩ := (h2.val (.inl n)).2 d hv
        rw [hw]
        refine c d u3 H3 (e1.trans (e2.trans e3)) iw ?_
        have hp3' : k ((valD kvs (.inl n)).getD w) := hp3
        rw [hv] at hp3'
        exact hp3'
    | _ => exact (show False from hp3).elim
  | _ => exact (show False from hp1).elim
theorem dDicK_i {kvs : List (Key × D)} {k : Prop} (h : k) : dDicK (.dic kvs) k := h
theorem eDget2_i {p q r : PX} {env : List SV} {k : D → Prop} (h : p env fun x => dDicK x (q env fun y => r env fun w => dDgetE x y w k)) : eDget2 p q r env k := h
theorem dDgetE_i {kvs : List (Key × D)} {n : Int} {w : D} {k : D → Prop} (h : k ((valD kvs (.inl n)).getD w)) : dDgetE (.dic kvs) (.int n) w k := h
theorem mLc_i {vs : List Nat} {pi : PIt} {pg : PGt} {pm : PMX} {env : List SV} {k : List SV → D → Prop} (h : pi env fun ds => noOwn env vs ∧ lcM vs pg pm (wipeE env vs) ds [] fun env' r => k env' (.lst r)) : mLc vs pi pg pm env k := h
/-- by an invariant -/
theorem lcM_i {vs : List Nat} {pg : PGt} {pm : PMX} {k : List SV → List D → Prop} (Inv : Nat → List SV → List D → Prop) : ∀ (ds : List D) (n : Nat) {env : List SV} {acc : List D}, Inv n env acc →
    (∀ (i : Nat) (d : D) (env : List SV) (acc : List D), ds[i]? = some d → Inv (n + i) env acc → ∀ A : List SV → D → Prop, (∀ env2 y, acc.length ≤ 100000 ∧ Inv (n + i + 1) (wipeE env2 vs) (acc ++ [y]) → A env2 y) → pg d env fun env1 => pm env1 A) →
    (∀ env acc, Inv (n + ds.length) env acc → k env acc) → lcM vs pg pm env ds acc k
  | [], n, env, acc, h0, _, hk => hk env acc h0
  | d :: ds, n, env, acc, h0, hs, hk => by
    unfold lcM
    refine hs 0 d env acc rfl h0 _ fun env2 y h => ⟨h.1, lcM_i Inv ds (n + 1) h.2 (fun i d' env' acc' hd hI => ?_) fun env' acc' hI => hk env' acc' ?_⟩
    · have := hs (i + 1) d' env' acc' hd (by rw [show n + (i + 1) = n + 1 + i by omega]; exact hI)
      rw [show n + (i + 1) = n + 1 + i by omega] at this
      exact this
    · rw [List.length_cons, show n + (ds.length + 1) = n + 1 + ds.length by omega]
      exact hI
end Pu

namespace Pu
open PySem PySem.Spec PyProof.Rows L2
variable [Tbs]
/-! dicts by pairs of whole numbers -/
def valT (ds : List (List Int × Int)) (k : List Int) : Option Int := (ds.find? fun q => decide (q.1 = k)).map (·.2)
def putT (ds : List (List Int × Int)) (k : List Int) (v : Int) : List (List Int × Int) :=
  if (ds.any fun q => decide (q.1 = k)) = true then ds.map (fun q => if q.1 = k then (q.1, v) else q) else ds ++ [(k, v)]
theorem inl_map : ∀ {a b : List Int}, (a.map (Sum.inl : Int → Key)) = b.map Sum.inl ↔ a = b
  | [], [] => by simp
  | [], _ :: _ => by simp
  | _ :: _, [] => by simp
  | x :: a, y :: b => by
    simp only [List.map_cons, List.cons.injEq]
    rw [inl_map (a := a) (b := b)]
    constructor
    · rintro ⟨h, h2⟩
      exact ⟨Sum.inl.inj h, h2⟩
    · rintro ⟨h, h2⟩
      exact ⟨by rw [h], h2⟩
theorem val_dtV (k : List Int) : ∀ ds : List (List Int × Int), valV (dtV ds) (k.map Sum.inl) = (valT ds k).map V.int
  | [] => rfl
  | q :: ds => by
    have ih := val_dtV k ds
    unfold valV valT dtV at *
    rw [List.map_cons, List.find?_cons, List.find?_cons]
    by_cases h : q.1 = k
    · rw [decide_eq_true (show q.1.map (Sum.inl : Int → Key) = k.map Sum.inl by rw [h]), decide_eq_true h]
      rfl
    · rw [decide_eq_false (fun w => h (inl_map.mp w)), decide_eq_false h]
      exact ih
theorem any_dtV (k : List Int) : ∀ ds : List (List Int × Int), ((dtV ds).any fun q => decide (q.1 = k.map Sum.inl)) = ds.any fun q => decide (q.1 = k)
  | [] => rfl
  | q :: ds => by
    have ih := any_dtV k ds
    unfold dtV at *
    rw [List.map_cons, List.any_cons, List.any_cons, ih]
    congr 1
    exact decide_eq_decide.mpr inl_map
theorem put_dtV (k : List Int) (v : Int) (ds : List (List Int × Int)) : putK (dtV ds) (k.map Sum.inl) (.int v) = dtV (putT ds k v) := by
  unfold putK putT
  rw [any_dtV]
  split
  · unfold dtV
    rw [List.map_map, List.map_map]
    apply List.map_congr_left
    intro q _
    show (if q.1.map (Sum.inl : Int → Key) = k.map Sum.inl then (q.1.map Sum.inl, V.int v) else (q.1.map Sum.inl, V.int q.2)) = _
    by_cases h : q.1 = k
    · rw [if_pos (by rw [h])]
      show _ = ((if q.1 = k then (q.1, v) else q).1.map Sum.inl, V.int (if q.1 = k then (q.1, v) else q).2)
      rw [if_pos h]
    · rw [if_neg (fun w => h (inl_map.mp w))]
      show _ = ((if q.1 = k then (q.1, v) else q).1.map Sum.inl, V.int (if q.1 = k then (q.1, v) else q).2)
      rw [if_neg h]
  · unfold dtV
    rw [List.map_append]
    rfl
theorem valT_put {ds : List (List Int × Int)} {k k' : List Int} {v : Int} : valT (putT ds k v) k' = if k' = k then some v else valT ds k' := by
  induction ds with
  | nil =>
    show valT [(k, v)] k' = _
    unfold valT
    by_cases e : k' = k
    · rw [if_pos e, e]
      simp
    · rw [if_neg e]
      have : ¬ k = k' := fun w => e w.symm
      simp [this]
  | cons q ds ih =>
    unfold putT at ih ⊢
    rw [List.any_cons]
    by_cases h : q.1 = k
    · rw [decide_eq_true h, Bool.true_or, if_pos rfl, List.map_cons, if_pos h]
      by_cases e : k' = k
      · rw [if_pos e]
        unfold valT
        rw [List.find?_cons, decide_eq_true (show q.1 = k' by rw [h, e])]
        rfl
      · rw [if_neg e]
        unfold valT
        have e' : ¬ q.1 = k' := fun w => e (by rw [← w, h])
        rw [List.find?_cons, List.find?_cons, decide_eq_false e']
        simp only
        have hm : ∀ l : List (List Int × Int), ((l.map fun q => if q.1 = k then (q.1, v) else q).find? fun q => decide (q.1 = k')) = l.find? fun q => decide (q.1 = k') := fun l => by
          induction l with
          | nil => rfl
          | cons w l ih =>
            rw [List.map_cons, List.find?_cons, List.find?_cons]
            by_cases hw : w.1 = k
            · rw [if_pos hw]
              have : ¬ w.1 = k' := fun u => e (by rw [← u, hw])
              simp only [decide_eq_false this]
              exact ih
            · rw [if_neg hw]
              by_cases hw' : w.1 = k'
              · simp [hw']
              · simp only [decide_eq_false hw']
                exact ih
        rw [hm]
    · rw [decide_eq_false h, Bool.false_or]
      have st : ∀ (l : List (List Int × Int)), valT (q :: l) k' = if q.1 = k' then some q.2 else valT l k' := fun l => by
        unfold valT
        rw [List.find?_cons]
        by_cases w : q.1 = k'
        · rw [if_pos w, decide_eq_true w]; rfl
        · rw [if_neg w, decide_eq_false w]
      split
      · rename_i ha
        rw [if_pos ha] at ih
        rw [List.map_cons, if_neg h, st, st, ih]
        by_cases w : q.1 = k'
        · rw [if_pos w, if_pos w, if_neg (fun u => h (by rw [w, u]))]
        · rw [if_neg w, if_neg w]
      · rename_i ha
        rw [if_neg ha] at ih
        rw [List.cons_append, st, st, ih]
        by_cases w : q.1 = k'
        · rw [if_pos w, if_pos w, if_neg (fun u => h (by rw [w, u]))]
        · rw [if_neg w, if_neg w]
theorem putT_len (ds : List (List Int × Int)) (k : List Int) (v : Int) : (putT ds k v).length ≤ ds.length + 1 := by
  unfold putT
  split
  · rw [List.length_map]; omega
  · simp
section
variable {C : Cx} {fr : Bool} {m : Mode} {e a b : Expr} {p q : PX} {pos pp : Pos}
def eDpr0 : PX := fun _ k => k (.dpr [])
theorem e_dpr0 : E .f C (.Dict [] [] pos) eDpr0 := ⟨_, pe_dnewT, fun z X H0 H σ env Q k o c hp => fun q hq => c (.dpr []) (.ref q) _ ((Evo.refl _ _).new hq) ⟨q, rfl, hq, upd_same⟩ hp⟩
/-- x[i, j] = e -/
def prK2 (d : D) (k : Int → Int → Prop) : Prop := match d with
  | .tup [.int i, .int j] => k i j
  | _ => False
def sTput (i : Nat) (pi pe : PX) : PSt := fun env k => pe env fun y => inK y fun v => match env[i]? with
  | some (.own (.dpr ds)) => pi env fun d => prK2 d fun x y => ds.length ≤ 100000 ∧ k.nx (env.set i (.own (.dpr (putT ds [x, y] v))))
  | _ => False
theorem prK2_of {d : D} {k : Int → Int → Prop} (h : prK2 d k) : ∃ i j, d = .tup [.int i, .int j] ∧ k i j := by
  unfold prK2 at h
  split at h
  · exact ⟨_, _, rfl, h⟩
  · exact h.elim
theorem two_is {z : Zn} {M : AP} {H : Hp} {v : V} {i j : Int} (h : Is z M H v (.tup [.int i, .int j])) : ∃ b, v = .ref b ∧ H b = some (.tup ([i, j].map fun x => kV (Sum.inl x))) := by
  cases h with
  | tup e n r =>
    cases r with
    | cons r1 r =>
      cases r with
      | cons r2 r =>
        cases r
        cases r1
        cases r2
        exact ⟨_, rfl, e⟩
theorem s_tput (i : Nat) {x : Str} {ix : Expr} {spos : Pos} (hu : C.A.units + 1 < cLine) (he : E m C e p) (hi : E .e C ix q) (hN : C.N[i]? = some x := by rfl) (hv : Vis C.env.scope x := by first | exact Or.inl rfl | exact Or.inr (Or.inl rfl) | exact Or.inr (Or.inr rfl)) (hd : (x == ("__debug__" : Str)) = false := by decide)
    (hcd : (x == ("__classdict__" : Str)) = false := by decide) (hs : swapsWith e (some (.Subscript (.Name x pp) ix spos)) pos.line C.env = pure false := by rfl) : S fr C (.Assign [.Subscript (.Name x pp) ix spos] e pos) (sTput i q p) := by
  obtain ⟨t, h1, h2⟩ := he.toB
  obtain ⟨u, g1, g2⟩ := hi
  refine ⟨_, ps_dput hu (pe_var hN hv hd hcd) g1 h1 hs, fun z X H0 H σ env G k o s hp => ?_⟩
  refine h2 z X H0 H σ env _ _ o (fun y v H1 e1 r1 hx => ?_) hp
  cases y with
  | int w =>
    cases Is.intI r1
    have o1 := o.go e1
    replace hx : (match env[i]? with
      | some (.own (.dpr ds)) => q env fun d => prK2 d fun x y => ds.length ≤ 100000 ∧ k.nx (env.set i (.own (.dpr (putT ds [x, y] w))))
      | _ => False) := hx
    split at hx
    · rename_i ds hk
      obtain ⟨ad, q1, q5, q3, q4⟩ := o1.own i _ hk
      refine ⟨_, q1, g2 z X H0 H1 σ env _ _ o1 (fun d v2 H2 e2 r2 hy => ?_) hx⟩
      obtain ⟨x1, y1, rfl, hl, hy⟩ := prK2_of hy
      obtain ⟨b2, rfl, hb2⟩ := two_is (show Is z (Ms z X σ env) H2 v2 (.tup [.int x1, .int y1]) from r2)
      have o2 := o1.go e2
      have q5' : H2 ad = some (.dT (dtV ds)) := e2.old ad _ q5 q3
      refine ⟨ad, _, rfl, DPut.t (k := [x1, y1].map Sum.inl) q5' (by rw [hb2, List.map_map]; rfl) (by unfold dtV; rw [List.length_map, sizeLine_eq]; omega), ?_⟩
      rw [put_dtV]
      obtain ⟨o3, f3⟩ := o2.mut (d' := .dpr (putT ds [x1, y1] w)) (o := .dT (dtV (putT ds [x1, y1] w))) hk q1 upd_same
      exact s.nx _ _ _ o3 ((o.fr (e1.trans e2)).trans f3) hy
    · exact hx.elim
  | _ => exact (show False from hx).elim
/-- x[i, j] -/
def dTget : D → D → (D → Prop) → Prop := fun x y k => match x with
  | .dpr ds => prK2 y fun i j => ∃ v, valT ds [i, j] = some v ∧ k (.int v)
  | _ => False
theorem Rel.conP {z : Zn} {X : AP} {H H' : Hp} {σ : Sl} {env : List SV} {v : V} {xs : List (List Int × Int)} (h : Rel .c z X H H' σ env v (.dpr xs)) : ∃ a, v = .ref a ∧ H' a = some (.dT (dtV xs)) := by
  rcases h with h | ⟨a, rfl, e, n, md⟩
  · cases h with
    | dpr e n => exact ⟨_, rfl, e⟩
  · exact ⟨a, rfl, e⟩
theorem e_tget (hu : C.A.units + 1 < cLine) (ha : E .c C a p) (hb : E .e C b q) (hs : NoSl b := by exact fun _ _ => rfl) : E .e C (.Subscript a b pos) (eOp dTget p q) := by
  obtain ⟨ta, a1, a2⟩ := ha
  obtain ⟨tb, b1, b2⟩ := hb
  refine ⟨_, pe_dget hu a1 b1 hs, fun z X H0 H σ env Q k o c hp => a2 z X H0 H σ env _ _ o (fun x v H1 e1 r1 hp1 => b2 z X H0 H1 σ env _ _ (o.go e1) (fun y u H2 e2 r2 hp2 => ?_) hp1) hp⟩
  have r1' := r1.evo o e2 e1
  cases x with
  | dpr ds =>
    obtain ⟨i, j, rfl, w, hw, hk⟩ := prK2_of hp2
    obtain ⟨ad, rfl, h1⟩ := Rel.conP r1'
    obtain ⟨b2, rfl, hb2⟩ := two_is (show Is z (Ms z X σ env) H2 u (.tup [.int i, .int j]) from r2)
    have g := DGet.t (k := [i, j].map Sum.inl) h1 (by rw [hb2, List.map_map]; rfl)
    rw [val_dtV, hw] at g
    exact ⟨ad, .int w, rfl, g, c (.int w) (.int w) H2 (e1.trans e2) (.int w) hk⟩
  | _ => exact (show False from hp2).elim
end
theorem eO_p {i : Nat} {env : List SV} {ds : List (List Int × Int)} {k : D → Prop} (e : env[i]? = some (.own (.dpr ds))) (h : k (.dpr ds)) : eO i env k := by unfold eO; rw [e]; exact h
theorem sTput_i {i : Nat} {pi pe : PX} {env : List SV} {ds : List (List Int × Int)} {K : PK'} (e : env[i]? = some (.own (.dpr ds))) (h : pe env fun y => inK y fun v => pi env fun d => prK2 d fun x y => ds.length ≤ 100000 ∧ K.nx (env.set i (.own (.dpr (putT ds [x, y] v))))) : sTput i pi pe env K := by
  unfold sTput
  rw [e]
  exact h
theorem prK2_i {i j : Int} {k : Int → Int → Prop} (h : k i j) : prK2 (.tup [.int i, .int j]) k := h
theorem dTget_i {ds : List (List Int × Int)} {i j v : Int} {k : D → Prop} (e : valT ds [i, j] = some v) (h : k (.int v)) : dTget (.dpr ds) (.tup [.int i, .int j]) k := ⟨v, e, h⟩
theorem sSeq_tput {i : Nat} {pi pe : PX} {Q : PSt} {env : List SV} {K : PK'} (h : sTput i pi pe env { K with nx := fun env' => Q env' K }) : sSeq (sTput i pi pe) Q env K := h
/-! a look only, and a tuple of whole numbers comes of it: it is plain -/
def ownMut (env : List SV) : Prop := ∀ (i : Nat) (d : D), env[i]? = some (.own d) → mutD d = true
def eFlat (p : PX) : PX := fun env k => p env fun d => (∃ ns : List Int, d = .tup (ns.map D.int)) ∧ ownMut env ∧ k d
theorem e_flat {C : Cx} {e : Expr} {p : PX} (h : E .b C e p) : E .e C e (eFlat p) := by
  obtain ⟨t, h1, h2⟩ := h
  refine ⟨t, h1, fun z X H0 H σ env Q k o c hp => h2 z X H0 H σ env _ _ o (fun d v H1 e1 r1 hx => ?_) hp⟩
  obtain ⟨⟨ns, rfl⟩, hm, hk⟩ := hx
  refine c _ v H1 e1 ?_ hk
  cases (show Is z (Zx z X) H1 v (.tup (ns.map D.int)) from r1) with
  | tup e n r =>
    refine Is.tup e (fun w => ?_) ?_
    · rcases w with w | w | ⟨i, d, w1, w2⟩
      · exact n (.inl w)
      · exact n (.inr w)
      · obtain ⟨a, q1, q2, q3, q4⟩ := o.own i d w1
        rw [w2] at q1
        cases q1
        have hd := hm i d w1
        cases d with
        | lst ds =>
          obtain ⟨vs, g, _⟩ := q2
          have := e1.old _ _ g q3
          rw [e] at this
          cases this
        | dic ds =>
          obtain ⟨vs, g, _⟩ := q2
          have := e1.old _ _ g q3
          rw [e] at this
          cases this
        | dpr ds =>
          have := e1.old _ _ q2 q3
          rw [e] at this
          cases this
        | st ds =>
          obtain ⟨vs, g, _⟩ := q2
          have := e1.old _ _ g q3
          rw [e] at this
          cases this
        | _ => cases hd
    · rw [isa_ints r]
      exact isa_of ns
theorem eFlat_i {p : PX} {env : List SV} {k : D → Prop} (h : p env fun d => (∃ ns : List Int, d = .tup (ns.map D.int)) ∧ ownMut env ∧ k d) : eFlat p env k := h
end Pu

namespace Pu
open PySem PySem.Spec PyProof.Rows L2
variable [Tbs]
/-! loops over a list of the def's own: the slot q stays -/
structure SimQ (q : Nat) (w : Option (Option V)) (fr : Bool) (z : Zn) (X : AP) (H0 : Hp) (M : AP) (H : Hp) (G : Ends) (k : PK') : Prop where
  nx : ∀ env' σ' H', Ok z X H0 H' σ' env' → Fr z X M H (Ms z X σ' env') H' → σ'[q]? = w → k.nx env' → G.nx σ' H'
  rt : ∀ d v H', Evo z H0 H' → Is z (Zx z X) H' v d → (fr = true → ∃ a, v = .ref a ∧ H0 a = none ∧ Con z (Zx z (X.or a)) H' a d) → k.rt d → G.rt v H'
  bk : ∀ env' σ' H', Ok z X H0 H' σ' env' → Fr z X M H (Ms z X σ' env') H' → σ'[q]? = w → k.bk env' → G.bk σ' H'
  ct : ∀ env' σ' H', Ok z X H0 H' σ' env' → Fr z X M H (Ms z X σ' env') H' → σ'[q]? = w → k.ct env' → G.ct σ' H'
theorem SimQ.go {q : Nat} {w : Option (Option V)} {fr : Bool} {z : Zn} {X : AP} {H0 : Hp} {M M1 : AP} {H H1 : Hp} {G : Ends} {k : PK'} (s : SimQ q w fr z X H0 M H G k) (f : Fr z X M H M1 H1) : SimQ q w fr z X H0 M1 H1 G k :=
  ⟨fun e σ H' o g c h => s.nx e σ H' o (f.trans g) c h, s.rt, fun e σ H' o g c h => s.bk e σ H' o (f.trans g) c h, fun e σ H' o g c h => s.ct e σ H' o (f.trans g) c h⟩
theorem Sim.q {q : Nat} {w : Option (Option V)} {fr : Bool} {z : Zn} {X : AP} {H0 : Hp} {M : AP} {H : Hp} {G : Ends} {k : PK'} (s : Sim fr z X H0 M H G k) : SimQ q w fr z X H0 M H G k :=
  ⟨fun e σ H' o g _ h => s.nx e σ H' o g h, s.rt, fun e σ H' o g _ h => s.bk e σ H' o g h, fun e σ H' o g _ h => s.ct e σ H' o g h⟩
def RSq (q : Nat) (fr : Bool) (t : TS) (p : PSt) : Prop := ∀ (z : Zn) (X : AP) (H0 H : Hp) (σ : Sl) (env : List SV) (G : Ends) (k : PK'), Ok z X H0 H σ env → SimQ q σ[q]? fr z X H0 (Ms z X σ env) H G k → p env k → t G σ H
structure SQ (q : Nat) (fr : Bool) (C : Cx) (st : Stmt) (p : PSt) : Prop where
  ex : ∃ t, PS C st t ∧ RSq q fr t p
structure BQ (q : Nat) (fr : Bool) (C : Cx) (st : List Stmt) (p : PSt) : Prop where
  ex : ∃ t, PSs C st t ∧ RSq q fr t p
section
variable {C : Cx} {fr : Bool} {q : Nat} {st : Stmt} {rest : List Stmt} {p r : PSt} {e : Expr} {pe pi : PX} {m : Mode} {pos pp : Pos}
theorem SQ.s (h : SQ q fr C st p) : S fr C st p := by
  obtain ⟨t, h1, h2⟩ := h
  exact ⟨t, h1, fun z X H0 H σ env G k o s hp => h2 z X H0 H σ env G k o s.q hp⟩
theorem bq_nil : BQ q fr C [] sNext := ⟨_, pss_nil, fun z X H0 H σ env G k o s h => s.nx env σ H o Fr.refl rfl h⟩
theorem bq_one (h : SQ q fr C st p) : BQ q fr C [st] p := let ⟨t, h1, h2⟩ := h; ⟨t, pss_one h1, h2⟩
theorem bq_cons (h : SQ q fr C st p) (g : BQ q fr C rest r) : BQ q fr C (st :: rest) (sSeq p r) := by
  obtain ⟨t, h1, h2⟩ := h
  obtain ⟨u, g1, g2⟩ := g
  refine ⟨_, pss_cons h1 g1, fun z X H0 H σ env G k o s hp => h2 z X H0 H σ env _ { k with nx := fun env' => r env' k } o ⟨fun env' σ' H' o' f c hx => ?_, s.rt, s.bk, s.ct⟩ hp⟩
  refine g2 z X H0 H' σ' env' G k o' ?_ hx
  rw [c]
  exact s.go f
theorem sq_if {c : Expr} {a b : List Stmt} {tc : PTs'} (h : T C c tc) (ha : BQ q fr C a p) (hb : BQ q fr C b r) : SQ q fr C (.If c a b pos) (sIf tc p r) := by
  obtain ⟨t, h1, h2⟩ := h
  obtain ⟨ta, a1, a2⟩ := ha
  obtain ⟨tb, b1, b2⟩ := hb
  refine ⟨_, ps_if h1 a1 b1, fun z X H0 H σ env G k o s hp => h2 z X H0 H σ env _ _ o (fun x H1 e1 hx => ?_) hp⟩
  cases x with
  | true => exact a2 z X H0 H1 σ env G k (o.go e1) (s.go (o.fr e1)) hx
  | false => exact b2 z X H0 H1 σ env G k (o.go e1) (s.go (o.fr e1)) hx
theorem sq_set {i : Nat} {x : Str} (h : E .e C e pe) (hN : C.N.Nodup) (hi : C.N[i]? = some x) (hx : Loc C.env.scope x) (hne : i ≠ q) (hs : swapsWith e (some (.Name x pp)) pos.line C.env = pure false := by rfl) (hf : C.fn x = true ∨ C.env.scope.names.lookup x = some .local := by first | exact .inl rfl | exact .inr rfl | assumption) :
    SQ q fr C (.Assign [.Name x pp] e pos) (sSet i pe) := by
  obtain ⟨t, h1, h2⟩ := h
  refine ⟨_, ps_set hN hi hx h1 hs hf, fun z X H0 H σ env G k o s hp => h2 z X H0 H σ env _ _ o (fun d v H1 e1 r1 hx => ?_) hp⟩
  obtain ⟨o2, f2⟩ := (o.go e1).set (i := i) (show Is z _ H1 v d from r1)
  exact s.nx _ _ H1 o2 ((o.fr e1).trans f2) (List.getElem?_set_ne hne) hx
theorem sq_tput (i : Nat) {x : Str} {ix : Expr} {spos : Pos} (hu : C.A.units + 1 < cLine) (he : E m C e pe) (hi : E .e C ix pi) (hN : C.N[i]? = some x := by rfl) (hv : Vis C.env.scope x := by first | exact Or.inl rfl | exact Or.inr (Or.inl rfl) | exact Or.inr (Or.inr rfl)) (hd : (x == ("__debug__" : Str)) = false := by decide)
    (hcd : (x == ("__classdict__" : Str)) = false := by decide) (hs : swapsWith e (some (.Subscript (.Name x pp) ix spos)) pos.line C.env = pure false := by rfl) : SQ q fr C (.Assign [.Subscript (.Name x pp) ix spos] e pos) (sTput i pi pe) := by
  obtain ⟨t, h1, h2⟩ := he.toB
  obtain ⟨u, g1, g2⟩ := hi
  refine ⟨_, ps_dput hu (pe_var hN hv hd hcd) g1 h1 hs, fun z X H0 H σ env G k o s hp => ?_⟩
  refine h2 z X H0 H σ env _ _ o (fun y v H1 e1 r1 hx => ?_) hp
  cases y with
  | int w =>
    cases Is.intI r1
    have o1 := o.go e1
    replace hx : (match env[i]? with
      | some (.own (.dpr ds)) => pi env fun d => prK2 d fun x y => ds.length ≤ 100000 ∧ k.nx (env.set i (.own (.dpr (putT ds [x, y] w))))
      | _ => False) := hx
    split at hx
    · rename_i ds hk
      obtain ⟨ad, q1, q5, q3, q4⟩ := o1.own i _ hk
      refine ⟨_, q1, g2 z X H0 H1 σ env _ _ o1 (fun d v2 H2 e2 r2 hy => ?_) hx⟩
      obtain ⟨x1, y1, rfl, hl, hy⟩ := prK2_of hy
      obtain ⟨b2, rfl, hb2⟩ := two_is (show Is z (Ms z X σ env) H2 v2 (.tup [.int x1, .int y1]) from r2)
      have o2 := o1.go e2
      have q5' : H2 ad = some (.dT (dtV ds)) := e2.old ad _ q5 q3
      refine ⟨ad, _, rfl, DPut.t (k := [x1, y1].map Sum.inl) q5' (by rw [hb2, List.map_map]; rfl) (by unfold dtV; rw [List.length_map, sizeLine_eq]; omega), ?_⟩
      rw [put_dtV]
      obtain ⟨o3, f3⟩ := o2.mut (d' := .dpr (putT ds [x1, y1] w)) (o := .dT (dtV (putT ds [x1, y1] w))) hk q1 upd_same
      exact s.nx _ _ _ o3 ((o.fr (e1.trans e2)).trans f3) rfl hy
    · exact hx.elim
  | _ => exact (show False from hx).elim
end
def forQ (q : Nat) (ds0 : List D) (pg : PGt) (pb : PSt) : List D → List SV → PK' → Prop
  | [], env, k => env[q]? = some (.own (.lst ds0)) ∧ k.nx env
  | d :: ds, env, k => env[q]? = some (.own (.lst ds0)) ∧ pg d env fun env1 => pb env1 { nx := fun env2 => forQ q ds0 pg pb ds env2 k, rt := k.rt, bk := k.nx, ct := fun env2 => forQ q ds0 pg pb ds env2 k }
def sForO (q : Nat) (pg : PGt) (pb : PSt) : PSt := fun env k => match env[q]? with
  | some (.own (.lst ds)) => forQ q ds pg pb ds env k
  | _ => False
theorem sq_for {C : Cx} {fr : Bool} {q : Nat} {tg : Expr} {body : List Stmt} {pos pp : Pos} {x : Str} {js : List Nat} {g : TG} {pg : PGt} {pb : PSt} (hg : G C tg js g pg) (hb : BQ q fr C body pb) (hj : q ∉ js) (hp : PassesOwn (model C.prog C.w) C.A C.env C.xe) (hc : C.calm = true)
    (hN : C.N[q]? = some x := by rfl) (hv : Vis C.env.scope x := by first | exact Or.inl rfl | exact Or.inr (Or.inl rfl) | exact Or.inr (Or.inr rfl)) (hd : (x == ("__debug__" : Str)) = false := by decide)
    (hcd : (x == ("__classdict__" : Str)) = false := by decide) (hs : ∀ v, foldedSetIterable (.Name x pp) C.env v = pure v := by intro _; rfl) : SQ q fr C (.For tg (.Name x pp) body [] pos) (sForO q pg pb) := by
  obtain ⟨tb, b1, b2⟩ := hb
  refine ⟨_, ps_for hp hc (pi_list (pe_var hN hv hd hcd)) hg.pg b1 hs, fun z X H0 H σ env G k o s hp => ?_⟩
  unfold sForO at hp
  split at hp
  · rename_i ds he
    obtain ⟨a, q1, ⟨vs, q5, q6⟩, q3, q4⟩ := o.own q _ he
    refine ⟨_, q1, a, rfl, ⟨vs, SqL.of q5⟩, ?_⟩
    refine ⟨fun i mm σ' H' => mm = ds.length - i ∧ i ≤ ds.length ∧ ∃ env', Ok z X H0 H' σ' env' ∧ Fr z X (Ms z X σ env) H (Ms z X σ' env') H' ∧ σ'[q]? = σ[q]? ∧ forQ q ds pg pb (ds.drop i) env' k, ⟨ds.length, by simp, Nat.zero_le _, env, o, Fr.refl, rfl, by simpa using hp⟩, ?_⟩
    rintro i mm σ' H' ⟨rfl, hil, env', o', f', kq, hf⟩
    have own : env'[q]? = some (.own (.lst ds)) → ∃ vs', H' a = some (.lst vs') ∧ IsA z (Ms z X σ' env') H' vs' ds := fun h => by
      obtain ⟨a', w1, ⟨vs', w5, w6⟩, _⟩ := o'.own q _ h
      rw [kq, q1] at w1
      cases w1
      exact ⟨vs', w5, w6⟩
    by_cases hlt : i < ds.length
    · rw [List.drop_eq_getElem_cons hlt] at hf
      obtain ⟨hq, hf⟩ := hf
      obtain ⟨vs', w5, w6⟩ := own hq
      obtain ⟨v, v1, v2⟩ := w6.get (List.getElem?_eq_getElem hlt)
      refine .inr ⟨⟨vs', v, SqL.of w5, v1⟩, fun σ2 H2 => ∃ env2, Ok z X H0 H2 σ2 env2 ∧ Fr z X (Ms z X σ env) H (Ms z X σ2 env2) H2 ∧ σ2[q]? = σ[q]? ∧ forQ q ds pg pb (ds.drop (i + 1)) env2 k, fun σ2 H2 h2 => ⟨ds.length - (i + 1), by omega, rfl, hlt, h2⟩, fun y H2 hy => ?_⟩
      obtain ⟨rfl, hy⟩ := hy
      have ey := hy vs' (SqL.of w5)
      rw [v1] at ey
      cases ey
      refine hg.rg z X H0 H2 σ' env' _ _ _ _ o' v2 (fun env3 σ3 o3 f3 kp hx3 => ?_) hf
      have k3 : σ3[q]? = σ[q]? := (kp.2 q hj).2.trans kq
      refine b2 z X H0 H2 σ3 env3 _ { nx := fun env2 => forQ q ds pg pb (ds.drop (i + 1)) env2 k, rt := k.rt, bk := k.nx, ct := fun env2 => forQ q ds pg pb (ds.drop (i + 1)) env2 k } o3 ⟨fun env4 σ4 H4 o4 f4 k4 hx4 => ⟨env4, o4, f'.trans (f3.trans f4), k4.trans k3, hx4⟩, s.rt, fun env4 σ4 H4 o4 f4 k4 hx4 => s.nx env4 σ4 H4 o4 (f'.trans (f3.trans f4)) (k4.trans k3) hx4, fun env4 σ4 H4 o4 f4 k4 hx4 => ⟨env4, o4, f'.trans (f3.trans f4), k4.trans k3, hx4⟩⟩ hx3
    · have ei : i = ds.length := by omega
      subst ei
      rw [List.drop_length] at hf
      obtain ⟨hq, hf⟩ := hf
      obtain ⟨vs', w5, w6⟩ := own hq
      exact .inl ⟨⟨vs', SqL.of w5, by rw [w6.length]; exact Nat.le_refl _⟩, s.nx env' σ' H' o' f' kq hf⟩
  · exact hp.elim
theorem sForO_i {q : Nat} {pg : PGt} {pb : PSt} {env : List SV} {k : PK'} {ds : List D} (e : env[q]? = some (.own (.lst ds))) (h : forQ q ds pg pb ds env k) : sForO q pg pb env k := by
  unfold sForO
  rw [e]
  exact h
/-- by an invariant -/
theorem forQ_i {q : Nat} {ds0 : List D} {pg : PGt} {pb : PSt} {k : PK'} (Inv : Nat → List SV → Prop) (hq : ∀ i env, Inv i env → env[q]? = some (.own (.lst ds0))) : ∀ (ds : List D) (n : Nat) {env : List SV}, Inv n env →
    (∀ (i : Nat) (d : D) (env : List SV), ds[i]? = some d → Inv (n + i) env → ∀ N : List SV → Prop, (∀ e, Inv (n + i + 1) e → N e) → pg d env fun env1 => pb env1 { nx := N, rt := k.rt, bk := k.nx, ct := N }) →
    (∀ env, Inv (n + ds.length) env → k.nx env) → forQ q ds0 pg pb ds env k
  | [], n, env, h0, _, hk => ⟨hq _ _ h0, hk env h0⟩
  | d :: ds, n, env, h0, hs, hk => by
    refine ⟨hq _ _ h0, hs 0 d env rfl h0 _ fun e he => forQ_i Inv hq ds (n + 1) he (fun i d' env' hd hI => ?_) fun env' hI => hk env' ?_⟩
    · have := hs (i + 1) d' env' hd (by rw [show n + (i + 1) = n + 1 + i by omega]; exact hI)
      rw [show n + (i + 1) = n + 1 + i by omega] at this
      exact this
    · rw [List.length_cons, show n + (ds.length + 1) = n + 1 + ds.length by omega]
      exact hI
theorem sSeq_forO {q : Nat} {pg : PGt} {pb : PSt} {Q : PSt} {env : List SV} {K : PK'} (h : sForO q pg pb env { K with nx := fun env' => Q env' K }) : sSeq (sForO q pg pb) Q env K := h
/-! a comprehension over a list of the def's own -/
def eLcO (q : Nat) (vs : List Nat) (pg : PGt) (pt : PTs') (pe : PX) : PX := fun env k => match env[q]? with
  | some (.own (.lst ds)) => noOwn env vs ∧ lcP pg pt pe (wipeE env vs) ds [] fun r => k (.lst r)
  | _ => False
theorem re_lcO {K : PySem.W.Frag} {q : Nat} {js vs : List Nat} {g : TG} {pg : PGt} {tt : TT} {pt : PTs'} {te : TE} {pe : PX} (hg : RG js g pg) (hj : ∀ i ∈ js, i ∈ vs) (ht : RT tt pt) (he : RE .e te pe) : RE .f (tLc (iList K (tVar q)) g tt te vs) (eLcO q vs pg pt pe) := fun z X H0 H σ env Q k o c hp => by
  unfold eLcO at hp
  split at hp
  · rename_i ds hq
    obtain ⟨hn, hx⟩ := hp
    obtain ⟨ad, q1, ⟨us, q5, q6⟩, q3, q4⟩ := o.own q _ hq
    refine ⟨_, q1, ad, rfl, ⟨us, SqL.of q5⟩, ?_⟩
    intro Da hD
    have hzD : ¬ z.Z Da := fun q => o.zal Da q hD
    refine ⟨fun i mm H' => mm = ds.length - i ∧ i ≤ ds.length ∧ ∃ accV accD, Evo z H H' ∧ H' Da = some (.lst accV) ∧ IsA z (Ms z (X.or Da) σ env) H' accV accD ∧ lcP pg pt pe (wipeE env vs) (ds.drop i) accD fun r => k (.lst r),
      ⟨ds.length, by simp, Nat.zero_le _, [], [], (Evo.refl _ _).new hD, upd_same, .nil, by simpa using hx⟩, ?_⟩
    rintro i mm H' ⟨rfl, hil, accV, accD, e', hacc, hA, hk⟩
    have oL : Ok z (X.or Da) H0 H' σ env := o.lock hD e' (by rw [hacc]; intro q; cases q)
    obtain ⟨a2, w1, ⟨us', w5, w6⟩, w3, w4⟩ := oL.own q _ hq
    rw [q1] at w1
    cases w1
    by_cases hlt : i < ds.length
    · obtain ⟨v, v1, v2⟩ := w6.get (List.getElem?_eq_getElem hlt)
      rw [List.drop_eq_getElem_cons hlt] at hk
      refine .inr ⟨⟨us', v, SqL.of w5, v1⟩, fun H2 => ∃ accV accD, Evo z H H2 ∧ H2 Da = some (.lst accV) ∧ IsA z (Ms z (X.or Da) σ env) H2 accV accD ∧ lcP pg pt pe (wipeE env vs) (ds.drop (i + 1)) accD fun r => k (.lst r), fun H2 h2 => ⟨ds.length - (i + 1), by omega, rfl, hlt, h2⟩, fun x H2 hy => ?_⟩
      obtain ⟨rfl, hy⟩ := hy
      have ey := hy us' (SqL.of w5)
      rw [v1] at ey
      cases ey
      obtain ⟨oW, sub⟩ := oL.wipe (vs := vs)
      refine hg z (X.or Da) H0 H2 _ _ _ _ _ _ oW (v2.weak sub) (fun env3 σ3 o3 f3 kp hx3 => ⟨wipe_eq kp hj, ?_⟩) hk
      refine ht z (X.or Da) H0 H2 σ3 env3 _ _ o3 (fun b H3 e3 hx4 => ?_) hx3
      have e13 := e'.trans e3
      have acc3 : H3 Da = some (.lst accV) := e3.old _ _ hacc hzD
      have A3 : IsA z (Ms z (X.or Da) σ env) H3 accV accD := hA.evo (fun _ q => .inl q) e3
      cases b with
      | false =>
        rw [if_neg Bool.false_ne_true]
        exact ⟨accV, accD, e13, acc3, A3, hx4⟩
      | true =>
        rw [if_pos rfl]
        refine he z (X.or Da) H0 H3 σ3 env3 _ _ (o3.go e3) (fun r y H4 e4 r4 hx5 => ?_) hx4
        refine ⟨accV, e4.old _ _ acc3 hzD, by rw [hA.length]; exact szl hx5.1, accV ++ [y], accD ++ [r], (e13.trans e4).mut hD hzD, upd_same, ?_, hx5.2⟩
        have ir : Is z (Ms z (X.or Da) σ env) H4 y r := Is.weak (ms_in hn hj kp) r4
        refine ((A3.evo (fun _ q => .inl q) e4).append (.cons ir .nil)).gen (fun b u q n => ⟨?_, n⟩) fun b hb => ok_mut hzD hb
        rw [upd_ne (fun w => n (by rw [w]; exact .inr (.inl (.inr rfl))))]
        exact q
    · have ei : i = ds.length := by omega
      subst ei
      rw [List.drop_length] at hk
      exact .inl ⟨⟨us', SqL.of w5, by rw [w6.length]; exact Nat.le_refl _⟩, c (.lst accD) (.ref Da) H' e' ⟨Da, rfl, hD, accV, hacc, hA⟩ hk⟩
  · exact hp.elim
section
variable {C : Cx} {fr : Bool} {tg elt : Expr} {ifs : List Expr} {js : List Nat} {g : TG} {pg : PGt} {pt : PTs'} {pe : PX} {scope : Scope} {own : List (Str × Nat)} {pos pq : Pos}
theorem s_ownLcO {i q : Nat} {x y : Str} {py spos : Pos} (hg : ∀ (s : Shared) (H : Hp) (Ca : Addr) (cl : List (Str × Addr)) (fp : List Addr), G (C.blk s H scope (compEnvC scope cl Ca C.env) fp) tg js g pg) (ht : ∀ (s : Shared) (H : Hp) (Ca : Addr) (cl : List (Str × Addr)) (fp : List Addr), Ts (C.blk s H scope (compEnvC scope cl Ca C.env) fp) ifs pt)
    (he : ∀ (s : Shared) (H : Hp) (Ca : Addr) (cl : List (Str × Addr)) (fp : List Addr), E .e (C.blk s H scope (compEnvC scope cl Ca C.env) fp) elt pe) (hc : C.calm = true) (hN : C.N.Nodup) (hy : C.N[i]? = some y) (hyl : C.env.scope.names.lookup y = some .local)
    (hsw : swapsWith (.ListComp elt [⟨tg, .Name x pq, ifs, 0⟩] scope pos) (some (.Name y py)) spos.line C.env = pure true) (ok : BlkOk C.N C.env.scope scope own) (hj : ∀ i ∈ js, i ∈ own.map (·.2)) (rg : RG js g pg) (hs : ∀ v, foldedSetIterable (.Name x pq) C.env v = pure v := by intro _; rfl)
    (hNq : C.N[q]? = some x := by rfl) (hv : Vis C.env.scope x := by first | exact Or.inl rfl | exact Or.inr (Or.inl rfl) | exact Or.inr (Or.inr rfl)) (hd : (x == ("__debug__" : Str)) = false := by decide) (hcd : (x == ("__classdict__" : Str)) = false := by decide) :
    S fr C (.Assign [.Name y py] (.ListComp elt [⟨tg, .Name x pq, ifs, 0⟩] scope pos) spos) (sOwn i (eLcO q (own.map (·.2)) pg pt pe)) :=
  ⟨_, ps_setLc hc hN hy hyl hsw (pi_list (pe_var hNq hv hd hcd)) ok (fun s H Ca cl fp => (hg s H Ca cl fp).pg) (fun s H Ca cl fp => (ht s H Ca cl fp).ex) (fun s H Ca cl fp => (he s H Ca cl fp).pe) hs, rs_own (re_lcO rg hj rt_tP re_tP)⟩
end
theorem eLcO_i {q : Nat} {vs : List Nat} {pg : PGt} {pt : PTs'} {pe : PX} {env : List SV} {k : D → Prop} {ds : List D} (e : env[q]? = some (.own (.lst ds))) (h : noOwn env vs ∧ lcP pg pt pe (wipeE env vs) ds [] fun r => k (.lst r)) : eLcO q vs pg pt pe env k := by
  unfold eLcO
  rw [e]
  exact h
end Pu

set_option maxHeartbeats 1000000
/-! all(.. for .. in ..), any(..): the generator's frame, its turns, who asks it -/
namespace GnX
open PySem PySem.Spec PyProof.Rows L2 GenW GxR

/-- the code of a generator's turns, the around in it -/
abbrev gCode (elt tg iter : Expr) (scope : Scope) (gpos : Pos) (it : Addr) (cenv : Env) : Code := .compLoop (.GeneratorExp elt [⟨tg, iter, [], 0⟩] scope gpos) 0 (.ref it) .none cenv
def gA (A : Around) (cenv : Env) : Around := A.in1.in1.deeper cenv
theorem over_gen {A : Around} {elt tg iter : Expr} {scope : Scope} {gpos : Pos} {it : Addr} {cenv : Env} : A.in1.in1.over (gCode elt tg iter scope gpos it cenv) [] = gA A cenv := by
  unfold gA
  first
    | rfl
    | (obtain ⟨hd, d, fr, gs, u⟩ := A; simp [Around.over, Around.deeper, marksOver, frameCount, unitsOf, envsOf, guardsOf, pushEnvs, pushGuards, Code.envs, Code.env?, Code.isFrame, Code.guards, Code.isGuard, Code.weight, Code.frames, Code.isCreation, Code.isCaller, Code.cUnits])
theorem room_gen {k : Nat} {A : Around} (r : Room (k + 1) A) (env : Env) : Room k (gA A env) :=
  ⟨r.hd, by have := r.dp; show A.depth + 1 + 3 * k + 5 < _; omega, by have := r.un; show A.units + 1 + 1 + 3 + 16 * k + 200 < _; omega⟩
/-- the context of a generator's frame: made at s, its iterator's objects at fp, its own object in pn -/
abbrev genCx (X : Cx) (s : Shared) (H : Hp) (cenv : Env) (fp : List Addr) (pn : List (Addr × Obj)) : Cx :=
  { X with s_0 := s, H_0 := H, env := cenv, A := gA X.A cenv, outer := X.stack, stack := cenv :: X.stack, ex := fp, fn := fun _ => false, pn := pn, xe := fun _ _ => False }
/-- the frame's environment -/
abbrev genE (X : Cx) (scope : Scope) (C : Addr) (code : Value) : Env := genEnv scope (cloFrom X.env.cells scope.names []) C code builtinsNs X.env
section
variable {X : Cx} {pins : List (Addr × Obj)} {σ : L2.St} {H : Hp} {s : Shared}
theorem gen_start {scope : Scope} {own : List (Str × Nat)} {fp : List Addr} {code : Value} {h' : Heap} {m0 : Str → Option Value} {go : Obj} {G : Array GenState} {tk : Nat} (I : Inv X pins σ H s) (ok : BlkOk X.N X.env.scope scope own) (hcell : ∀ y ∈ scope.names, y.2 ≠ .cell) (hN : X.N.Nodup)
    (hfp : ∀ b ∈ fp, FpOk X pins H b ∧ b < s.heap.objs.size) (hn : h'.Ns s.heap.objs.size m0) (sb : Heap.SameBut s.heap.objs.size (s.heap.push { cls := .type "frame", data := .dict #[] }) h') (hgo : ∀ v, go.data ≠ .cell v) (hgp : (h'.push go).get? h'.objs.size = some go) (hG : AllBare G) :
    Inv (genCx X s H (genE X scope s.heap.objs.size code) fp [(h'.objs.size, go)]) [] (wipe σ (own.map (·.2))) H { s with gens := G, toks := tk, heap := h'.push go } := by
  have hfree : ∀ y ∈ scope.names, y.2 = .free → ∃ c, X.env.cells.lookup y.1 = some c := fun y hy e => by
    rcases ok.free y hy e with k | k
    · exact I.ok.has _ (.inl k)
    · exact I.ok.has _ (.inr k)
  generalize hcenv : genE X scope s.heap.objs.size code = cenv
  have hsz : h'.objs.size = s.heap.objs.size + 1 := by rw [sb.1, Heap.size_push]
  have kp : ∀ b o, s.heap.get? b = some o → (h'.push go).get? b = some o := fun b o e => Heap.get?_push_of_some _ (sb.extBut b o (Nat.ne_of_lt (Heap.lt_size e)) (Heap.get?_push_of_some _ e))
  have hL : cenv.locals = s.heap.objs.size := by rw [← hcenv]; rfl
  have hcl : cenv.cells = cloFrom X.env.cells scope.names [] := by rw [← hcenv]; rfl
  have hsc : cenv.scope = scope := by rw [← hcenv]; rfl
  have hfr : cenv.frame = some s.heap.objs.size := by rw [← hcenv]; rfl
  have cm : ∀ {y c}, (y, c) ∈ cloFrom X.env.cells scope.names [] → X.env.cells.lookup y = some c ∧ c < s.heap.objs.size := fun {y c} hm => by
    rcases cloFrom_mem hm with hm | ⟨h1, rfl⟩
    · cases hm
    · obtain ⟨c, hc⟩ := hfree _ h1 rfl
      rw [hc]
      obtain ⟨w, z⟩ := I.cell _ _ hc
      exact ⟨rfl, z.lt⟩
  have mem : ∀ {y c}, cenv.cells.lookup y = some c → X.env.cells.lookup y = some c ∧ c < s.heap.objs.size := fun {y c} e => by
    rw [hcl] at e
    exact cm (PySem.mem_of_lookup e)
  have look : ∀ {y}, scope.names.lookup y = some .free → ∃ c, cenv.cells.lookup y = some c ∧ X.env.cells.lookup y = some c := fun {y} hl => by
    have hy : (y, NameKind.free) ∈ scope.names := PySem.mem_of_lookup hl
    obtain ⟨c', e'⟩ := mem_lookup (cloFrom_has (cells := X.env.cells) (acc := []) hy)
    rw [← hcl] at e'
    exact ⟨c', e', (mem e').1⟩
  have nocell : ∀ y, scope.names.lookup y ≠ some .cell := fun y e => hcell _ (PySem.mem_of_lookup e) rfl
  have okB : (genCx X s H cenv fp [(h'.objs.size, go)]).Ok := by
    refine ⟨I.ok.mod, by show cenv.scope.kind = _; rw [hsc]; exact ok.kind, by show cenv.globals = _; rw [← hcenv]; exact I.ok.glob, by show cenv.builtins = _; rw [← hcenv]; rfl, by show s.heap.objs.size ≤ cenv.locals; rw [hL]; exact Nat.le_refl _,
      fun y z c e1 e2 => ?_, fun y hy => ?_, fun y c z e => ?_, I.ok.hd, ?_, .inr ⟨rfl, by show cenv.frame = some cenv.locals; rw [hfr, hL]⟩, fun b hb => ⟨?_, fun y c e z => ?_⟩, I.bs, Nat.le_trans I.ok.bsz I.sz, fun b o e hb => ?_, fun b hb z => ?_, I.stack, I.stkFree⟩
    · exact I.ok.inj y z c (mem e1).1 (mem e2).1
    · show ∃ c, cenv.cells.lookup y = some c
      have hy : scope.names.lookup y = some .cell ∨ scope.names.lookup y = some .free := by
        have hy : cenv.scope.names.lookup y = some .cell ∨ cenv.scope.names.lookup y = some .free := hy
        rw [hsc] at hy
        exact hy
      rcases hy with hy | hy
      · exact absurd hy (nocell y)
      · obtain ⟨c, h1, _⟩ := look hy
        exact ⟨c, h1⟩
    · exact absurd (show false = true from z) (by simp)
    · show (gA X.A cenv).frames = some (cenv :: X.stack)
      show X.A.frames.map (cenv :: ·) = _
      rw [I.ok.frames]
      rfl
    · show b ≠ cenv.locals
      rw [hL]; exact Nat.ne_of_lt (hfp b hb).2
    · have e : cenv.cells.lookup y = some c := e
      exact (hfp b hb).1.2.2.2.2.1 y c (mem e).1 z
    · rcases (hfp b hb).1.2.2.2.1 with z | z
      · exact I.ok.noex b o e z
      · exact absurd (Nat.lt_of_lt_of_le (Heap.lt_size e) (Nat.le_trans I.ok.bsz z)) (Nat.lt_irrefl _)
    · rcases List.mem_cons.mp (I.stkSub b z) with z | z
      · exact (hfp b hb).1.2.1 z
      · exact (hfp b hb).1.2.2.1 z
  have nfs : h'.objs.size ∉ frs X.stack := fun z => by
    rcases List.mem_cons.mp (I.stkSub _ z) with z | z
    · have := I.lt
      rw [← z, hsz] at this
      exact absurd (Nat.lt_trans (Nat.lt_succ_self _) this) (Nat.lt_irrefl _)
    · exact I.nofs (a := h'.objs.size) (by omega) z
  refine ⟨okB, rfl, hG, Un.kept kp, ⟨m0, ?_, fun i y av e1 e2 e3 => ?_⟩, fun y c e => ?_, ?_, fun y c e => ?_, fun p hp => ?_, I.hok.kept kp, by rw [wipe_length]; exact I.len⟩
  · show Heap.Ns _ cenv.locals _
    rw [hL]
    exact hn.push _
  · obtain ⟨e2, hne⟩ := wipe_some e2
    have e3 : Vis scope y := by
      have e3 : Vis cenv.scope y := e3
      rw [hsc] at e3
      exact e3
    have hfr : scope.names.lookup y = some .free := by
      have no : ∀ k', scope.names.lookup y = some k' → ¬ (k' = .local ∨ k' = .cell) := fun k' e hh => by
        rcases ok.own _ (PySem.mem_of_lookup e) hh with e' | e'
        · obtain ⟨p, hp, hpy⟩ := List.mem_map.mp e'
          have e3 := ok.ix p hp
          have : p.1 = y := hpy
          rw [this] at e3
          exact hne (List.mem_map.mpr ⟨p, hp, nodup_ix hN e3 e1⟩)
        · exact e' (List.mem_of_getElem? e1)
      rcases e3 with e3 | e3 | e3
      · exact absurd (.inl rfl) (no _ e3)
      · exact absurd (.inr rfl) (no _ e3)
      · exact e3
    obtain ⟨m, hn, hl⟩ := I.loc
    have hvis : Vis X.env.scope y := (ok.free _ (PySem.mem_of_lookup hfr) rfl).elim (fun k => .inr (.inl k)) (fun k => .inr (.inr k))
    obtain ⟨w, r, q⟩ := hl i y av e1 e2 hvis
    refine ⟨w, r, .inr ⟨.inr (by show cenv.scope.names.lookup y = _; rw [hsc]; exact hfr), ?_⟩⟩
    obtain ⟨c, h1, h2⟩ := look hfr
    rcases q with ⟨k, _⟩ | ⟨_, c', e', z⟩
    · have k : X.env.scope.names.lookup y = some .local := k
      rcases ok.free _ (PySem.mem_of_lookup hfr) rfl with k' | k' <;> rw [show X.env.scope.names.lookup y = _ from k'] at k <;> cases k
    · rw [h2] at e'; cases e'
      exact ⟨c, h1, z.keeps kp⟩
  · have e : cenv.cells.lookup y = some c := e
    obtain ⟨w, z⟩ := I.cell y c (mem e).1
    exact ⟨w, z.keeps kp⟩
  · show H cenv.locals = none
    rw [hL]; exact I.hok.fresh (Nat.le_refl _)
  · have e : cenv.cells.lookup y = some c := e
    exact I.freeC y c (mem e).1
  · have hp : p ∈ [(h'.objs.size, go)] ++ [] := hp
    rw [List.append_nil] at hp
    rw [List.mem_singleton.mp hp]
    refine ⟨hgp, I.hok.fresh (by omega), ?_, nfs, hgo⟩
    show h'.objs.size ≠ cenv.locals
    rw [hL]; omega
end

/-! ### the turns -/
/-- while it sleeps nothing that stands is changed -/
structure Slp (s s' : Shared) : Prop where
  os : s'.os = s.os
  bare : AllBare s'.gens
  keep : ∀ b o, s.heap.get? b = some o → s'.heap.get? b = some o
/-- a truth comes out: fin: it goes on; else it is over -/
def gY (X : Cx) (fin : Bool) (Q : VK) : Protocol := fun _ _ v s kap =>
  ∃ (b : Bool) (σ : L2.St) (H : Hp), v = .bool b ∧ Inv X [] σ H s ∧ ((b = fin ∧ ∀ s', Slp s s' → kap (.send .none) s') ∨ (b ≠ fin ∧ Q (.bl b) H))
def gP (X : Cx) (fin : Bool) (Q : VK) (s : Shared) : Prop := ∃ (σ : L2.St) (H : Hp), Inv X [] σ H s ∧ Q (.bl fin) H
abbrev gR (X : Cx) (fin : Bool) (Q : VK) : GenEnd := fun _ _ r s => r = .ok .next ∧ gP X fin Q s
theorem inv_slp {X : Cx} {pins : List (Addr × Obj)} {σ : L2.St} {H : Hp} {s s' : Shared} (I : Inv X pins σ H s) (z : Slp s s') : Inv X pins σ H s' :=
  I.call' (ch := []) z.os (Un.kept z.keep) (I.hok.kept z.keep) z.bare fun b hb => absurd hb (by simp)
section
variable {X : Cx} {s3 : Shared} {H3 : Hp} {cenv : Env} {fp : List Addr} {pn : List (Addr × Obj)} {elt tg iter : Expr} {scope : Scope} {gpos : Pos} {it : Addr} {J : It} {tn : Nat → Heap → Prop} {g : TG} {te : TE} {σ0 : L2.St} {vs : List Nat} {fin : Bool} {Q : VK} {W : Nat → Nat → Hp → Prop}
theorem seg_loop (hc : X.calm = true) (T : Turn X.prog X.w X.K tg J fp it tn) (pg : PG (genCx X s3 H3 cenv fp pn) tg g) (pe : PE (genCx X s3 H3 cenv fp pn) elt te) (hco : cenv.scope.isCoroutine = false) (hpn : ∀ p ∈ pn, p.1 ∉ fp)
    (turn : ∀ i m H, W i m H → (J.stop i H ∧ Q (.bl fin) H) ∨ (J.go i H ∧ ∃ Nx : Hp → Prop, (∀ H', Nx H' → ∃ m', m' < m ∧ W (i + 1) m' H') ∧ ∀ x H', J.yld i H x H' → g x σ0 H' fun σ2 H2 => wipe σ2 vs = σ0 ∧ te σ2 H2 fun y H4 => ∃ b : Bool, y = .bl b ∧ ((b = fin ∧ Nx H4) ∨ (b ≠ fin ∧ Q (.bl b) H4)))) :
    ∀ (n m i : Nat) (H : Hp) (s₀ s : Shared), m < n → W i m H → Inv (genCx X s3 H3 cenv fp pn) [] σ0 H s → tn i s.heap → (∀ b ∈ fp, H b = none) →
      Seg (model X.prog X.w) X.A.in1.in1 (gR (genCx X s3 H3 cenv fp pn) fin Q) (gY (genCx X s3 H3 cenv fp pn) fin Q) n s₀ (gCode elt tg iter scope gpos it cenv) ((model X.prog X.w).den (gCode elt tg iter scope gpos it cenv)) [] s := by
  have stat : ∀ {σ' : L2.St} {H' : Hp} {s' : Shared}, Inv (genCx X s3 H3 cenv fp pn) [] σ' H' s' → (∀ b ∈ fp, H' b = none) → ∀ b ∈ fp, FpOk (genCx X s3 H3 cenv fp pn) [] H' b := fun {σ' H' s'} I' hn b hb =>
    ⟨hn b hb, (I'.ok.exf b hb).1, I'.ok.exfs b hb, .inl hb, fun x c e => (I'.ok.exf b hb).2 x c e, fun p hp e => by
      have hp : p ∈ pn ++ [] := hp
      rw [List.append_nil] at hp
      exact hpn p hp (by rw [e]; exact hb)⟩
  intro n
  induction n with
  | zero => intro m i H s₀ s hm; exact absurd hm (Nat.not_lt_zero _)
  | succ n ih =>
    intro m i H s₀ s hm w I st hn
    show Seg _ X.A.in1.in1 _ _ _ s₀ _ ((compTurn (.GeneratorExp elt [⟨tg, iter, [], 0⟩] scope gpos) 0 (.ref it) .none cenv).onRaise (leaving cenv)) [] s
    rw [compTurn_gen, Sem.onRaise_eq_wrap]
    refine seg_bind_wrap (wpAny_standAt ?_)
    rcases turn i m H w with ⟨stop, qq⟩ | ⟨go, Nx, hNx, step⟩
    · have td := T.done (genCx X s3 H3 cenv fp pn) rfl rfl rfl hc i [] s σ0 H (fun _ _ => False) I (stat I hn) st stop
      refine seg_bind_wrap ?_
      rw [over_gen]
      refine wpAny_mono td (fun r s6 ⟨hr, I6⟩ => ?_) fun _ _ z => z.elim
      subst hr
      exact seg_end (.ok .next) ⟨rfl, σ0, H, I6, qq⟩
    · have ti := T.item (genCx X s3 H3 cenv fp pn) rfl rfl rfl hc i [] s σ0 H (fun _ _ => False) I (stat I hn) st go
      refine seg_bind_wrap ?_
      rw [over_gen]
      refine wpAny_mono ti (fun r s6 ⟨u, hr, h6⟩ => ?_) fun _ _ z => z.elim
      subst hr
      refine seg_bind_wrap ?_
      rw [over_gen]
      refine wpAny_mono h6 (fun _ s7 ⟨x, H7, I7, r7, y7, st7, n7⟩ => ?_) fun _ _ z => z.elim
      have I7' := I7.pinned (stat I7 n7) (T.obj _ _ st7)
      refine seg_bind_wrap ?_
      rw [over_gen]
      refine wpAny_mono (pg.run _ s7 _ H7 x u _ I7' r7 (step x H7 y7)) (fun _ s8 ⟨σ8, H8, I8, hw8, q8⟩ => ?_) fun _ _ z => (show False from z).elim
      refine seg_bind_wrap ?_
      simp only [List.forIn_nil]
      refine wpAny_pure ?_
      simp only [if_true]
      have hy : ∀ v, yieldOut cenv v = yieldValue v := fun v => by simp only [yieldOut, hco, Bool.false_eq_true, if_false]
      simp only [hy]
      rw [Sem.bind_eq_wrap', Sem.bind_eq_wrap', Sem.wrap_wrap, Sem.wrap_wrap]
      refine seg_wrap ?_
      rw [over_gen]
      refine wpAny_mono (pe.run _ s8 σ8 H8 _ I8 q8) (fun v s10 ⟨yv, H10, I10, r10, b, eb, q10⟩ => ?_) fun _ _ z => (show False from z).elim
      subst eb
      obtain rfl : v = Value.bool b := r10
      refine seg_at (seg_yield rfl rfl rfl ⟨b, σ8, H10, rfl, I10.unpinned (pins := []), ?_⟩)
      rcases q10 with ⟨e, nx⟩ | ⟨e, q⟩
      · refine .inl ⟨e, fun s'' z => ?_⟩
        obtain ⟨m', hm', w'⟩ := hNx H10 nx
        have pin' : ∀ b ∈ fp, ∀ o, s7.heap.get? b = some o → s10.heap.get? b = some o ∧ H10 b = none := fun b hb o e =>
          let z := I10.pin (b, o) (List.mem_append_right _ (List.mem_append_right _ (mem_pinsAt hb e)))
          ⟨z.1, z.2.1⟩
        have hl : σ0.length = σ8.length := by rw [← hw8, wipe_length]
        have I11 : Inv (genCx X s3 H3 cenv fp pn) [] σ0 H10 s10 := (I10.unpinned (pins := [])).weak hl fun j v e => by
          rw [← hw8] at e
          exact (wipe_some e).1
        refine seg_again rfl (ih m' (i + 1) H10 s'' s'' (by omega) w' (inv_slp I11 z) (T.keep _ _ _ st7 fun b hb o e => z.keep b o (pin' b hb o e).1) fun b hb => ?_)
        obtain ⟨o, e, _⟩ := T.obj _ _ st7 b hb
        exact (pin' b hb o e).2
      · exact .inr ⟨e, q⟩
theorem seg_begin {n : Nat} {s₀ s : Shared} (T : Turn X.prog X.w X.K tg J fp it tn) (st : tn 0 s.heap)
    (loop : Seg (model X.prog X.w) X.A.in1.in1 (gR (genCx X s3 H3 cenv fp pn) fin Q) (gY (genCx X s3 H3 cenv fp pn) fin Q) n s₀ (gCode elt tg iter scope gpos it cenv) ((model X.prog X.w).den (gCode elt tg iter scope gpos it cenv)) [] s) :
    Seg (model X.prog X.w) X.A.in1.in1 (gR (genCx X s3 H3 cenv fp pn) fin Q) (gY (genCx X s3 H3 cenv fp pn) fin Q) n s₀ (.compStart (.GeneratorExp elt [⟨tg, iter, [], 0⟩] scope gpos) 0 (.ref it) .none cenv)
      ((model X.prog X.w).den (.compStart (.GeneratorExp elt [⟨tg, iter, [], 0⟩] scope gpos) 0 (.ref it) .none cenv)) [] s := by
  show Seg _ X.A.in1.in1 _ _ _ s₀ _ ((compStart (.GeneratorExp elt [⟨tg, iter, [], 0⟩] scope gpos) 0 (.ref it) .none cenv).onRaise (leaving cenv)) [] s
  unfold compStart
  rw [Sem.onRaise_eq_wrap]
  show Seg _ X.A.in1.in1 _ _ _ s₀ _ ((ask >>= _).wrap _ _ _ _) [] s
  refine seg_bind_wrap (wpAny_askSetting ?_)
  split
  · exact seg_again rfl loop
  · first
      | exact seg_bind_wrap (wpAny_rule (seg_bind_wrap (wpAny_standAt (seg_bind_wrap (T.self _ 0 s _ _ st (seg_again rfl loop))))))
      | (refine seg_bind_wrap (wpAny_rule ?_); show Seg _ X.A.in1.in1 _ _ _ s₀ _ ((standAt iter.pos >>= _).wrap _ _ _ _) [] s; exact seg_bind_wrap (wpAny_standAt (seg_bind_wrap (T.self _ 0 s _ _ st (seg_again rfl loop)))))
end

/-! ### who asks -/
section
variable {X : Cx} {s3 : Shared} {H3 : Hp} {cenv : Env} {fp : List Addr} {pn : List (Addr × Obj)} {Q : VK} {R : Result → Shared → Prop} {a : Addr} {g : Nat}
theorem all_loop (hh : X.A.handled = none) (hroom : X.A.depth < recursionLimit) (hgen : ∀ σ H s, Inv (genCx X s3 H3 cenv fp pn) [] σ H s → s.heap.IsGen a g)
    (hR : ∀ b σ H s, Inv (genCx X s3 H3 cenv fp pn) [] σ H s → Q (.bl b) H → R (.ok (.ret (.bool b))) s) :
    ∀ (n : Nat) (s : Shared), s.heap.IsGen a g → s.heap.NoLimit → (∃ gs, s.gens[g]? = some gs ∧ gs.Goes (model X.prog X.w) X.A.in1.in1 (gR (genCx X s3 H3 cenv fp pn) true Q) (gY (genCx X s3 H3 cenv fp pn) true Q) n (.send .none) (s.setGen g .running)) →
      codeAny (model X.prog X.w) X.A (.builtin "all.loop" ⟨[.ref a], []⟩) R s := by
  intro n
  induction n with
  | zero =>
    rintro s hg hl ⟨gs, hgs, hgo⟩
    refine codeAny_builtin F.entry_all_loop ?_
    rw [Around.under_plainId F.plain_all_loop _]
    show wpAny _ X.A.in1 (pyNext (.ref a) >>= _) _ _ s
    refine wpAny_bind (wpAny_pyNext_genexpQ (A := X.A.in1) (P := fun _ _ s₁ => gP (genCx X s3 H3 cenv fp pn) true Q s₁) hh hl hroom hg hgs hgo (fun v s₁ gs' hb hv => ?_) (fun s₁ hp h' hk => ?_))
    · obtain ⟨b, σ, H, rfl, I, ⟨e, k⟩ | ⟨e, q⟩⟩ := hv
      · exact (show False from k (s₁.setGen g gs') ⟨rfl, allBare_setGen I.bare hb, fun _ _ e => e⟩).elim
      · refine wpAny_bind (wpAny_holding (wpAny_truthy_bool ?_))
        refine wpAny_bind (wpAny_letGo ?_)
        have eb : b = false := by cases b <;> simp_all
        subst eb
        simp only [if_true, if_false, Bool.false_eq_true]
        refine wpAny_bind (wpAny_rule (wpAny_pure ?_))
        exact hR false σ H _ (inv_slp I ⟨rfl, allBare_setGen I.bare hb, fun _ _ e => e⟩) q
    · obtain ⟨σ, H, I, q⟩ := hp
      exact wpAny_bind (wpAny_rule (wpAny_pure (hR true σ H _ (inv_slp I ⟨rfl, allBare_setGen I.bare rfl, hk⟩) q)))
  | succ n ih =>
    rintro s hg hl ⟨gs, hgs, hgo⟩
    refine codeAny_builtin F.entry_all_loop ?_
    rw [Around.under_plainId F.plain_all_loop _]
    show wpAny _ X.A.in1 (pyNext (.ref a) >>= _) _ _ s
    refine wpAny_bind (wpAny_gsz (n := g + 1) (Array.getElem?_eq_some_iff.mp hgs).1 ?_)
    refine wpAny_mono (wpAny_pyNext_genexpQ (E := fun _ _ => False) (Q := fun r s' => g + 1 ≤ s'.gens.size → _) (A := X.A.in1) (P := fun _ _ s₁ => gP (genCx X s3 H3 cenv fp pn) true Q s₁) hh hl hroom hg hgs hgo (fun v s₁ gs' hb hv hsz => ?_) (fun s₁ hp h' hk hsz => ?_)) (fun _ _ z => z) fun _ _ z => z.elim
    · obtain ⟨b, σ, H, rfl, I, ⟨e, k⟩ | ⟨e, q⟩⟩ := hv
      · refine wpAny_bind (wpAny_holding (wpAny_truthy_bool ?_))
        refine wpAny_bind (wpAny_letGo ?_)
        subst e
        simp only [if_true, if_false, Bool.false_eq_true]
        refine wpAny_pure ⟨plainId_quiet F.plain_all_loop _, ?_⟩
        rw [setGen_size] at hsz
        have hI2 : Inv (genCx X s3 H3 cenv fp pn) [] σ H (s₁.setGen g gs') := inv_slp I ⟨rfl, allBare_setGen I.bare hb, fun _ _ e => e⟩
        refine ih _ (hgen σ H _ hI2) hI2.nolimit ⟨gs', setGen_at hsz, ?_⟩
        exact k _ ⟨rfl, allBare_setGen hI2.bare rfl, fun _ _ e => e⟩
      · refine wpAny_bind (wpAny_holding (wpAny_truthy_bool ?_))
        refine wpAny_bind (wpAny_letGo ?_)
        have eb : b = false := by cases b <;> simp_all
        subst eb
        simp only [if_true, if_false, Bool.false_eq_true]
        refine wpAny_bind (wpAny_rule (wpAny_pure ?_))
        exact hR false σ H _ (inv_slp I ⟨rfl, allBare_setGen I.bare hb, fun _ _ e => e⟩) q
    · obtain ⟨σ, H, I, q⟩ := hp
      exact wpAny_bind (wpAny_rule (wpAny_pure (hR true σ H _ (inv_slp I ⟨rfl, allBare_setGen I.bare rfl, hk⟩) q)))
theorem any_loop (hh : X.A.handled = none) (hroom : X.A.depth < recursionLimit) (hgen : ∀ σ H s, Inv (genCx X s3 H3 cenv fp pn) [] σ H s → s.heap.IsGen a g)
    (hR : ∀ b σ H s, Inv (genCx X s3 H3 cenv fp pn) [] σ H s → Q (.bl b) H → R (.ok (.ret (.bool b))) s) :
    ∀ (n : Nat) (s : Shared), s.heap.IsGen a g → s.heap.NoLimit → (∃ gs, s.gens[g]? = some gs ∧ gs.Goes (model X.prog X.w) X.A.in1.in1 (gR (genCx X s3 H3 cenv fp pn) false Q) (gY (genCx X s3 H3 cenv fp pn) false Q) n (.send .none) (s.setGen g .running)) →
      codeAny (model X.prog X.w) X.A (.builtin "any.loop" ⟨[.ref a], []⟩) R s := by
  intro n
  induction n with
  | zero =>
    rintro s hg hl ⟨gs, hgs, hgo⟩
    refine codeAny_builtin F.entry_any_loop ?_
    rw [Around.under_plainId F.plain_any_loop _]
    show wpAny _ X.A.in1 (pyNext (.ref a) >>= _) _ _ s
    refine wpAny_bind (wpAny_pyNext_genexpQ (A := X.A.in1) (P := fun _ _ s₁ => gP (genCx X s3 H3 cenv fp pn) false Q s₁) hh hl hroom hg hgs hgo (fun v s₁ gs' hb hv => ?_) (fun s₁ hp h' hk => ?_))
    · obtain ⟨b, σ, H, rfl, I, ⟨e, k⟩ | ⟨e, q⟩⟩ := hv
      · exact (show False from k (s₁.setGen g gs') ⟨rfl, allBare_setGen I.bare hb, fun _ _ e => e⟩).elim
      · refine wpAny_bind (wpAny_holding (wpAny_truthy_bool ?_))
        refine wpAny_bind (wpAny_letGo ?_)
        have eb : b = true := by cases b <;> simp_all
        subst eb
        simp only [if_true, if_false, Bool.false_eq_true]
        refine wpAny_bind (wpAny_rule (wpAny_pure ?_))
        exact hR true σ H _ (inv_slp I ⟨rfl, allBare_setGen I.bare hb, fun _ _ e => e⟩) q
    · obtain ⟨σ, H, I, q⟩ := hp
      exact wpAny_bind (wpAny_rule (wpAny_pure (hR false σ H _ (inv_slp I ⟨rfl, allBare_setGen I.bare rfl, hk⟩) q)))
  | succ n ih =>
    rintro s hg hl ⟨gs, hgs, hgo⟩
    refine codeAny_builtin F.entry_any_loop ?_
    rw [Around.under_plainId F.plain_any_loop _]
    show wpAny _ X.A.in1 (pyNext (.ref a) >>= _) _ _ s
    refine wpAny_bind (wpAny_gsz (n := g + 1) (Array.getElem?_eq_some_iff.mp hgs).1 ?_)
    refine wpAny_mono (wpAny_pyNext_genexpQ (E := fun _ _ => False) (Q := fun r s' => g + 1 ≤ s'.gens.size → _) (A := X.A.in1) (P := fun _ _ s₁ => gP (genCx X s3 H3 cenv fp pn) false Q s₁) hh hl hroom hg hgs hgo (fun v s₁ gs' hb hv hsz => ?_) (fun s₁ hp h' hk hsz => ?_)) (fun _ _ z => z) fun _ _ z => z.elim
    · obtain ⟨b, σ, H, rfl, I, ⟨e, k⟩ | ⟨e, q⟩⟩ := hv
      · refine wpAny_bind (wpAny_holding (wpAny_truthy_bool ?_))
        refine wpAny_bind (wpAny_letGo ?_)
        subst e
        simp only [if_true, if_false, Bool.false_eq_true]
        refine wpAny_pure ⟨plainId_quiet F.plain_any_loop _, ?_⟩
        rw [setGen_size] at hsz
        have hI2 : Inv (genCx X s3 H3 cenv fp pn) [] σ H (s₁.setGen g gs') := inv_slp I ⟨rfl, allBare_setGen I.bare hb, fun _ _ e => e⟩
        refine ih _ (hgen σ H _ hI2) hI2.nolimit ⟨gs', setGen_at hsz, ?_⟩
        exact k _ ⟨rfl, allBare_setGen hI2.bare rfl, fun _ _ e => e⟩
      · refine wpAny_bind (wpAny_holding (wpAny_truthy_bool ?_))
        refine wpAny_bind (wpAny_letGo ?_)
        have eb : b = true := by cases b <;> simp_all
        subst eb
        simp only [if_true, if_false, Bool.false_eq_true]
        refine wpAny_bind (wpAny_rule (wpAny_pure ?_))
        exact hR true σ H _ (inv_slp I ⟨rfl, allBare_setGen I.bare hb, fun _ _ e => e⟩) q
    · obtain ⟨σ, H, I, q⟩ := hp
      exact wpAny_bind (wpAny_rule (wpAny_pure (hR false σ H _ (inv_slp I ⟨rfl, allBare_setGen I.bare rfl, hk⟩) q)))
end

/-! ### the expression -/
/-- all (fin = true) or any (fin = false) of truths handed out; P: the running def's table -/
def tAskG (P : Addr) (fin : Bool) (wi : TI) (g : TG) (te : TE) (vs : List Nat) : TE := fun σ H Q => wi σ H fun J H1 => TabG H1 P ∧ ∀ H2, Tabbed P H1 H2 → ∃ W : Nat → Nat → Hp → Prop, (∃ m, W 0 m H2) ∧ ∀ i m H, W i m H →
  (J.stop i H ∧ Q (.bl fin) H) ∨ (J.go i H ∧ ∃ Nx : Hp → Prop, (∀ H', Nx H' → ∃ m', m' < m ∧ W (i + 1) m' H') ∧ ∀ x H', J.yld i H x H' → g x (wipe σ vs) H' fun σ2 H3 => wipe σ2 vs = wipe σ vs ∧ te σ2 H3 fun y H4 => ∃ b : Bool, y = .bl b ∧ ((b = fin ∧ Nx H4) ∨ (b ≠ fin ∧ Q (.bl b) H4)))
section
variable {X : Cx} {c P : Addr} {elt tg iter : Expr} {scope : Scope} {own : List (Str × Nat)} {gpos : Pos} {wi : TI} {g : TG} {te : TE} {k : Nat} {pins : List (Addr × Obj)} {σ : L2.St} {H : Hp} {s : Shared} {Q : VK} {fin : Bool} {Q' : Value → Shared → Prop}
/-- the generator is made -/
theorem made (hr : Room (k + 1) X.A) (hc : X.calm = true) (hN : X.N.Nodup) (TB : TabB X.base X.mg c P) (hcode : X.env.code = .ref c) (ok : BlkOk X.N X.env.scope scope own) (hcell : ∀ y ∈ scope.names, y.2 ≠ .cell) (h0 : scope.names.lookup (".0" : Str) = some NameKind.local) (hco : scope.isCoroutine = false)
    (hi : PI X tg iter wi) (hg : ∀ (s : Shared) (H : Hp) (C : Addr) (code : Value) (fp : List Addr) (pn : List (Addr × Obj)), PG (genCx X s H (genE X scope C code) fp pn) tg g) (he : ∀ (s : Shared) (H : Hp) (C : Addr) (code : Value) (fp : List Addr) (pn : List (Addr × Obj)), PE (genCx X s H (genE X scope C code) fp pn) elt te)
    (hs : ∀ v, genFold iter X.env v = pure v) (I : Inv X pins σ H s) (h : tAskG P fin wi g te (own.map (·.2)) σ H Q)
    (hQ : ∀ (a : Addr) (gn : Nat) (n : Nat) (s3 : Shared) (H3 : Hp) (cenv : Env) (fp : List Addr) (pn : List (Addr × Obj)) (s5 : Shared), s5.heap.IsGen a gn → s5.heap.NoLimit → (∀ σ' H' s', Inv (genCx X s3 H3 cenv fp pn) [] σ' H' s' → s'.heap.IsGen a gn) →
      (∀ σ' H' s', Inv (genCx X s3 H3 cenv fp pn) [] σ' H' s' → Inv X pins σ H' s') →
      (∃ gs, s5.gens[gn]? = some gs ∧ gs.Goes (model X.prog X.w) X.A.in1.in1 (gR (genCx X s3 H3 cenv fp pn) fin Q) (gY (genCx X s3 H3 cenv fp pn) fin Q) n (.send .none) (s5.setGen gn .running)) → Q' (.ref a) s5) :
    wpAny (model X.prog X.w) X.A (eval (.GeneratorExp elt [⟨tg, iter, [], 0⟩] scope gpos) X.env) Q' X.xe s := by
  have hfree : ∀ y ∈ scope.names, y.2 = .free → ∃ c, X.env.cells.lookup y.1 = some c := fun y hy e => by
    rcases ok.free y hy e with k | k
    · exact I.ok.has _ (.inl k)
    · exact I.ok.has _ (.inr k)
  refine wpAny_GeneratorExp_make hco (closure_ok hfree) hcell h0 ok.kind hr.depth ?_ hs
  refine thn (hi.run pins s σ H _ I h) fun xv s1 hx => thn hx fun itv s2 h2 => ?_
  obtain ⟨it, fp, tn, J, H2, e, I2, T, st2, f2, ⟨ps, hP, ht⟩, q⟩ := h2
  subst e
  have hPs : s2.heap.get? P = some { cls := .none, data := .fields ps } := I2.hok P _ hP
  have cd : PySem.W.CodeHd s2.heap c P := TB.code.keeps I2.bk
  have fpP : ∀ b ∈ fp, b ≠ P := fun b hb e => by
    have := (f2 b hb).1
    rw [e, hP] at this
    cases this
  have cont : ∀ (code : Value) (h3 : Heap) (tk : Nat) (ps' : Array Value), Heap.ExtBut P s2.heap h3 → s2.heap.objs.size ≤ h3.objs.size → h3.get? P = some { cls := .none, data := .fields ps' } → (∃ more, ps' = ps ++ more) → TriplesOk ps'.toList →
      wpAny (model X.prog X.w) X.A (builtinsFor X.env.globals X.env.builtins) (fun bi s₄ =>
        ∀ h', h'.Ns s₄.heap.objs.size (fun y => if y = ".0" then some (.ref it) else none) → Heap.SameBut s₄.heap.objs.size (s₄.heap.push { cls := .type "frame", data := .dict #[] }) h' →
          Q' (.ref h'.objs.size) { s₄ with
            gens := s₄.gens.push (.fresh (.compStart (.GeneratorExp elt [⟨tg, iter, [], 0⟩] scope gpos) 0 (.ref it) .none (genEnv scope (cloFrom X.env.cells scope.names []) s₄.heap.objs.size code bi X.env))),
            toks := s₄.toks + 1 + 1 + 1,
            heap := h'.push { cls := .type "generator", data := .fields #[.int s₄.gens.size 0, .str "<genexpr>" (s₄.toks + 1), .str (X.env.qual ++ "<genexpr>") (s₄.toks + 1 + 1)] } }) X.xe { s2 with heap := h3, toks := tk } := by
    intro code h3 tk ps' hx hsz hP3 hmore ht3
    obtain ⟨more, em⟩ := hmore
    obtain ⟨bm, ob, e1, e2, e3, e4, e5, e6, e7, e8⟩ := TB.bm
    have keep3 : ∀ b u, b ≠ P → s2.heap.get? b = some u → h3.get? b = some u := fun b u hb e => hx b u hb e
    refine wpAny_builtinsFor (m := X.mg) (by rw [I2.ok.glob]; exact ((I2.mod.glob.keeps I2.bk)).extBut hx TB.gP) e1 e2 (keep3 _ _ e4 (I2.bk _ _ e5)) e6 e7 e8 ?_
    have I3 : Inv X pins σ (upd H2 P (.tbl (ps ++ more))) { s2 with heap := h3, toks := tk } := inv_tab (more := more) (g' := s2.gens) (d' := s2.drawn) (t' := tk) I2 hP keep3 (by rw [← em]; exact hP3) I2.bare
    have tb : Tabbed P H2 (upd H2 P (.tbl (ps ++ more))) := ⟨⟨ps ++ more, upd_same, by rw [← em]; exact ht3⟩, fun b hb => upd_ne hb⟩
    obtain ⟨W, ⟨m0, w0⟩, turn⟩ := q _ tb
    have lt2 : ∀ b ∈ fp, b < s2.heap.objs.size := fun b hb => by
      obtain ⟨o, e, _⟩ := T.obj _ _ st2 b hb
      exact Heap.lt_size e
    have f3 : ∀ b ∈ fp, FpOk X pins (upd H2 P (.tbl (ps ++ more))) b ∧ b < h3.objs.size := fun b hb => by
      refine ⟨⟨?_, (f2 b hb).2⟩, Nat.lt_of_lt_of_le (lt2 b hb) hsz⟩
      rw [upd_ne (fpP b hb)]
      exact (f2 b hb).1
    generalize hs3 : ({ s2 with heap := h3, toks := tk } : Shared) = s3 at I3 ⊢
    have h33 : s3.heap = h3 := by rw [← hs3]
    rw [← h33] at f3
    intro h' hn' hs'
    have I5 := gen_start (code := code) (G := s3.gens.push (.fresh (.compStart (.GeneratorExp elt [⟨tg, iter, [], 0⟩] scope gpos) 0 (.ref it) .none (genE X scope s3.heap.objs.size code)))) (tk := s3.toks + 1 + 1 + 1)
      (go := { cls := .type "generator", data := .fields #[.int s3.gens.size 0, .str "<genexpr>" (s3.toks + 1), .str (X.env.qual ++ "<genexpr>") (s3.toks + 1 + 1)] }) I3 ok hcell hN f3 hn' hs' (fun v z => by cases z) (Heap.get?_push_size _ rfl) (AllBare.push I3.bare rfl)
    have hsz' : h'.objs.size = s3.heap.objs.size + 1 := by rw [hs'.1, Heap.size_push]
    have isgen : ∀ σ' H' s', Inv (genCx X s3 (upd H2 P (.tbl (ps ++ more))) (genE X scope s3.heap.objs.size code) fp [(h'.objs.size, { cls := .type "generator", data := .fields #[.int s3.gens.size 0, .str "<genexpr>" (s3.toks + 1), .str (X.env.qual ++ "<genexpr>") (s3.toks + 1 + 1)] })]) [] σ' H' s' → s'.heap.IsGen h'.objs.size s3.gens.size := fun σ' H' s' J' =>
      ⟨_, _, _, (J'.pin (h'.objs.size, _) (List.mem_append_left _ (List.mem_singleton.mpr rfl))).1, rfl, rfl, rfl⟩
    have keep5 : ∀ b o, s3.heap.get? b = some o → (h'.push { cls := .type "generator", data := .fields #[.int s3.gens.size 0, .str "<genexpr>" (s3.toks + 1), .str (X.env.qual ++ "<genexpr>") (s3.toks + 1 + 1)] }).get? b = some o := fun b o e => Heap.get?_push_of_some _ (hs'.extBut b o (Nat.ne_of_lt (Heap.lt_size e)) (Heap.get?_push_of_some _ e))
    have st3 : tn 0 s3.heap := T.keep _ _ _ st2 fun b hb o e => by rw [h33]; exact keep3 b o (fpP b hb) e
    have st5 := T.keep _ _ _ st3 fun b hb o e => keep5 b o e
    refine hQ h'.objs.size s3.gens.size (m0 + 1) s3 _ (genE X scope s3.heap.objs.size code) fp _ _ (isgen _ _ _ I5) I5.nolimit isgen (fun σ' H' s' J' => ?_) ⟨_, Array.getElem?_push_size .., rfl, ?_⟩
    · exact I3.call' (ch := fp) J'.os J'.base J'.hok J'.bare fun b hb => ⟨(f3 b hb).1.2.2.2.1, (f3 b hb).1.2.1, (f3 b hb).1.2.2.2.2.1, (f3 b hb).1.2.2.2.2.2⟩
    · refine seg_begin (J := J) T ?_ (seg_loop (W := W) hc T (hg s3 _ s3.heap.objs.size code fp _) (he s3 _ s3.heap.objs.size code fp _) hco ?_ turn (m0 + 1) m0 0 _ _ _ (Nat.lt_succ_self _) w0 (inv_slp I5 ⟨rfl, allBare_setGen I5.bare rfl, fun _ _ e => e⟩) ?_ fun b hb => (f3 b hb).1.1)
      · exact st5
      · intro p hp z
        rw [List.mem_singleton.mp hp] at z
        have := (f3 _ z).2
        rw [hsz'] at this
        exact absurd (Nat.lt_trans (Nat.lt_succ_self _) this) (Nat.lt_irrefl _)
      · exact st5
  refine ⟨I2.nolimit, ?_⟩
  cases hf : codeAmong gpos ps.toList with
  | none =>
    refine wpAny_genexprCodeX hcode (cd.code hPs ht) (cd.tab hPs) hf fun c' h' tk hx hge hlt hco' _ htab' _ => ?_
    obtain ⟨o1, vs, f1, tf, fl, tg, inF, tx, tt, op, _, _, _, _, _, _, _, _, _, htr, _⟩ := hco'
    exact cont _ h' tk _ hx (Nat.le_trans hge (Nat.le_of_lt hlt)) htab'.2 ⟨_, rfl⟩ htr
  | some cv =>
    refine wpAny_genexprCode_hit hcode (cd.code hPs ht) hf ?_
    exact cont cv s2.heap s2.toks ps (Heap.ExtBut.refl _ _) (Nat.le_refl _) hPs ⟨#[], by simp⟩ ht
end
section
variable {X : Cx} {c P : Addr} {elt tg iter : Expr} {scope : Scope} {own : List (Str × Nat)} {p pos gpos : Pos} {wi : TI} {g : TG} {te : TE} {k : Nat}
theorem pe_allG (hr : Room (k + 1) X.A) (hc : X.calm = true) (hN : X.N.Nodup) (hgl : Gl X "all") (hm : X.mg "all" = none) (TB : TabB X.base X.mg c P) (hcode : X.env.code = .ref c) (ok : BlkOk X.N X.env.scope scope own) (hcell : ∀ y ∈ scope.names, y.2 ≠ .cell) (h0 : scope.names.lookup (".0" : Str) = some NameKind.local) (hco : scope.isCoroutine = false)
    (hi : PI X tg iter wi) (hg : ∀ (s : Shared) (H : Hp) (C : Addr) (code : Value) (fp : List Addr) (pn : List (Addr × Obj)), PG (genCx X s H (genE X scope C code) fp pn) tg g) (he : ∀ (s : Shared) (H : Hp) (C : Addr) (code : Value) (fp : List Addr) (pn : List (Addr × Obj)), PE (genCx X s H (genE X scope C code) fp pn) elt te)
    (hs : ∀ v, genFold iter X.env v = pure v := by intro _; rfl)
    (hst : starEach [.GeneratorExp elt [⟨tg, iter, [], 0⟩] scope gpos] X.env = (false, eval (.GeneratorExp elt [⟨tg, iter, [], 0⟩] scope gpos) X.env) :: starEach [] X.env := by rfl) :
    PE X (.Call (.Name "all" p) [.GeneratorExp elt [⟨tg, iter, [], 0⟩] scope gpos] [] pos) (tAskG P true wi g te (own.map (·.2))) := by
  refine ⟨fun pins s σ H Q I h => ?_⟩
  refine wpAny_Call_Name_kw (ld_blt I hgl hm (u := .builtin "all") (by first | rfl | decide +kernel) ?_ (by first | decide +kernel | decide) (by first | decide +kernel | decide))
  refine PyProof.Rows.callWith_builtin1 ?_ hst (by rfl)
  rw [hst]
  show wpAny _ _ (spliced ((false, eval (.GeneratorExp elt [⟨tg, iter, [], 0⟩] scope gpos) X.env) :: backTo pos (starEach [] X.env))) _ _ s
  refine Calls.spliced_cons (made hr hc hN TB hcode ok hcell h0 hco hi hg he hs I h fun a gn n s3 H3 cenv fp pn s5 i1 i2 i3 i4 i5 => ?_)
  refine Calls.spliced_nil ?_
  refine call_function_tree F.kind_all F.plain_all F.entry_all (F.args_all1 _) ?_
  unfold Builtin.«all»
  refine wpAny_bind (m := oneArg "all" _) (wpAny_pure ?_)
  refine wpAny_bind (wpAny_pyIter_gen i1 ?_)
  exact wpAny_pure ⟨plainId_quiet F.plain_all_loop _, all_loop hr.hd hr.depth i3 (fun b σ' H' s' J' q => ⟨.bl b, H', i4 σ' H' s' J', rfl, q⟩) n s5 i1 i2 i5⟩
theorem pe_anyG (hr : Room (k + 1) X.A) (hc : X.calm = true) (hN : X.N.Nodup) (hgl : Gl X "any") (hm : X.mg "any" = none) (TB : TabB X.base X.mg c P) (hcode : X.env.code = .ref c) (ok : BlkOk X.N X.env.scope scope own) (hcell : ∀ y ∈ scope.names, y.2 ≠ .cell) (h0 : scope.names.lookup (".0" : Str) = some NameKind.local) (hco : scope.isCoroutine = false)
    (hi : PI X tg iter wi) (hg : ∀ (s : Shared) (H : Hp) (C : Addr) (code : Value) (fp : List Addr) (pn : List (Addr × Obj)), PG (genCx X s H (genE X scope C code) fp pn) tg g) (he : ∀ (s : Shared) (H : Hp) (C : Addr) (code : Value) (fp : List Addr) (pn : List (Addr × Obj)), PE (genCx X s H (genE X scope C code) fp pn) elt te)
    (hs : ∀ v, genFold iter X.env v = pure v := by intro _; rfl)
    (hst : starEach [.GeneratorExp elt [⟨tg, iter, [], 0⟩] scope gpos] X.env = (false, eval (.GeneratorExp elt [⟨tg, iter, [], 0⟩] scope gpos) X.env) :: starEach [] X.env := by rfl) :
    PE X (.Call (.Name "any" p) [.GeneratorExp elt [⟨tg, iter, [], 0⟩] scope gpos] [] pos) (tAskG P false wi g te (own.map (·.2))) := by
  refine ⟨fun pins s σ H Q I h => ?_⟩
  refine wpAny_Call_Name_kw (ld_blt I hgl hm (u := .builtin "any") (by first | rfl | decide +kernel) ?_ (by first | decide +kernel | decide) (by first | decide +kernel | decide))
  refine PyProof.Rows.callWith_builtin1 ?_ hst (by rfl)
  rw [hst]
  show wpAny _ _ (spliced ((false, eval (.GeneratorExp elt [⟨tg, iter, [], 0⟩] scope gpos) X.env) :: backTo pos (starEach [] X.env))) _ _ s
  refine Calls.spliced_cons (made hr hc hN TB hcode ok hcell h0 hco hi hg he hs I h fun a gn n s3 H3 cenv fp pn s5 i1 i2 i3 i4 i5 => ?_)
  refine Calls.spliced_nil ?_
  refine call_function_tree F.kind_any F.plain_any F.entry_any (F.args_any1 _) ?_
  unfold Builtin.«any»
  refine wpAny_bind (m := oneArg "any" _) (wpAny_pure ?_)
  refine wpAny_bind (wpAny_pyIter_gen i1 ?_)
  exact wpAny_pure ⟨plainId_quiet F.plain_any_loop _, any_loop hr.hd hr.depth i3 (fun b σ' H' s' J' q => ⟨.bl b, H', i4 σ' H' s' J', rfl, q⟩) n s5 i1 i2 i5⟩
end
end GnX


set_option maxHeartbeats 1000000
namespace Pu
open PySem PySem.Spec PyProof.Rows L2
variable [Tbs]
open GnX GxR
/-! ### all, any of a generator expression -/
def askP (fin : Bool) (pg : PGt) (pe : PX) (env : List SV) : List D → (D → Prop) → Prop
  | [], k => k (.bl fin)
  | d :: ds, k => pg d env fun env1 => pe env1 fun r => match r with
    | .bl b => if b = fin then askP fin pg pe env ds k else k (.bl b)
    | _ => False
def eAsk (fin : Bool) (vs : List Nat) (pi : PIt) (pg : PGt) (pe : PX) : PX := fun env k => pi env fun ds => noOwn env vs ∧ askP fin pg pe (wipeE env vs) ds k
theorem evo_tab {z : Zn} {H1 H2 : Hp} {P : Addr} (hP : P ∈ Tbs.tb) (ht : Tabs H1) (tb : Tabbed P H1 H2) : Evo z H1 H2 := by
  obtain ⟨ps, e, _⟩ := ht P hP
  refine ⟨fun a o q n => ?_, fun a q => ?_, fun a q => ?_, fun h R hR => ?_⟩
  · rw [tb.2 a (fun w => n (.inr (by rw [w]; exact hP)))]; exact q
  · by_cases w : a = P
    · obtain ⟨ps', e', _⟩ := tb.1
      rw [w, e']; intro q; cases q
    · rw [tb.2 a w]; exact q
  · obtain ⟨q1, q2, q3, q4⟩ := q
    obtain ⟨n1, n2⟩ := q3.notbl e
    exact ⟨q1, q2, q3.keep (fun o q => by rw [tb.2 _ n1]; exact q) (fun o q => by rw [tb.2 _ n2]; exact q), q4.keep fun o q => by rw [tb.2 _ n1]; exact q⟩
  · by_cases w : R = P
    · rw [w]; exact tb.1
    · obtain ⟨ps', e', t'⟩ := h R hR
      exact ⟨ps', by rw [tb.2 R w]; exact e', t'⟩
theorem re_ask {P : Addr} {fin : Bool} {wi : TI} {pi : PIt} {js vs : List Nat} {g : TG} {pg : PGt} {te : TE} {pe : PX} (hP : P ∈ Tbs.tb) (hi : RI wi pi) (hg : RG js g pg) (hj : ∀ i ∈ js, i ∈ vs) (he : RE .b te pe) : RE .e (tAskG P fin wi g te vs) (eAsk fin vs pi pg pe) := fun z X H0 H σ env Q k o c hp => by
  refine hi z X H0 H σ env _ _ o (fun ds J H1 e1 yl hx => ?_) hp
  obtain ⟨hn, hx⟩ := hx
  have o1 := o.go e1
  refine ⟨o1.tab P hP, fun H2 tb => ?_⟩
  have e2 : Evo z H1 H2 := evo_tab hP o1.tab tb
  refine ⟨fun i mm H' => mm = ds.length - i ∧ i ≤ ds.length ∧ Evo z H1 H' ∧ askP fin pg pe (wipeE env vs) (ds.drop i) k, ⟨ds.length, by simp, Nat.zero_le _, e2, by simpa using hx⟩, ?_⟩
  rintro i mm H' ⟨rfl, hil, e', hk⟩
  have oL := o1.go e'
  obtain ⟨y1, y2⟩ := yl _ _ (o1.fr e')
  by_cases hlt : i < ds.length
  · obtain ⟨go, y3⟩ := y2 i ds[i] (List.getElem?_eq_getElem hlt)
    rw [List.drop_eq_getElem_cons hlt] at hk
    refine .inr ⟨go, fun H2 => Evo z H1 H2 ∧ askP fin pg pe (wipeE env vs) (ds.drop (i + 1)) k, fun H2 h2 => ⟨ds.length - (i + 1), by omega, rfl, hlt, h2⟩, fun x H2 hy => ?_⟩
    obtain ⟨e3, is⟩ := y3 x H2 hy
    have oL2 := oL.go e3
    obtain ⟨oW, sub⟩ := oL2.wipe (vs := vs)
    refine hg z X H0 H2 _ _ x _ _ _ oW ((is (fun a q => .inl q) (fun b q => oL.notMs q)).weak sub) (fun env3 σ3 o3 f3 kp hx3 => ⟨wipe_eq kp hj, ?_⟩) hk
    refine he z X H0 H2 σ3 env3 _ _ o3 (fun r y H4 e4 r4 hx5 => ?_) hx3
    have e5 := e'.trans (e3.trans e4)
    cases r with
    | bl b =>
      cases (show Is z (Zx z X) H4 y (.bl b) from r4)
      refine ⟨b, rfl, ?_⟩
      replace hx5 : (if b = fin then askP fin pg pe (wipeE env vs) (ds.drop (i + 1)) k else k (.bl b)) := hx5
      by_cases hb : b = fin
      · exact .inl ⟨hb, e5, by rw [if_pos hb] at hx5; exact hx5⟩
      · exact .inr ⟨hb, c (.bl b) (.bl b) H4 (e1.trans e5) (.bl b) (by rw [if_neg hb] at hx5; exact hx5)⟩
    | _ => exact (show False from hx5).elim
  · have ei : i = ds.length := by omega
    subst ei
    rw [List.drop_length] at hk
    exact .inl ⟨y1, c (.bl fin) (.bl fin) H' (e1.trans e') (.bl fin) hk⟩
section
variable {C : Cx} {c P : Addr} {elt tg iter : Expr} {scope : Scope} {own : List (Str × Nat)} {p pos gpos : Pos} {pi : PIt} {js : List Nat} {g : TG} {pg : PGt} {pe : PX} {k : Nat}
/-- the scope of a generator expression: no cells, the walked thing at «.0» -/
def genC (scope : Scope) : Bool := (scope.names.all fun y => match y.2 with | .cell => false | _ => true) && (match scope.names.lookup (".0" : Str) with | some .local => true | _ => false) && !scope.isCoroutine
theorem genC_of (h : genC scope = true) : (∀ y ∈ scope.names, y.2 ≠ .cell) ∧ scope.names.lookup (".0" : Str) = some NameKind.local ∧ scope.isCoroutine = false := by
  unfold genC at h
  simp only [Bool.and_eq_true, List.all_eq_true, Bool.not_eq_true'] at h
  obtain ⟨⟨h1, h2⟩, h3⟩ := h
  refine ⟨fun y hy e => ?_, ?_, h3⟩
  · have := h1 y hy
    rw [e] at this
    cases this
  · split at h2
    · assumption
    · cases h2
theorem e_all (hr : Room (k + 1) C.A) (hi : I C tg iter pi) (hg : ∀ (s : Shared) (H : Hp) (Ca : Addr) (code : Value) (fp : List Addr) (pn : List (Addr × Obj)), G (genCx C s H (genE C scope Ca code) fp pn) tg js g pg)
    (he : ∀ (s : Shared) (H : Hp) (Ca : Addr) (code : Value) (fp : List Addr) (pn : List (Addr × Obj)), Room k (genCx C s H (genE C scope Ca code) fp pn).A → E .b (genCx C s H (genE C scope Ca code) fp pn) elt pe) (hc : C.calm = true) (hN : C.N.Nodup)
    (hgl : Gl C "all") (hm : C.mg "all" = none) (TB : TabB C.base C.mg c P) (hP : P ∈ Tbs.tb) (hcode : C.env.code = .ref c) (ok : BlkOk C.N C.env.scope scope own) (gc : genC scope = true) (hj : ∀ i ∈ js, i ∈ own.map (·.2)) (rg : RG js g pg) (hs : ∀ v, genFold iter C.env v = pure v := by intro _; rfl)
    (hst : starEach [.GeneratorExp elt [⟨tg, iter, [], 0⟩] scope gpos] C.env = (false, eval (.GeneratorExp elt [⟨tg, iter, [], 0⟩] scope gpos) C.env) :: starEach [] C.env := by rfl) :
    E .e C (.Call (.Name "all" p) [.GeneratorExp elt [⟨tg, iter, [], 0⟩] scope gpos] [] pos) (eAsk true (own.map (·.2)) pi pg pe) :=
  ⟨_, pe_allG hr hc hN hgl hm TB hcode ok (genC_of gc).1 (genC_of gc).2.1 (genC_of gc).2.2 hi.pi (fun s H Ca code fp pn => (hg s H Ca code fp pn).pg) (fun s H Ca code fp pn => (he s H Ca code fp pn (room_gen hr _)).pe) hs hst, re_ask hP ri_tP rg hj re_tP⟩
theorem e_any (hr : Room (k + 1) C.A) (hi : I C tg iter pi) (hg : ∀ (s : Shared) (H : Hp) (Ca : Addr) (code : Value) (fp : List Addr) (pn : List (Addr × Obj)), G (genCx C s H (genE C scope Ca code) fp pn) tg js g pg)
    (he : ∀ (s : Shared) (H : Hp) (Ca : Addr) (code : Value) (fp : List Addr) (pn : List (Addr × Obj)), Room k (genCx C s H (genE C scope Ca code) fp pn).A → E .b (genCx C s H (genE C scope Ca code) fp pn) elt pe) (hc : C.calm = true) (hN : C.N.Nodup)
    (hgl : Gl C "any") (hm : C.mg "any" = none) (TB : TabB C.base C.mg c P) (hP : P ∈ Tbs.tb) (hcode : C.env.code = .ref c) (ok : BlkOk C.N C.env.scope scope own) (gc : genC scope = true) (hj : ∀ i ∈ js, i ∈ own.map (·.2)) (rg : RG js g pg) (hs : ∀ v, genFold iter C.env v = pure v := by intro _; rfl)
    (hst : starEach [.GeneratorExp elt [⟨tg, iter, [], 0⟩] scope gpos] C.env = (false, eval (.GeneratorExp elt [⟨tg, iter, [], 0⟩] scope gpos) C.env) :: starEach [] C.env := by rfl) :
    E .e C (.Call (.Name "any" p) [.GeneratorExp elt [⟨tg, iter, [], 0⟩] scope gpos] [] pos) (eAsk false (own.map (·.2)) pi pg pe) :=
  ⟨_, pe_anyG hr hc hN hgl hm TB hcode ok (genC_of gc).1 (genC_of gc).2.1 (genC_of gc).2.2 hi.pi (fun s H Ca code fp pn => (hg s H Ca code fp pn).pg) (fun s H Ca code fp pn => (he s H Ca code fp pn (room_gen hr _)).pe) hs hst, re_ask hP ri_tP rg hj re_tP⟩
end
/-! // by a great divisor -/
abbrev dDivW := dII CDivW fun i j => .int (i / j)
theorem opd_divW : OpD .b .e (rI CDivW fun i j => .int (i / j)) dDivW := opd_II fun i j _ _ _ => .int _
theorem dDivW_i {i j : Int} {k : D → Prop} (h0 : 0 < j) (h1 : j < 18446744073709551616) (h : k (.int (i / j))) : dDivW (.int i) (.int j) k := dII_i (wide_div (b := 64) h0 (by omega) (by decide) (by decide)) h
/-! ### a def that holds a generator expression -/
section
variable {P : Program} {w : World} {K : PySem.W.Frag} {mg : Str → Option Value} {base : Heap}
theorem fn_okT {x qual : Str} {st : Stmt} {f c : Addr} {fd : FuncData} {N ps : List Str} {k : Nat} {fr : Bool} {p : PSt} (F : Fun K x qual st f fd) (hc : fd.code = .ref c) (S : FnScope N ps (defScope st))
    (hb : ∀ (A : Around) (outer : List Env) (s : Shared) (H : Hp) (E : XK), Room k (A.deeper (envOfC qual (defScope st) s.heap.objs.size f (.ref c))) → B fr (cxOf CX0 P w K mg base N qual (defScope st) f (.ref c) A outer s H E).nox (defBody st) p) :
    FnOk P w K mg base CX0 (k + 1) f fd ps (Sf fr ps.length (wpOf fr N.length p)) := by
  obtain ⟨oc, od, kV, doc, pm, an, cdv, ct, osl, rfl, lk, hcd⟩ := F.ex
  obtain rfl : cdv = .ref c := hc
  refine fn_of lk hcd S (fun vs H Q E h => ?_) fun A outer s H vs Q E hr h => ?_
  · obtain ⟨z, X, ds, kk, hl, _⟩ := h
    exact hl
  · obtain ⟨z, X, ds, kk, hl, hz, hx, hA, hw, c⟩ := h
    obtain ⟨t, b1, b2⟩ := hb A outer s H E hr
    refine ⟨t, b1.nox, b2 z X H H (L2.start N vs) _ _ { nx := fun _ => fr = false ∧ kk .non, rt := kk } (start_ok hz hx hA) ⟨fun env' σ' H' o' f' hk => ?_, fun d v H' e r fq hk => ?_, fun _ _ _ _ _ hk => hk.elim, fun _ _ _ _ _ hk => hk.elim, fun _ _ _ _ _ _ _ h => h.elim⟩ hw⟩
    · exact c .non .non H' o'.evo .non (fun q => by rw [hk.1] at q; cases q) hk.2
    · exact c d v H' e r fq hk
end
/-! ### readings -/
theorem eAsk_i {fin : Bool} {vs : List Nat} {pi : PIt} {pg : PGt} {pe : PX} {env : List SV} {k : D → Prop} (h : pi env fun ds => noOwn env vs ∧ askP fin pg pe (wipeE env vs) ds k) : eAsk fin vs pi pg pe env k := h
/-- each element's truth is known -/
theorem askP_i {fin : Bool} {pg : PGt} {pe : PX} {env : List SV} {k : D → Prop} {α : Type} (f : α → D) (b : α → Bool) : ∀ (l : List α), (∀ x ∈ l, ∀ k' : D → Prop, k' (.bl (b x)) → pg (f x) env fun env1 => pe env1 k') → k (.bl (if fin = true then l.all b else l.any b)) → askP fin pg pe env (l.map f) k
  | [], _, h => by cases fin <;> exact h
  | x :: l, hs, h => by
    refine hs x List.mem_cons_self _ ?_
    show (if b x = fin then askP fin pg pe env (l.map f) k else k (.bl (b x)))
    by_cases e : b x = fin
    · rw [if_pos e]
      refine askP_i f b l (fun y hy => hs y (List.mem_cons_of_mem _ hy)) ?_
      cases fin
      · rw [if_neg Bool.false_ne_true] at h ⊢
        rw [List.any_cons, e, Bool.false_or] at h
        exact h
      · rw [if_pos rfl] at h ⊢
        rw [List.all_cons, e, Bool.true_and] at h
        exact h
    · rw [if_neg e]
      cases fin
      · rw [if_neg Bool.false_ne_true, List.any_cons] at h
        have : b x = true := by cases q : b x <;> simp_all
        rw [this] at h ⊢
        exact h
      · rw [if_pos rfl, List.all_cons] at h
        have : b x = false := by cases q : b x <;> simp_all
        rw [this] at h ⊢
        exact h
/-! ### the law's end, with tables -/
omit [Tbs] in
theorem tabIn_mk {K : PySem.W.Frag} {x : Str} {f q p : Addr} {oc ec : Value} {od ed : Option Addr} {fd : FuncData} {sl es : Array (Option Value)} {ev : Array Value} (a : PySem.W.nsIn K mainGlobals x = some (some (.ref f))) (l : K.lookup f = some ⟨oc, od, .func fd, sl⟩) (hc : fd.code = .ref q)
    (u : K.lookup q = some ⟨ec, ed, .fields ev, es⟩) (w : ev[11]? = some (.ref p)) : PySem.W.tabIn K x = some (q, p) := by
  unfold PySem.W.tabIn
  simp only [a, l, hc, u, w]
omit [Tbs] in
theorem walkT {l : PySem.W.OpenLaw} {q : Program} {loose : List Str} {XP : (Str → Option Value) → Heap → Prop} {YP : World → Heap → Prop} {d : DefRec} {K : Params → PySem.W.Frag} {k : Nat} (hn : l.most = some 63) (hdf : d.params.defaults = []) (hr : Room k callerA)
    (hY : ∀ (w : World) (h : Heap), YP w h → (K w.params).In h) (names : List Str) (hrec : (names.all fun x => ((recsOf q).find? fun e => e.name == x).isSome) = true)
    (F : ∀ (w : World) (mg : Str → Option Value) (fa : Addr) (h : Heap), (K w.params).In h → h.Ns mainGlobals mg → mg d.name = some (.ref fa) →
      ∃ (fd : FuncData) (cs : List (Addr × Addr)), (∀ p ∈ cs, ∃ x ∈ names, PySem.W.tabIn (K w.params) x = some p) ∧ (∀ p ∈ cs, (K w.params).lookup p.2 = none) ∧ (∀ (s : Shared) (u : Value), BindsTo s fd ⟨[u], []⟩ [("_law_script", u)]) ∧
        ∀ base : Heap, (K w.params).In base → base.Ns mainGlobals mg → (∀ p ∈ cs, TabB base mg p.1 p.2) → FnOk l.prog w (K w.params) mg base CX0 k fa fd ["_law_script"] (sp_lawT (K w.params) (cs.map (·.2)))) :
    PySem.W.WalkO q loose XP YP l.row.toRowW d [] (fun f vs => PySem.call f vs) := by
  refine Att.attach_call hn hdf fun w s₀ s₁ mg mb fa o pm cd doc a vs ns G Y _ _ _ hmg hobj hints hlen hg => ?_
  have KX := hY w _ Y
  obtain ⟨fd, cs, hx, nT, hb, hF⟩ := F w mg fa _ KX G.T.g hmg
  have hT : ∀ p ∈ cs, PySem.W.CodeHd s₁.heap p.1 p.2 ∧ s₁.heap.get? p.2 = some (PySem.W.tabObj #[]) := fun p hp => by
    obtain ⟨x, hxn, e⟩ := hx p hp
    obtain ⟨d', hd'⟩ := Option.isSome_iff_exists.mp (List.all_eq_true.mp hrec x hxn)
    exact PySem.W.tab_of G.T KX hd' e
  refine LamX.law_callTs (CX := CX0) KX G.T.g G.T.b G.T.builtins G.T.nolimit hg (fun p hp => (hT p hp).2) nT (fun p hp => (hT p hp).1) G.T.bmain hobj hints (Nat.le_trans hlen (by decide)) hr (fun base b1 b2 TB => hF base b1 b2 fun p hp => ⟨(TB p hp).1, (TB p hp).2, (TB p hp).3⟩) hb (fun H hH hS => ⟨a, ns, rfl, hS, hlen, fun P hP => ?_, fun _ => rfl⟩) fun H e s' z => z
  obtain ⟨p, hp, rfl⟩ := List.mem_map.mp hP
  exact ⟨#[], hH p hp, by first | trivial | exact .nil | (simp [TriplesOk])⟩
end Pu

/-! == and != with an empty list or tuple, whatever the other one holds -/
namespace Pu
open PySem PySem.Spec PyProof.Rows L2
variable [Tbs]
section
variable {X : Cx}
def rEmp (neg : Bool) (K : PySem.W.Frag) : R2 := fun x y H Q => ∃ (a b : Addr) (xs : List V), x = .ref a ∧ y = .ref b ∧ ((SqL K H a xs ∧ SqL K H b []) ∨ (SqT K H a xs ∧ SqT K H b [])) ∧ Q (.bl (neg ^^ xs.isEmpty)) H
theorem emp_len {xs : List V} {its : List Value} (h : Vals xs its) : xs.isEmpty = its.isEmpty := by
  cases h <;> rfl
omit [Tbs] in
theorem op_eqE (hu : X.A.units + 64 < cLine) : OpR X (compareOp .Eq) (rEmp false X.K) := by
  intro pins s σ H x y v u Q I rx ry h
  obtain ⟨a, b, xs, rfl, rfl, h, q⟩ := h
  cases rx
  cases ry
  rcases h with ⟨ha, hb⟩ | ⟨ha, hb⟩
  · obtain ⟨its, rv, ⟨o, n, ho, hc, _, hd⟩, _⟩ := I.list ha
    obtain ⟨its2, rv2, ⟨o2, n2, ho2, hc2, _, hd2⟩, _⟩ := I.list hb
    cases rv2
    have hl : s.heap.IsList a its.toArray := ⟨o, ho, hc, n, hd⟩
    have hl2 : s.heap.IsList b #[] := ⟨o2, ho2, hc2, n2, hd2⟩
    cases rv with
    | nil => exact (SeqAt.RcAt.lists (e := fun _ => true) hl hl2 rfl (by omega) (fun j h1 => absurd h1 (Nat.not_lt_zero j))) X.prog X.w _ _ ⟨.bl _, H, I, rfl, q⟩
    | cons r1 r2 => exact (SeqAt.RcAt.lists_lengths hl hl2 (by simp) (by omega)) X.prog X.w _ _ ⟨.bl _, H, I, rfl, q⟩
  · obtain ⟨its, rv, ⟨o, ho, hc, n, hd⟩, _⟩ := I.tuple ha
    obtain ⟨its2, rv2, ⟨o2, ho2, hc2, n2, hd2⟩, _⟩ := I.tuple hb
    cases rv2
    have hl : s.heap.IsTuple a its.toArray := ⟨o, ho, hc, n, hd⟩
    have hl2 : s.heap.IsTuple b #[] := ⟨o2, ho2, hc2, n2, hd2⟩
    refine (SeqAt.RcAt.tuples (e := fun _ => true) hl hl2 (by omega) (fun j h1 h2 => absurd h2 (Nat.not_lt_zero j))) X.prog X.w _ _ ⟨.bl _, H, I, ?_, q⟩
    cases rv <;> rfl
omit [Tbs] in
theorem op_neE (hu : X.A.units + 64 < cLine) : OpR X (compareOp .NotEq) (rEmp true X.K) := by
  intro pins s σ H x y v u Q I rx ry h
  obtain ⟨a, b, xs, rfl, rfl, h, q⟩ := h
  cases rx
  cases ry
  rcases h with ⟨ha, hb⟩ | ⟨ha, hb⟩
  · obtain ⟨its, rv, ⟨o, n, ho, hc, _, hd⟩, _⟩ := I.list ha
    obtain ⟨its2, rv2, ⟨o2, n2, ho2, hc2, _, hd2⟩, _⟩ := I.list hb
    cases rv2
    have hl : s.heap.IsList a its.toArray := ⟨o, ho, hc, n, hd⟩
    have hl2 : s.heap.IsList b #[] := ⟨o2, ho2, hc2, n2, hd2⟩
    cases rv with
    | nil => exact (SeqAt.RcNeAt.lists (e := fun _ => true) hl hl2 rfl (by omega) (fun j h1 => absurd h1 (Nat.not_lt_zero j))) X.prog X.w _ _ ⟨.bl _, H, I, rfl, q⟩
    | cons r1 r2 => exact (SeqAt.RcNeAt.lists_lengths hl hl2 (by simp) (by omega)) X.prog X.w _ _ ⟨.bl _, H, I, rfl, q⟩
  · obtain ⟨its, rv, ⟨o, ho, hc, n, hd⟩, _⟩ := I.tuple ha
    obtain ⟨its2, rv2, ⟨o2, ho2, hc2, n2, hd2⟩, _⟩ := I.tuple hb
    cases rv2
    have hl : s.heap.IsTuple a its.toArray := ⟨o, ho, hc, n, hd⟩
    have hl2 : s.heap.IsTuple b #[] := ⟨o2, ho2, hc2, n2, hd2⟩
    refine (SeqAt.RcNeAt.tuples (e := fun _ => true) hl hl2 (by omega) (fun j h1 h2 => absurd h2 (Nat.not_lt_zero j))) X.prog X.w _ _ ⟨.bl _, H, I, ?_, q⟩
    cases rv <;> rfl
end
def dEmp (neg : Bool) : D → D → (D → Prop) → Prop := fun x y k => match x, y with
  | .lst xs, .lst [] => k (.bl (neg ^^ xs.isEmpty))
  | .tup xs, .tup [] => k (.bl (neg ^^ xs.isEmpty))
  | _, _ => False
theorem IsA.empty {z : Zn} {M : AP} {H : Hp} {vs : List V} {ds : List D} (h : IsA z M H vs ds) : vs.isEmpty = ds.isEmpty := by
  cases h <;> rfl
theorem opd_emp {neg : Bool} {K : PySem.W.Frag} : OpD .b .e (rEmp neg K) (dEmp neg) := fun z X H0 H σ env v u x y Q k o r1 r2 c hp => by
  unfold dEmp at hp
  split at hp
  · cases (show Is z (Zx z X) H v _ from r1) with
    | lst e n h =>
      cases (show Is z (Zx z X) H u _ from r2) with
      | lst e2 n2 h2 =>
        cases h2
        exact ⟨_, _, _, rfl, rfl, .inl ⟨SqL.of e, SqL.of e2⟩, c _ _ H (Evo.refl _ _) (Is.bl _) (by rw [h.empty]; exact hp)⟩
  · cases (show Is z (Zx z X) H v _ from r1) with
    | tup e n h =>
      cases (show Is z (Zx z X) H u _ from r2) with
      | tup e2 n2 h2 =>
        cases h2
        exact ⟨_, _, _, rfl, rfl, .inr ⟨SqT.of e, SqT.of e2⟩, c _ _ H (Evo.refl _ _) (Is.bl _) (by rw [h.empty]; exact hp)⟩
  · exact hp.elim
theorem dEmp_l {neg : Bool} {xs : List D} {k : D → Prop} (h : k (.bl (neg ^^ xs.isEmpty))) : dEmp neg (.lst xs) (.lst []) k := h
theorem dEmp_t {neg : Bool} {xs : List D} {k : D → Prop} (h : k (.bl (neg ^^ xs.isEmpty))) : dEmp neg (.tup xs) (.tup []) k := h
end Pu

/-! sets of whole numbers of a def's own: set(), in, add -/
namespace Pu
open PySem PySem.Spec PyProof.Rows L2
variable [Tbs]
section
variable {C : Cx} {e : Expr} {pe : PX} {pos pp : Pos} {fr : Bool}
def eSet0 : PX := fun _ k => k (.st [])
theorem memB_nil : memB [] = fun _ => false := by
  funext j
  simp [memB]
theorem e_set0 (hw : C.w = Tbs.wd) (hg : Gl C "set") (hm : C.mg "set" = none) : E .f C (.Call (.Name "set" pp) [] [] pos) eSet0 :=
  ⟨_, pe_callTy0 cr_set0 hg hm (by decide +kernel), fun z X H0 H σ env Q k o c hp => ⟨rfl, fun q hq => c (.st []) (.ref q) _ ((Evo.refl _ _).new hq) ⟨q, rfl, hq, 0, by rw [upd_same, hw, memB_nil], Nat.le_refl _⟩ hp⟩⟩
theorem or_sinW (hw : C.w = Tbs.wd) : OpR C (compareOp .In) (rSIn Tbs.wd) := by rw [← hw]; exact or_sin
def dSin : D → D → (D → Prop) → Prop := fun x y k => match x, y with
  | .int i, .st ns => k (.bl (decide (i ∈ ns)))
  | _, _ => False
theorem st_of {z : Zn} {X : AP} {H H' : Hp} {σ : Sl} {env : List SV} {u : V} {ns : List Int} (h : Rel .c z X H H' σ env u (.st ns)) : ∃ a n, u = .ref a ∧ H' a = some (SetO Tbs.wd a (memB ns) n) := by
  rcases h with h | ⟨a, rfl, ⟨n, e, l⟩, _⟩
  · cases h with
    | st e l n => exact ⟨_, _, rfl, e⟩
  · exact ⟨a, n, rfl, e⟩
theorem opd_sin : OpD .c .e (rSIn Tbs.wd) dSin := fun z X H0 H σ env v u x y Q k o r1 r2 c hp => by
  unfold dSin at hp
  split at hp
  · rename_i i ns
    obtain ⟨a, n, rfl, e⟩ := st_of r2
    rcases r1 with h | ⟨a', _, hc, _⟩
    · cases h
      exact ⟨i, a, memB ns, n, rfl, rfl, e, c (.bl _) (.bl _) H (Evo.refl _ _) (Is.bl _) hp⟩
    · exact (show False from hc).elim
  · exact hp.elim
def sSAdd (i : Nat) (p : PX) : PSt := fun env k => match env[i]? with
  | some (.own (.st ns)) => p env fun d => inK d fun x => ns.length ≤ 4000 ∧ k.nx (env.set i (.own (.st (ns ++ [x]))))
  | _ => False
theorem memB_app (ns : List Int) (x : Int) : (fun j => memB ns j || decide (j = x)) = memB (ns ++ [x]) := by
  funext j
  simp [memB]
theorem s_sadd (i : Nat) {x : Str} {apos cpos : Pos} (hw : C.w = Tbs.wd) (h : E .b C e pe) (hN : C.N[i]? = some x := by rfl) (hv : Vis C.env.scope x := by first | exact Or.inl rfl | exact Or.inr (Or.inl rfl) | exact Or.inr (Or.inr rfl)) (hd : (x == ("__debug__" : Str)) = false := by decide)
    (hcd : (x == ("__classdict__" : Str)) = false := by decide)
    (hb : ∀ to te, PE C (.Name x pp) to → PE C e te → PE C (.Call (.Attribute (.Name x pp) "add" apos) [e] [] cpos) (tSAdd C.w to (tCons te tNil)))
    (hs : swapsWith (.Call (.Attribute (.Name x pp) "add" apos) [e] [] cpos) none pos.line C.env = pure false := by rfl) :
    S fr C (.Expr (.Call (.Attribute (.Name x pp) "add" apos) [e] [] cpos) pos) (sSAdd i pe) := by
  obtain ⟨t, h1, h2⟩ := h
  refine ⟨_, ps_expr (hb _ _ (pe_var hN hv hd hcd) h1) hs, fun z X H0 H σ env G k o s hp => ?_⟩
  unfold sSAdd at hp
  split at hp
  · rename_i ns he
    obtain ⟨a, q1, q2, q3, q4⟩ := o.own i _ he
    obtain ⟨n, q5, q6⟩ := q2
    refine ⟨_, q1, ⟨a, _, _, rfl, by rw [hw]; exact q5⟩, h2 z X H0 H σ env _ _ o (fun d v H1 e1 r1 hx => ?_) hp⟩
    cases d with
    | int w =>
      cases (show Is z (Zx z X) H1 v (.int w) from r1)
      have o1 := o.go e1
      have q5' := e1.old a _ q5 q3
      obtain ⟨hx1, hx2⟩ := (show ns.length ≤ 4000 ∧ _ from hx)
      refine ⟨a, w, memB ns, n, rfl, rfl, by rw [hw]; exact q5', Nat.lt_of_le_of_lt (Nat.succ_le_succ (Nat.le_trans q6 hx1)) (by decide), ?_⟩
      rw [memB_app, hw]
      obtain ⟨o2, f2⟩ := o1.mut (o := SetO Tbs.wd a (memB (ns ++ [w])) (if memB ns w = true then n else n + 1)) he q1 (d' := .st (ns ++ [w])) ⟨_, upd_same, by rw [List.length_append]; split <;> simp <;> omega⟩
      exact s.nx _ _ _ o2 ((o.fr e1).trans f2) hx2
    | _ => exact (show False from hx).elim
  · exact hp.elim
theorem eSet0_i {env : List SV} {k : D → Prop} (h : k (.st [])) : eSet0 env k := h
theorem eO_s {i : Nat} {env : List SV} {ns : List Int} {k : D → Prop} (e : env[i]? = some (.own (.st ns))) (h : k (.st ns)) : eO i env k := by
  unfold eO
  rw [e]
  exact h
theorem dSin_i {x : Int} {ns : List Int} {k : D → Prop} (h : k (.bl (decide (x ∈ ns)))) : dSin (.int x) (.st ns) k := h
theorem sSAdd_i {i : Nat} {p : PX} {env : List SV} {ns : List Int} {K : PK'} (e : env[i]? = some (.own (.st ns))) (h : p env fun d => inK d fun x => ns.length ≤ 4000 ∧ K.nx (env.set i (.own (.st (ns ++ [x]))))) : sSAdd i p env K := by
  unfold sSAdd
  rw [e]
  exact h
end
end Pu

/-! x.extend(a tuple), range(i, j, -1) -/
namespace Pu
open PySem PySem.Spec PyProof.Rows L2
variable [Tbs]
section
omit [Tbs] in
theorem ext_tup (l b : Addr) (us ws : Array Value) (n m : Nat) (dd : Option Addr) (sl : Array (Option Value)) (h0 : ¬(!us.isEmpty && Builtin.List.listTooLong (us.size + ws.size)) = true) (h1 : us.size ≤ sizeLine) (h2 : us.size + ws.size ≤ sizeLine + 1) :
    Meets (Builtin.«list.extend» ⟨[.ref l, .ref b], []⟩) (fun _ R s => s.heap.get? l = some { cls := .type "list", dict := none, data := .seq us n, slots := #[] } ∧ s.heap.get? b = some { cls := .type "tuple", dict := dd, data := .seq ws m, slots := sl } ∧
      R (.ok (.ret Value.none)) { s with heap := s.heap.update l (Obj.mapSeq fun x => x ++ ws), toks := s.toks }) :=
  .of_wp fun prog w A R s h => by
    obtain ⟨hp, g, d, tk, os⟩ := s
    obtain ⟨hl, hb, h⟩ := h
    have g1 := AutoSeq1.idx_int
    have g2 := AutoSeq1.sub_tuple_tuple
    have g3 := AutoSeq1.sub_list_list
    have g4 := AutoSeq1.sub_tuple_list
    have g5 := AutoSeq1.sub_list_tuple
    have hz : (us ++ ws).size ≤ sizeLine + 1 := by rw [Array.size_append]; exact h2
    wp_walk using (wpAny_updateSeq hl rfl (hz := h1) (_hz' := hz)), AutoSeq1.wpAny_loadPart' hl, AutoSeq1.wpAny_loadPart' hb
    exact ⟨_, rfl, h⟩
def rExtT (K : PySem.W.Frag) : V → List V → Hp → VK → Prop := fun x vs H Q => ∃ l b xs zs, x = .ref l ∧ vs = [.ref b] ∧ H l = some (.lst xs) ∧ SqT K H b zs ∧ xs.length + zs.length ≤ sizeLine ∧ Q .non (upd H l (.lst (xs ++ zs)))
omit [Tbs] in
theorem mt_extT {X : Cx} : MtM X "list.extend" (rExtT X.K) := by
  intro pins s σ H x vs v us Q I rx rv h
  obtain ⟨l, b, xs, zs, rfl, rfl, hH, hB, hz, q⟩ := h
  cases rx
  obtain ⟨u, rfl, ru⟩ := rv.one
  cases ru
  obtain ⟨z, its, n, r, hl, e⟩ := I.lstM hH
  obtain ⟨its2, r2, ⟨o, ho, hc, m, hd⟩, z2⟩ := I.tuple hB
  obtain ⟨oc, od, oda, os⟩ := o
  cases hc
  cases hd
  have hl2 := r2.length
  have hsz : its.toArray.size + its2.toArray.size ≤ sizeLine := by rw [List.size_toArray, List.size_toArray]; omega
  have hlong : ¬ (!its.toArray.isEmpty && Builtin.List.listTooLong (its.toArray.size + its2.toArray.size)) = true := by
    rw [notLongL hsz, Bool.and_false]
    exact Bool.false_ne_true
  refine call_meets F.slot_list_extend ⟨_, e, rfl⟩ F.entry_list_extend (F.args_list_extend_2 _ _)
    (ext_tup l b its.toArray its2.toArray n m od os hlong (by rw [List.size_toArray]; omega) (by omega)) ⟨e, ho, ?_⟩
  refine ⟨.non, _, I.lset (its' := its ++ its2) hH e (by simp) (r.append r2) ?_, rfl, q⟩
  rw [List.length_append]
  omega
end
section
variable {C : Cx} {e : Expr} {pe : PX} {pos pp : Pos} {fr : Bool}
def tpK (d : D) (k : List D → Prop) : Prop := match d with
  | .tup ys => k ys
  | _ => False
def sExtend (i : Nat) (p : PX) : PSt := fun env k => match env[i]? with
  | some (.own (.lst xs)) => p env fun d => tpK d fun ys => xs.length + ys.length ≤ 100000 ∧ k.nx (env.set i (.own (.lst (xs ++ ys))))
  | _ => False
theorem s_extend (i : Nat) {x : Str} {apos cpos : Pos} (h : E .e C e pe) (hN : C.N[i]? = some x := by rfl) (hv : Vis C.env.scope x := by first | exact Or.inl rfl | exact Or.inr (Or.inl rfl) | exact Or.inr (Or.inr rfl)) (hd : (x == ("__debug__" : Str)) = false := by decide)
    (hcd : (x == ("__classdict__" : Str)) = false := by decide)
    (hb : ∀ to te, PE C (.Name x pp) to → PE C e te → PE C (.Call (.Attribute (.Name x pp) "extend" apos) [e] [] cpos) (tBM C.K "list" (rExtT C.K) to (tCons te tNil)))
    (hs : swapsWith (.Call (.Attribute (.Name x pp) "extend" apos) [e] [] cpos) none pos.line C.env = pure false := by rfl) :
    S fr C (.Expr (.Call (.Attribute (.Name x pp) "extend" apos) [e] [] cpos) pos) (sExtend i pe) := by
  obtain ⟨t, h1, h2⟩ := h
  refine ⟨_, ps_expr (hb _ _ (pe_var hN hv hd hcd) h1) hs, fun z X H0 H σ env G k o s hp => ?_⟩
  unfold sExtend at hp
  split at hp
  · rename_i xs he
    obtain ⟨a, q1, q2, q3, q4⟩ := o.own i _ he
    obtain ⟨vs, q5, q6⟩ := q2
    refine ⟨_, q1, .inl ⟨rfl, vs, SqL.of q5⟩, h2 z X H0 H σ env _ _ o (fun d v H1 e1 r1 hx => ?_) hp⟩
    cases d with
    | tup ys =>
      obtain ⟨hx1, hx2⟩ := (show xs.length + ys.length ≤ 100000 ∧ _ from hx)
      cases (show Is z (Ms z X σ env) H1 v (.tup ys) from r1) with
      | @tup b ws _ eb nb rb =>
        have o1 := o.go e1
        have q5' := e1.old a _ q5 q3
        refine ⟨a, b, vs, ws, rfl, rfl, q5', SqT.of eb, by rw [q6.length, rb.length]; exact Nat.le_of_lt (szl hx1), ?_⟩
        have ia : Ms z X σ env a := .inr (.inr ⟨i, _, he, q1⟩)
        have old : ∀ b u, H1 b = some u → ¬ Ms z X σ env b → upd H1 a (.lst (vs ++ ws)) b = some u ∧ ¬ Ms z X σ env b := fun b u hb n => ⟨by rw [upd_ne (fun e => n (by rw [e]; exact ia))]; exact hb, n⟩
        obtain ⟨o2, f2⟩ := o1.mut (o := .lst (vs ++ ws)) he q1 (d' := .lst (xs ++ ys)) ⟨vs ++ ws, upd_same, ((IsA.evo (fun _ q => .inl q) e1 q6).append rb).gen old fun b hb => ok_mut q3 hb⟩
        exact s.nx _ _ _ o2 ((o.fr e1).trans f2) hx2
    | _ => exact (show False from hx).elim
  · exact hp.elim
theorem sExtend_i {i : Nat} {p : PX} {env : List SV} {xs : List D} {K : PK'} (e : env[i]? = some (.own (.lst xs))) (h : p env fun d => tpK d fun ys => xs.length + ys.length ≤ 100000 ∧ K.nx (env.set i (.own (.lst (xs ++ ys))))) : sExtend i p env K := by
  unfold sExtend
  rw [e]
  exact h
theorem tpK_i {ys : List D} {k : List D → Prop} (h : k ys) : tpK (.tup ys) k := h
end
/-! range(i, j, -1) -/
def downD (hi : Int) (n : Nat) : List D := (List.range n).map fun i => .int (hi - (i : Nat))
theorem yl_dn {z : Zn} {X : AP} {M : AP} {H : Hp} {hi : Int} {n : Nat} : Yields z X M H (Itc hi (-1) n) (downD hi n) := fun M' H' f => by
  refine ⟨(by show n ≤ (downD hi n).length; simp [downD]), fun i d hd => ?_⟩
  have hi' : i < n := by
    have := (List.getElem?_eq_some_iff.mp hd).1
    simpa [downD] using this
  refine ⟨hi', fun x H2 y => ?_⟩
  obtain ⟨rfl, rfl⟩ := y
  refine ⟨Evo.refl _ _, fun _ _ => ?_⟩
  have e : d = .int (hi - (i : Nat)) := by simpa [downD, hi', List.getElem?_map, List.getElem?_range] using hd.symm
  rw [e, show hi + (i : Nat) * (-1) = hi - (i : Nat) by omega]
  exact Is.int _
def rgK3 (ds : List D) (k : List D → Prop) : Prop := match ds with
  | [.int i, .int j, .int c] => c = -1 ∧ (-100000 < i ∧ i < 100000 ∧ -100000 < j ∧ j < 100000) ∧ k (downD i (i - j).toNat)
  | _ => False
def iRange3 (p : PAs) : PIt := fun env k => p env fun ds => rgK3 ds k
theorem i_range3 {C : Cx} {tg a b c : Expr} {p : PAs} {l : Bool} {pp pos : Pos} (ha : A l C [a, b, c] p) (hg : Gl C "range") (hm : C.mg "range" = none) (hs : starEach [a, b, c] C.env = (false, eval a C.env) :: starEach [b, c] C.env := by rfl) (hpl : (backTo pos (starEach [b, c] C.env)).any (·.1) = false := by rfl) : I C tg (.Call (.Name "range" pp) [a, b, c] [] pos) (iRange3 p) := by
  obtain ⟨t, h1, h2⟩ := ha
  refine ⟨_, pi_range3 hg hm h1 hs hpl, fun z X H0 H σ env R k o c hp => h2 z X H0 H σ env _ _ o (fun ds vs H1 e1 r1 hx => ?_) hp⟩
  unfold rgK3 at hx
  split at hx
  · rename_i i j w
    obtain ⟨rfl, hb, hk⟩ := hx
    cases IsA.ints (ns := [_, _, _]) r1
    exact ⟨i, j, -1, (i - j).toNat, rfl, RgC.neg (by omega) (by omega) (by omega) (by omega), c _ _ H1 e1 yl_dn hk⟩
  · exact hx.elim
theorem iRange3_i {p : PAs} {env : List SV} {k : List D → Prop} (h : p env fun ds => rgK3 ds k) : iRange3 p env k := h
theorem rgK3_i {i j : Int} {k : List D → Prop} (h1 : -100000 < i ∧ i < 100000 ∧ -100000 < j ∧ j < 100000) (h : k (downD i (i - j).toNat)) : rgK3 [.int i, .int j, .int (-1)] k := ⟨rfl, h1, h⟩
end Pu

namespace Pu
open PySem PySem.Spec PyProof.Rows L2
variable [Tbs]
/-! ### a list that a def borrows and changes in place -/
def mask (H : Hp) (a : Addr) : Hp := fun b => if b = a then none else H b
def zb (z : Zn) (o : Option Addr) : Zn := { z with bo := o }
section
variable {z : Zn} {X : AP} {M : AP} {H0 H H' : Hp} {σ : Sl} {env : List SV} {a : Addr} {w : Option Addr}
theorem mask_self : mask H a a = none := by unfold mask; rw [if_pos rfl]
theorem mask_ne {b : Addr} (h : b ≠ a) : mask H a b = H b := by unfold mask; rw [if_neg h]
theorem mask_old {b : Addr} {o : HO} (h : mask H a b = some o) : b ≠ a ∧ H b = some o := by
  unfold mask at h
  split at h
  · cases h
  · exact ⟨by assumption, h⟩
mutual
theorem Is.zb : ∀ {v : V} {d : D}, Is z M H v d → Is (zb z w) M H v d
  | _, _, .non => .non
  | _, _, .bl b => .bl b
  | _, _, .int i => .int i
  | _, _, .str s => .str s
  | _, _, .ty n => .ty n
  | _, _, .tup e n r => .tup e n (IsA.zb r)
  | _, _, .lst e n r => .lst e n (IsA.zb r)
  | _, _, .dic e n r => .dic e n (IsK.zb r)
  | _, _, .deck e => Is.deck (z := Pu.zb z w) e
  | _, _, .dpr e n => .dpr e n
  | _, _, .dfz e n => .dfz e n
  | _, _, .st e l n => .st e l n
  | _, _, .bor e n r => .bor e n (IsA.zb r)
  | _, _, .opq v => .opq v
theorem IsA.zb : ∀ {v : List V} {d : List D}, IsA z M H v d → IsA (zb z w) M H v d
  | _, _, .nil => .nil
  | _, _, .cons h t => .cons (Is.zb h) (IsA.zb t)
theorem IsK.zb : ∀ {v : List (Key × V)} {d : List (Key × D)}, IsK z M H v d → IsK (zb z w) M H v d
  | _, _, .nil => .nil
  | _, _, .cons h t => .cons (Is.zb h) (IsK.zb t)
end
theorem Is.unzb {v : V} {d : D} (h : Is (Pu.zb z w) M H v d) : Is z M H v d := Is.zb (z := Pu.zb z w) (w := z.bo) h
theorem IsA.unzb {v : List V} {d : List D} (h : IsA (Pu.zb z w) M H v d) : IsA z M H v d := IsA.zb (z := Pu.zb z w) (w := z.bo) h
theorem Evo.unzb (h : Evo (Pu.zb z w) H H') : Evo z H H' := ⟨h.old, h.al, h.dk, h.tab⟩
theorem evo_mask (ha : ¬ z.Z a) : Evo (Pu.zb z w) (mask H a) H :=
  ⟨fun b o h _ => (mask_old h).2, fun b h => by
    by_cases e : b = a
    · rw [e, mask_self] at h; exact absurd rfl h
    · rw [mask_ne e] at h; exact h,
   fun b h => (Pu.zb z w).keep _ _ _ h fun c o _ q => (mask_old q).2,
   fun h P hP => by
    obtain ⟨ps, e, t⟩ := h P hP
    exact ⟨ps, (mask_old e).2, t⟩⟩
theorem ok_mask (ha : ¬ z.Z a) {b : Addr} (h : z.ok H b) : z.ok (mask H a) b :=
  z.keep _ _ _ h fun c o zc q => by rw [mask_ne (fun (e : c = a) => ha (by rw [← e]; exact zc))]; exact q
theorem tab_mask (ha : ¬ z.Z a) (h : Tabs H) : Tabs (mask H a) := fun P hP => by
  obtain ⟨ps, e, t⟩ := h P hP
  exact ⟨ps, by rw [mask_ne (fun (q : P = a) => ha (.inr (by rw [← q]; exact hP)))]; exact e, t⟩
/-- what a slot owns was lent and comes back -/
theorem Ok.lend (k : Ok z X H0 H σ env) {i : Nat} {d d' : D} (hi : env[i]? = some (.own d)) (hs : σ[i]? = some (some (V.ref a))) (ev : Evo z (mask H a) H') (hc : Con z (Ms z X σ env) H' a d') :
    Ok z X H0 H' σ (env.set i (.own d')) ∧ Fr z X (Ms z X σ env) H (Ms z X σ (env.set i (.own d'))) H' := by
  have hl : i < env.length := (List.getElem?_eq_some_iff.mp hi).1
  obtain ⟨a', hs', hc0, hz, hx, h0⟩ := k.own i d hi
  have ea : a' = a := by rw [hs] at hs'; cases hs'; rfl
  subst ea
  have ms : ∀ b, Ms z X σ (env.set i (.own d')) b → Ms z X σ env b := by
    rintro b (h | h | ⟨j, f, h1, h2⟩)
    · exact .inl h
    · exact .inr (.inl h)
    · by_cases hj : i = j
      · subst hj
        exact .inr (.inr ⟨i, d, hi, h2⟩)
      · rw [List.getElem?_set_ne hj] at h1
        exact .inr (.inr ⟨j, f, h1, h2⟩)
  have ain : Ms z X σ env a' := .inr (.inr ⟨i, d, hi, hs⟩)
  have same : ∀ b u, H b = some u → b ≠ a' → ¬ z.Z b → H' b = some u := fun b u q n m => ev.old b u (by rw [mask_ne n]; exact q) m
  have old : ∀ b u, H b = some u → ¬ Ms z X σ env b → H' b = some u ∧ ¬ Ms z X σ (env.set i (.own d')) b := fun b u q n =>
    ⟨same b u q (fun e => n (by rw [e]; exact ain)) fun y => n (.inl y), fun x => n (ms b x)⟩
  have dk : ∀ b, z.ok H b → z.ok H' b := fun b h => ev.dk b (ok_mask hz h)
  have al : ∀ b, H b ≠ none → H' b ≠ none := fun b h => by
    by_cases e : b = a'
    · obtain ⟨o, ho⟩ := hc.some
      rw [e, ho]; intro q; cases q
    · exact ev.al b (by rw [mask_ne e]; exact h)
  have ne0 : ∀ b u, H0 b = some u → b ≠ a' := fun b u q e => by rw [e, h0] at q; cases q
  refine ⟨⟨by simp [k.len], ⟨fun b u q n => same b u (k.evo.old b u q n) (ne0 b u q) n, fun b h => al b (k.evo.al b h), fun b h => dk b (k.evo.dk b h), fun h => ev.tab (tab_mask hz (k.evo.tab h))⟩, fun b h => al b (k.zal b h), fun b h => ⟨al b (k.xal b h).1, (k.xal b h).2⟩, fun j f h => ?_, fun j f h => ?_, fun j l b f g h1 h2 h3 h4 => ?_, ev.tab (tab_mask hz k.tab)⟩, ⟨old, dk, al⟩⟩
  · by_cases hj : i = j
    · subst hj
      rw [List.getElem?_set_self hl] at h
      cases h
    · rw [List.getElem?_set_ne hj] at h
      obtain ⟨u, h1, h2⟩ := k.val j f h
      exact ⟨u, h1, h2.gen old dk⟩
  · by_cases hj : i = j
    · subst hj
      rw [List.getElem?_set_self hl] at h
      cases h
      exact ⟨a', hs, hc.gen (fun _ q => q) (fun b o q n => ⟨q, fun x => n (ms b x)⟩) fun _ h => h, hz, hx, h0⟩
    · rw [List.getElem?_set_ne hj] at h
      obtain ⟨b, h1, h2, h3, h4⟩ := k.own j f h
      have nb : b ≠ a' := fun e => hj (k.inj i j a' d f hi h hs (e ▸ h1))
      exact ⟨b, h1, h2.gen (fun o q => same b o q nb h3) old dk, h3, h4⟩
  · have un : ∀ (j : Nat) (f : D), (env.set i (.own d'))[j]? = some (.own f) → ∃ f', env[j]? = some (.own f') := fun j f h => by
      by_cases hj : i = j
      · subst hj; exact ⟨d, hi⟩
      · rw [List.getElem?_set_ne hj] at h; exact ⟨f, h⟩
    obtain ⟨f', q1⟩ := un j f h1
    obtain ⟨g', q2⟩ := un l g h2
    exact k.inj j l b f' g' q1 q2 h3 h4
end
/-- the promise of a def that borrows its last argument, a list -/
def SfB (n : Nat) (wp : List D → List D → (D → List D → Prop) → Prop) : Sp := fun vs H Q _ => ∃ (z : Zn) (X : AP) (a : Addr) (us : List V) (ds cs : List D) (k : D → List D → Prop), vs = us ++ [.ref a] ∧ us.length = n ∧ ((∀ b, z.Z b → H b ≠ none) ∧ Tabs H) ∧ (∀ b, X b → H b ≠ none ∧ ¬ z.Z b) ∧ ¬ z.Z a ∧ ¬ X a ∧
  IsA z (Zx z (X.or a)) H us ds ∧ Con z (Zx z (X.or a)) H a (.lst cs) ∧ wp ds cs k ∧
  ∀ d v H' cs', Evo z (mask H a) H' → Is z (Zx z (X.or a)) H' v d → Con z (Zx z (X.or a)) H' a (.lst cs') → k d cs' → Q v H'
def envB (n : Nat) (ds cs : List D) : List SV := ds.map SV.val ++ SV.own (.bor cs) :: List.replicate (n - (ds.length + 1)) SV.no
def wpB (n : Nat) (p : PSt) : List D → List D → (D → List D → Prop) → Prop := fun ds cs k => p (envB n ds cs) { nx := fun _ => False, rt := fun _ => False, re := fun env d => match env[ds.length]? with
  | some (.own (.bor cs')) => k d cs'
  | _ => False }
def sRetB (p : PX) : PSt := fun env k => p env fun d => k.re env d
section
variable {C : Cx} {fr : Bool} {e : Expr} {es : List Expr} {pe : PX} {ga : PAs} {pos pp : Pos}
theorem s_retB (h : E .e C e pe) : S fr C (.Return (some e) pos) (sRetB pe) := by
  obtain ⟨t, h1, h2⟩ := h
  exact ⟨_, ps_ret h1, fun z X H0 H σ env G k o s hp => h2 z X H0 H σ env _ _ o (fun d v H1 e1 r1 hx => s.re env σ H1 d v (o.go e1) r1 hx) hp⟩
theorem start_okB {z : Zn} {X : AP} {H : Hp} {N : List Str} {us : List V} {ds cs : List D} {a : Addr} (hz : (∀ a, z.Z a → H a ≠ none) ∧ Tabs H) (hx : ∀ a, X a → H a ≠ none ∧ ¬ z.Z a) (za : ¬ z.Z a) (xa : ¬ X a)
    (hA : IsA z (Zx z (X.or a)) H us ds) (hc : Con z (Zx z (X.or a)) H a (.lst cs)) (hN : ds.length < N.length) :
    Ok (zb z (some a)) X (mask H a) H (L2.start N (us ++ [V.ref a])) (envB N.length ds cs) := by
  have hl := hA.length
  have el : ∀ i, i < ds.length → (envB N.length ds cs)[i]? = (ds[i]?).map SV.val := fun i hi => by
    unfold envB; rw [List.getElem?_append_left (by simpa using hi), List.getElem?_map]
  have em : (envB N.length ds cs)[ds.length]? = some (.own (.bor cs)) := by
    unfold envB; rw [List.getElem?_append_right (by simp)]; simp
  have er : ∀ (i : Nat) (v : SV), ds.length < i → (envB N.length ds cs)[i]? = some v → v = .no := fun i v hi h => by
    unfold envB at h
    rw [List.getElem?_append_right (by simp; omega)] at h
    obtain ⟨m, hm⟩ : ∃ m, i - (ds.map SV.val).length = m + 1 := ⟨i - ds.length - 1, by simp; omega⟩
    rw [hm, List.getElem?_cons_succ, List.getElem?_replicate] at h
    split at h <;> cases h
    rfl
  have on : ∀ (i : Nat) (d : D), (envB N.length ds cs)[i]? = some (.own d) → i = ds.length ∧ d = .bor cs := fun i d h => by
    rcases Nat.lt_trichotomy i ds.length with q | q | q
    · rw [el i q, List.getElem?_eq_getElem q] at h; cases h
    · rw [q, em] at h; cases h; exact ⟨q, rfl⟩
    · have := er i _ q h; cases this
  have sl : ∀ i, i < us.length → (L2.start N (us ++ [V.ref a]))[i]? = (us[i]?).map some := fun i hi => by
    unfold L2.start
    rw [List.getElem?_append_left (by simp; omega), List.getElem?_map, List.getElem?_append_left hi]
  have sm : (L2.start N (us ++ [V.ref a]))[ds.length]? = some (some (.ref a)) := by
    unfold L2.start
    rw [← hl, List.getElem?_append_left (by simp), List.getElem?_map, List.getElem?_append_right (Nat.le_refl _)]
    simp
  have ms : ∀ b, Ms (zb z (some a)) X (L2.start N (us ++ [V.ref a])) (envB N.length ds cs) b → Zx z (X.or a) b := by
    rintro b (h | h | ⟨i, d, h1, h2⟩)
    · exact .inl h
    · exact .inr (.inl h)
    · obtain ⟨rfl, _⟩ := on i d h1
      rw [sm] at h2
      cases h2
      exact .inr (.inr rfl)
  refine ⟨by unfold L2.start envB; simp; omega, evo_mask za, hz.1, hx, fun i d h => ?_, fun i d h => ?_, fun i j b d e h1 h2 _ _ => (on i d h1).1.trans (on j e h2).1.symm, hz.2⟩
  · rcases Nat.lt_trichotomy i ds.length with q | q | q
    · rw [el i q] at h
      cases q2 : ds[i]? with
      | none => rw [q2] at h; cases h
      | some x =>
        rw [q2] at h
        cases h
        obtain ⟨v, h1, h2⟩ := hA.get q2
        exact ⟨v, by rw [sl i (by omega), h1]; rfl, (h2.weak ms).zb⟩
    · rw [q, em] at h; cases h
    · have := er i _ q h; cases this
  · obtain ⟨rfl, rfl⟩ := on i d h
    obtain ⟨vs, q1, q2⟩ := hc
    exact ⟨a, sm, ⟨rfl, vs, q1, (q2.weak ms).zb⟩, za, xa, mask_self⟩
end
section
variable {P : Program} {w : World} {K : PySem.W.Frag} {mg : Str → Option Value} {base : Heap}
theorem fn_okB {x qual : Str} {st : Stmt} {f : Addr} {fd : FuncData} {N ps : List Str} {k n : Nat} {p : PSt} (F : Fun K x qual st f fd) (S : FnScope N ps (defScope st)) (hn : ps.length = n + 1) (hN : n < N.length)
    (hb : ∀ (cdv : Value) (A : Around) (outer : List Env) (s : Shared) (H : Hp) (E : XK), Room k (A.deeper (envOfC qual (defScope st) s.heap.objs.size f cdv)) → B false (cxOf CX0 P w K mg base N qual (defScope st) f cdv A outer s H E).nox (defBody st) p) :
    FnOk P w K mg base CX0 (k + 1) f fd ps (SfB n (fun ds cs k => ds.length = n ∧ wpB N.length p ds cs k)) := by
  refine F.ok S (fun vs H Q E h => ?_) (fun cdv A outer s H vs Q E hr h => ?_)
  · obtain ⟨z, X, a, us, ds, cs, kk, hv, hl, _⟩ := h
    rw [hv, hn, List.length_append, hl]; rfl
  · obtain ⟨z, X, a, us, ds, cs, kk, rfl, hl, hz, hx, za, xa, hA, hc, ⟨hd, hw⟩, c⟩ := h
    obtain ⟨t, b1, b2⟩ := hb cdv A outer s H E hr
    refine ⟨t, b1, b2 (zb z (some a)) X (mask H a) H (L2.start N (us ++ [V.ref a])) _ _ { nx := fun _ => False, rt := fun _ => False, re := fun env d => match env[ds.length]? with
  | some (.own (.bor cs')) => kk d cs'
  | _ => False } (start_okB hz hx za xa hA hc (by omega)) ⟨fun _ _ _ _ _ hk => hk.elim, fun _ _ _ _ _ _ hk => hk.elim, fun _ _ _ _ _ hk => hk.elim, fun _ _ _ _ _ hk => hk.elim, fun env' σ' H' d v o' r hk => ?_⟩ hw⟩
    simp only at hk
    split at hk
    · rename_i cs' he
      obtain ⟨b, h1, ⟨h2, vs, h3, h4⟩, h5, h6, h7⟩ := o'.own _ _ he
      cases h2
      have sub : ∀ y, Zx z (X.or a) y → Ms (zb z (some a)) X σ' env' y := by
        rintro y (q | q | q)
        · exact .inl q
        · exact .inr (.inl q)
        · exact .inr (.inr ⟨_, _, he, by rw [q]; exact h1⟩)
      exact c d v H' cs' o'.evo.unzb (r.weak sub).unzb ⟨vs, h3, (h4.weak sub).unzb⟩ hk
    · exact hk.elim
end
/-! ### calls that lend a list -/
def RAB (r : Nat) (t : TA) (p : PAs) : Prop := ∀ (z : Zn) (X : AP) (H0 H : Hp) (σ : Sl) (env : List SV) (Q : List V → Hp → Prop) (k : List D → Prop) (a : Addr), Ok z X H0 H σ env → σ[r]? = some (some (.ref a)) →
  (∀ ds vs H', Evo z H H' → IsA z (Ms z X σ env) H' vs ds → k ds → Q (vs ++ [.ref a]) H') → p env k → t σ H Q
structure AB (r : Nat) (C : Cx) (es : List Expr) (p : PAs) : Prop where
  ex : ∃ t, PA C es t ∧ RAB r t p
section
variable {C : Cx} {fr : Bool} {e : Expr} {es : List Expr} {pe p : PX} {ga : PAs} {pos pp : Pos} {r : Nat} {x : Str}
theorem ab_one (r : Nat) (hN : C.N[r]? = some x := by rfl) (hv : Vis C.env.scope x := by first | exact Or.inl rfl | exact Or.inr (Or.inl rfl) | exact Or.inr (Or.inr rfl)) (hd : (x == ("__debug__" : Str)) = false := by decide)
    (hcd : (x == ("__classdict__" : Str)) = false := by decide) (hs : starEach [.Name x pp] C.env = (false, eval (.Name x pp) C.env) :: starEach [] C.env := by rfl) : AB r C [.Name x pp] aNil :=
  ⟨_, pa_cons (pe_var hN hv hd hcd) pa_nil hs, fun z X H0 H σ env Q k a o h c hp => ⟨_, h, c [] [] H (Evo.refl _ _) .nil hp⟩⟩
theorem ab_cons (h : E .e C e p) (hr : AB r C es ga) (hs : starEach (e :: es) C.env = (false, eval e C.env) :: starEach es C.env := by rfl) : AB r C (e :: es) (aCons p ga) := by
  obtain ⟨t, h1, h2⟩ := h
  obtain ⟨u, g1, g2⟩ := hr
  refine ⟨_, pa_cons h1 g1 hs, fun z X H0 H σ env Q k a o h c hp => h2 z X H0 H σ env _ _ o (fun d v H1 e1 r1 hx => ?_) hp⟩
  exact g2 z X H0 H1 σ env _ _ a (o.go e1) h (fun ds vs H2 e2 r2 hy => c (d :: ds) (v :: vs) H2 (e1.trans e2) (.cons (Is.evo (fun _ q => .inl q) e2 r1) r2) hy) hx
/-- the list of slot r is lent to a def: its answer, and what became of the list -/
def lendP (r : Nat) (wp : List D → List D → (D → List D → Prop) → Prop) (g : PAs) : List SV → (D → List SV → Prop) → Prop := fun env k => match env[r]? with
  | some (.own (.lst cs)) => g env fun ds => wp ds cs fun d cs' => k d (env.set r (.own (.lst cs')))
  | some (.own (.bor cs)) => g env fun ds => wp ds cs fun d cs' => k d (env.set r (.own (.bor cs')))
  | _ => False
theorem lend_i {t : TA} {n : Nat} {wp : List D → List D → (D → List D → Prop) → Prop} (h : RAB r t ga) (hn : ∀ ds cs k, wp ds cs k → ds.length = n) {z : Zn} {X : AP} {H0 H : Hp} {σ : Sl} {env : List SV} {Q : VK} {k : D → List SV → Prop}
    (o : Ok z X H0 H σ env) (c : ∀ d v H' env', Ok z X H0 H' σ env' → Fr z X (Ms z X σ env) H (Ms z X σ env') H' → Is z (Ms z X σ env') H' v d → k d env' → Q v H') (hp : lendP r wp ga env k) : tCall (SfB n wp) [] E0 t σ H Q := by
  have main : ∀ (c0 : D) (cs : List D) (mk : List D → D), env[r]? = some (.own c0) → (∀ (M : AP) (H : Hp) (a : Addr), Con z M H a c0 → Con z M H a (.lst cs) ∧ ∀ M' H' cs', Con z M' H' a (.lst cs') → Con z M' H' a (mk cs')) →
      (ga env fun ds => wp ds cs fun d cs' => k d (env.set r (.own (mk cs')))) → tCall (SfB n wp) [] E0 t σ H Q := fun c0 cs mk he hk hg => by
    obtain ⟨a, q1, q2, q3, q4, q5⟩ := o.own r _ he
    refine h z X H0 H σ env _ _ a o q1 (fun ds vs H1 e1 r1 hx => ?_) hg
    have o1 := o.go e1
    obtain ⟨a', q1', q2', _⟩ := o1.own r _ he
    have ea : a' = a := by rw [q1] at q1'; cases q1'; rfl
    subst ea
    obtain ⟨m1, m2⟩ := hk _ _ _ q2'
    let Y : AP := fun b => X b ∨ ∃ (i : Nat) (d : D), i ≠ r ∧ env[i]? = some (.own d) ∧ σ[i]? = some (some (V.ref b))
    have zy : ∀ b, Zx z (Y.or a') b ↔ Ms z X σ env b := fun b => by
      constructor
      · rintro (y | (y | ⟨i, d, _, y1, y2⟩) | y)
        · exact .inl y
        · exact .inr (.inl y)
        · exact .inr (.inr ⟨i, d, y1, y2⟩)
        · exact .inr (.inr ⟨r, _, he, by rw [y]; exact q1⟩)
      · rintro (y | y | ⟨i, d, y1, y2⟩)
        · exact .inl y
        · exact .inr (.inl (.inl y))
        · by_cases hi : i = r
          · rw [hi, q1] at y2; cases y2; exact .inr (.inr rfl)
          · exact .inr (.inl (.inr ⟨i, d, hi, y1, y2⟩))
    rw [List.append_nil]
    refine ⟨z, Y, a', vs, ds, cs, _, rfl, by rw [r1.length]; exact hn _ _ _ hx, ⟨o1.zal, o1.tab⟩, fun b y => o1.ox (y.elim .inl fun ⟨i, d, _, y1, y2⟩ => .inr ⟨i, d, y1, y2⟩), q3, fun y => y.elim q4 fun ⟨i, d, hi, y1, y2⟩ => hi (o.inj i r a' d _ y1 he y2 q1),
      r1.weak fun b y => (zy b).mp y, ?_, hx, fun d v H2 cs' e2 r2 hc kd => ?_⟩
    · exact m1.gen (fun _ q => q) (fun b u q n => ⟨q, fun y => n ((zy b).mp y)⟩) fun _ h => h
    · have hc' : Con z (Ms z X σ env) H2 a' (.lst cs') := hc.gen (fun _ q => q) (fun b u q n => ⟨q, fun y => n ((zy b).mpr y)⟩) fun _ h => h
      obtain ⟨o2, f2⟩ := o1.lend he q1 e2 (m2 _ _ _ hc')
      refine c d v H2 _ o2 ((o.fr e1).trans f2) (r2.weak fun b y => ?_) kd
      rcases y with y | y | ⟨j, f, y1, y2⟩
      · exact .inl y
      · exact .inr (.inl (.inl y))
      · by_cases hj : r = j
        · rw [← hj, q1] at y2; cases y2; exact .inr (.inr rfl)
        · rw [List.getElem?_set_ne hj] at y1
          exact (zy b).mpr (.inr (.inr ⟨j, f, y1, y2⟩))
  unfold lendP at hp
  split at hp
  · rename_i cs he
    exact main _ cs D.lst he (fun M H a hc => ⟨hc, fun _ _ _ h => h⟩) hp
  · rename_i cs he
    exact main _ cs D.bor he (fun M H a hc => ⟨hc.2, fun _ _ _ h => ⟨hc.1, h⟩⟩) hp
  · exact hp.elim
variable {k n i : Nat} {f : Addr} {fd : FuncData} {ps : List Str} {wp : List D → List D → (D → List D → Prop) → Prop} {y : Str}
def sLend (r : Nat) (wp : List D → List D → (D → List D → Prop) → Prop) (g : PAs) : PSt := fun env k => lendP r wp g env fun _ env' => k.nx env'
def sLendS (i r : Nat) (wp : List D → List D → (D → List D → Prop) → Prop) (g : PAs) : PSt := fun env k => lendP r wp g env fun d env' => k.nx (env'.set i (.val d))
theorem s_lend {cpos : Pos} (F : FnOk C.prog C.w C.K C.mg C.base CX0 k f fd ps (SfB n wp)) (hn : ∀ ds cs k, wp ds cs k → ds.length = n) (hr : Room k C.A) (hg : Gl C x) (hm : C.mg x = some (.ref f)) (hk : PySem.W.keepIn C.K (.ref f) = true) (hb : Binds C.K fd ps [])
    (ha : AB r C (e :: es) ga) (hdb : (x == ("__debug__" : Str)) = false := by decide) (he : starEach (e :: es) C.env = (false, eval e C.env) :: starEach es C.env := by rfl) (hpl : (backTo cpos (starEach es C.env)).any (·.1) = false := by rfl)
    (hs : swapsWith (.Call (.Name x pp) (e :: es) [] cpos) none pos.line C.env = pure false := by rfl) : S fr C (.Expr (.Call (.Name x pp) (e :: es) [] cpos) pos) (sLend r wp ga) := by
  obtain ⟨t, h1, h2⟩ := ha
  exact ⟨_, ps_expr (pe_call F hr hg hm hk hb .nil pass0 h1 hdb he hpl) hs, fun z X H0 H σ env G k o s hp => lend_i h2 hn o (fun d v H' env' o' f' _ hx => s.nx env' σ H' o' f' hx) hp⟩
theorem s_lendS {cpos yp : Pos} (F : FnOk C.prog C.w C.K C.mg C.base CX0 k f fd ps (SfB n wp)) (hn : ∀ ds cs k, wp ds cs k → ds.length = n) (hr : Room k C.A) (hg : Gl C x) (hm : C.mg x = some (.ref f)) (hk : PySem.W.keepIn C.K (.ref f) = true) (hb : Binds C.K fd ps [])
    (ha : AB r C (e :: es) ga) (hN : C.N.Nodup) (hi : C.N[i]? = some y) (hy : Loc C.env.scope y) (hdb : (x == ("__debug__" : Str)) = false := by decide) (he : starEach (e :: es) C.env = (false, eval e C.env) :: starEach es C.env := by rfl) (hpl : (backTo cpos (starEach es C.env)).any (·.1) = false := by rfl)
    (hs : swapsWith (.Call (.Name x pp) (e :: es) [] cpos) (some (.Name y yp)) pos.line C.env = pure false := by rfl) (hf : C.fn y = true ∨ C.env.scope.names.lookup y = some .local := by first | exact .inl rfl | exact .inr rfl | assumption) :
    S fr C (.Assign [.Name y yp] (.Call (.Name x pp) (e :: es) [] cpos) pos) (sLendS i r wp ga) := by
  obtain ⟨t, h1, h2⟩ := ha
  refine ⟨_, ps_set hN hi hy (pe_call F hr hg hm hk hb .nil pass0 h1 hdb he hpl) hs hf, fun z X H0 H σ env G k o s hp => lend_i h2 hn o (fun d v H' env' o' f' r' hx => ?_) hp⟩
  obtain ⟨o2, f2⟩ := o'.set (i := i) r'
  exact s.nx _ _ H' o2 (f'.trans f2) hx
/-! ### recursion, by fuel -/
variable {P : Program} {w : World} {K : PySem.W.Frag} {mg : Str → Option Value} {base : Heap}
theorem fn_bot {sp : Sp} (h : ∀ vs H Q E, ¬ sp vs H Q E) : FnOk P w K mg base CX0 k f fd ps sp := ⟨fun vs H Q E q => (h vs H Q E q).elim, fun A outer s H args us vs Q E _ _ _ _ q => (h vs H Q E q).elim⟩
theorem fn_rec (sp : Nat → Sp) (k : Nat) (h0 : ∀ vs H Q E, ¬ sp 0 vs H Q E) (hs : ∀ m, FnOk P w K mg base CX0 (k + m) f fd ps (sp m) → FnOk P w K mg base CX0 (k + m + 1) f fd ps (sp (m + 1))) (m : Nat) : FnOk P w K mg base CX0 (k + m) f fd ps (sp m) := by
  induction m with
  | zero => exact fn_bot h0
  | succ m ih => exact hs m ih
end
end Pu

namespace Pu
open PySem PySem.Spec PyProof.Rows L2
variable [Tbs]
/-! ### sorted(xs), xs a list of tuples of whole numbers -/
def lexI : List Int → List Int → Bool
  | [], [] => false
  | [], _ :: _ => true
  | _ :: _, [] => false
  | x :: r, y :: t => decide (x < y) || (!decide (y < x) && lexI r t)
theorem lexI_eq : ∀ (xs ys : List Int), PyProof.Rows.lexLt PyProof.Rows.itemOrd (xs.map Sum.inl) (ys.map Sum.inl) = lexI xs ys
  | [], [] => rfl
  | [], _ :: _ => rfl
  | _ :: _, [] => rfl
  | x :: r, y :: t => by
    show (decide (x < y) || (!decide (y < x) && PyProof.Rows.lexLt PyProof.Rows.itemOrd (r.map Sum.inl) (t.map Sum.inl))) = _
    rw [lexI_eq r t]; rfl
theorem perm_lift {α β : Type} (f : α → β) {a b : List β} (h : a.Perm b) : ∀ (ks : List α), ks.map f = b → ∃ L : List α, L.Perm ks ∧ L.map f = a := by
  induction h with
  | nil => intro ks e; exact ⟨ks, .refl _, e⟩
  | cons x p ih =>
    intro ks e
    cases ks with
    | nil => cases e
    | cons y r =>
      rw [List.map_cons] at e
      injection e with e1 e2
      obtain ⟨L, h1, h2⟩ := ih r e2
      exact ⟨y :: L, h1.cons y, by rw [List.map_cons, e1, h2]⟩
  | swap x y l =>
    intro ks e
    match ks, e with
    | u :: v :: r, e =>
      rw [List.map_cons, List.map_cons] at e
      injection e with e1 e2
      injection e2 with e2 e3
      exact ⟨v :: u :: r, List.Perm.swap u v r, by rw [List.map_cons, List.map_cons, e1, e2, e3]⟩
  | trans p q ih1 ih2 =>
    intro ks e
    obtain ⟨L, h1, h2⟩ := ih2 ks e
    obtain ⟨L2, h3, h4⟩ := ih1 L h2
    exact ⟨L2, h3.trans h1, h4⟩
abbrev rf (p : Addr × List Int) : V := V.ref p.1
abbrev rfv (p : Addr × List Int) : Value := Value.ref p.1
theorem refs_in : ∀ {ks : List (Addr × List Int)} {us : List Value}, Vals (ks.map rf) us → us = ks.map rfv
  | [], _, .nil => rfl
  | p :: ks, _, .cons r t => by
    cases r
    rw [refs_in t] <;> rfl
theorem refs_out : ∀ (ks : List (Addr × List Int)), Vals (ks.map rf) (ks.map rfv)
  | [] => .nil
  | p :: ks => .cons rfl (refs_out ks)
def shI : Nat → Bool := fun _ => false
theorem items_in : ∀ {ns : List Int} {us : List Value} (i : Nat), Vals (ns.map V.int) us → PyProof.Rows.tupItems shI i us = some (ns.map Sum.inl)
  | [], _, _, .nil => rfl
  | n :: ns, _, i, .cons r t => by
    obtain ⟨tk, rfl⟩ := r
    show (if shI i = true then none else (PyProof.Rows.tupItems shI (i + 1) _).map (Sum.inl n :: ·)) = _
    rw [items_in (i + 1) t]; rfl
def rSortedN (K : PySem.W.Frag) : List V → Hp → VK → Prop := fun vs H Q => ∃ (a : Addr) (ks : List (Addr × List Int)), vs = [V.ref a] ∧ SqL K H a (ks.map rf) ∧ (∀ p ∈ ks, SqT K H p.1 (p.2.map V.int) ∧ p.2 ≠ []) ∧
  ∀ (L : List (Addr × List Int)) (p : Addr), L.Perm ks → L.Pairwise (fun q r => lexI r.2 q.2 = false) → H p = none → Q (.ref p) (upd H p (.lst (L.map rf)))
theorem cr_sortedN {X : Cx} : CallR X (.builtin "sorted") (rSortedN X.K) := by
  intro pins s σ H vs us Q I r h
  obtain ⟨a, ks, rfl, hs, hk, q⟩ := h
  obtain ⟨its, rv, hl, hz⟩ := I.list hs
  rw [Vals.ref1 r]
  cases refs_in rv
  have key : ∀ p ∈ ks, PyProof.Rows.G.tupKeyC s.heap shI (rfv p) = some (p.2.map Sum.inl) ∧ ∃ f, PyProof.Rows.TupOf s.heap shI (rfv p) f := fun p hp => by
    obtain ⟨h1, h2⟩ := hk p hp
    obtain ⟨us, ru, ⟨o, ho, hc, n, hd⟩, _⟩ := I.tuple h1
    have hi : PyProof.Rows.tupItems shI 0 us.toArray.toList = some (p.2.map Sum.inl) := by simpa using items_in 0 ru
    refine ⟨?_, ?_⟩
    · unfold PyProof.Rows.G.tupKeyC
      have e1 : PyProof.Rows.G.isTupObj s.heap (rfv p) = true := by simp [PyProof.Rows.G.isTupObj, ho, hc]
      rw [if_pos e1]
      simp only [PyProof.Rows.tupKey, ho, hd]
      exact hi
    · obtain ⟨p1, p2⟩ := p
      cases p2 with
      | nil => exact absurd rfl h2
      | cons m ms =>
        cases ru with
        | cons r0 rt =>
          obtain ⟨tk, rfl⟩ := r0
          exact ⟨_, p1, o, _, n, rfl, ho, hc, hd, rfl, fun _ => ⟨m, tk, rfl⟩, fun w => Bool.noConfusion w⟩
  have tups : ∀ ks : List (Addr × List Int), (∀ p ∈ ks, ∃ f, PyProof.Rows.TupOf s.heap shI (rfv p) f) → ∃ fs, PyProof.Rows.TupsOf s.heap shI (ks.map rfv) fs := fun ks => by
    induction ks with
    | nil => intro _; exact ⟨[], .nil⟩
    | cons p ks ih =>
      intro h
      obtain ⟨f, hf⟩ := h p List.mem_cons_self
      obtain ⟨fs, hfs⟩ := ih fun u hu => h u (List.mem_cons_of_mem _ hu)
      exact ⟨f :: fs, .cons hf hfs⟩
  obtain ⟨fs, hfs⟩ := tups ks fun p hp => (key p hp).2
  refine PyProof.Rows.G.sorted_tups (shape := shI) hl.isList hfs (fun v hv => ?_) (by simpa using hz) fun st' hp hs' _ => ?_
  · obtain ⟨p, hp, rfl⟩ := List.mem_map.mp hv
    exact ⟨_, (key p hp).1⟩
  · have hpl : (arrOf st').toList.Perm ((ks.map rfv).zip (ks.map rfv)) := by
      have e := Array.perm_iff_toList_perm.mp hp
      rw [pairsOf_toList] at e
      exact e
    have ho : ((arrOf st').toList.map (·.2)).Perm (ks.map rfv) := by
      have e := hpl.map (·.2)
      rw [List.map_snd_zip (Nat.le_refl _)] at e
      exact e
    obtain ⟨L, l1, l2⟩ := perm_lift rfv ho ks rfl
    have hlen : L.length = (arrOf st').toList.length := by have e := congrArg List.length l2; simpa using e
    have kk : ∀ (i : Nat) (hi : i < L.length), KK (PyProof.Rows.G.tupKindC s.heap shI) (arrOf st') i = L[i].2.map Sum.inl := fun i hi => by
      have hi' : i < (arrOf st').toList.length := by omega
      have e1 : (arrOf st')[i]? = some (arrOf st').toList[i] := by rw [← Array.getElem?_toList]; exact List.getElem?_eq_getElem hi'
      have e2 : (arrOf st').toList[i].2 = rfv L[i] := by
        have e := congrArg (fun l => l[i]?) l2
        simp only [List.getElem?_map, List.getElem?_eq_getElem hi, List.getElem?_eq_getElem hi', Option.map_some] at e
        exact (Option.some.inj e).symm
      have e3 := (mem_zip_self (hpl.mem_iff.mp (List.getElem_mem hi'))).1
      have e4 : L[i] ∈ ks := l1.mem_iff.mp (List.getElem_mem hi)
      unfold KK
      rw [e1]
      show (PyProof.Rows.G.tupKeyC s.heap shI (arrOf st').toList[i].1).getD [] = _
      rw [e3, e2, (key _ e4).1]; rfl
    have pw : L.Pairwise (fun q r => lexI r.2 q.2 = false) := by
      rw [List.pairwise_iff_getElem]
      intro i j hi hj hij
      have e := hs' i j (Nat.le_of_lt hij) (by rw [pairsOf_size, List.length_map, ← l1.length_eq]; exact hj)
      rw [kk i hi, kk j hj] at e
      rw [← lexI_eq]
      exact e
    obtain ⟨ep, he'⟩ := sortedAll_at s.heap (ks.map rfv) ((arrOf st').map (·.2))
    have len : (L.map rf).length ≤ sizeLine := by
      rw [List.length_map, l1.length_eq]; simpa using hz
    have hv : Vals (L.map rf) ((arrOf st').map (·.2)).toList := by rw [Array.toList_map, ← l2]; exact refs_out L
    exact ⟨.ref _, upd H (s.heap.objs.size + 1) (.lst (L.map rf)), I.laid (t' := s.toks) (fun _ _ => sortedAll_old) (Nat.le_succ _) ⟨len, _, ep, hv, he'⟩, rfl, q L _ l1 pw (I.hok.fresh (Nat.le_succ _))⟩
def tupI (ns : List Int) : D := .tup (ns.map D.int)
def gSortedN : List D → (D → Prop) → Prop := fun ds k => ∃ xs : List (List Int), ds = [.lst (xs.map tupI)] ∧ (∀ x ∈ xs, x ≠ []) ∧ ∀ ys : List (List Int), ys.Perm xs → ys.Pairwise (fun q r => lexI r q = false) → k (.lst (ys.map tupI))
theorem tups_of {z : Zn} {M : AP} {H : Hp} : ∀ {xs : List (List Int)} {vs : List V}, IsA z M H vs (xs.map tupI) → ∃ ks : List (Addr × List Int), vs = ks.map rf ∧ ks.map (·.2) = xs ∧ ∀ p ∈ ks, H p.1 = some (.tup (p.2.map V.int)) ∧ ¬ M p.1
  | [], _, .nil => ⟨[], rfl, rfl, fun _ h => nomatch h⟩
  | x :: xs, _, .cons q t => by
    obtain ⟨ks, h1, h2, h3⟩ := tups_of t
    cases (show Is z M H _ (.tup (x.map D.int)) from q) with
    | tup e n r =>
      refine ⟨(_, x) :: ks, by rw [List.map_cons, h1], by rw [List.map_cons, h2], fun p hp => ?_⟩
      rcases List.mem_cons.mp hp with rfl | hp
      · exact ⟨by rw [e, r.ints], n⟩
      · exact h3 p hp
theorem tups_to {z : Zn} {M : AP} {H : Hp} : ∀ {ks : List (Addr × List Int)}, (∀ p ∈ ks, H p.1 = some (.tup (p.2.map V.int)) ∧ ¬ M p.1) → IsA z M H (ks.map rf) ((ks.map (·.2)).map tupI)
  | [], _ => .nil
  | p :: ks, h => .cons (.tup (h p List.mem_cons_self).1 (h p List.mem_cons_self).2 (IsA.ofInts _)) (tups_to fun u hu => h u (List.mem_cons_of_mem _ hu))
theorem cd_sortedN {K : PySem.W.Frag} : CallD true .f (rSortedN K) gSortedN := fun z X H0 H σ env vs ds Q k o h c hp => by
  obtain ⟨xs, rfl, hne, hk⟩ := hp
  obtain ⟨v, rfl, hv⟩ := h.one
  cases hv with
  | lst e n r =>
    obtain ⟨ks, rfl, h2, h3⟩ := tups_of r
    refine ⟨_, ks, rfl, SqL.of e, fun p hp => ⟨SqT.of (h3 p hp).1, hne _ (by rw [← h2]; exact List.mem_map.mpr ⟨p, hp, rfl⟩)⟩, fun L p l1 l2 hq => ?_⟩
    have e2 : (L.map (·.2)).Perm xs := by rw [← h2]; exact l1.map _
    refine c _ _ _ ((Evo.refl _ _).new hq) (Rel.newL hq hq ?_) (hk (L.map (·.2)) e2 (List.pairwise_map.mpr l2))
    rw [if_pos rfl] at h3
    exact tups_to fun u hu => h3 u (l1.mem_iff.mp hu)
theorem gSortedN_i {xs : List (List Int)} {k : D → Prop} (h1 : ∀ x ∈ xs, x ≠ []) (h2 : ∀ ys : List (List Int), ys.Perm xs → ys.Pairwise (fun q r => lexI r q = false) → k (.lst (ys.map tupI))) : gSortedN [.lst (xs.map tupI)] k := ⟨xs, rfl, h1, h2⟩
end Pu

namespace Pu
open PySem PySem.Spec PyProof.Rows L2
variable [Tbs]
/-! ### statements that raise: p env says that they do -/
abbrev XS := List SV → Prop
/-- what is wished at the raise -/
abbrev WD := L2.St → Hp → Prop
def RX (W : WD) (t : TS) (p : XS) : Prop := ∀ (z : Zn) (X : AP) (H0 H : Hp) (σ : Sl) (env : List SV) (D : Ends), Ok z X H0 H σ env → (∀ σ' H', Evo z H0 H' → W σ' H') → p env → t D σ H
def RXE (W : WD) (t : TE) (p : XS) : Prop := ∀ (z : Zn) (X : AP) (H0 H : Hp) (σ : Sl) (env : List SV) (Q : VK), Ok z X H0 H σ env → (∀ H', Evo z H H' → W σ H') → p env → t σ H Q
structure EX (W : WD) (C : Cx) (e : Expr) (p : XS) : Prop where
  ex : ∃ t, PE C e t ∧ RXE W t p
structure SX (W : WD) (C : Cx) (st : Stmt) (p : XS) : Prop where
  ex : ∃ t, PS C st t ∧ RX W t p
structure BX (W : WD) (C : Cx) (st : List Stmt) (p : XS) : Prop where
  ex : ∃ t, PSs C st t ∧ RX W t p
section
variable {W : WD} {C : Cx} {fr : Bool} {st : Stmt} {rest : List Stmt} {e a b : Expr} {es : List Expr} {p : PSt} {pe : PX} {q px : XS} {m : Mode} {pos pp : Pos} {x : Str}
theorem pss_never : PSs C rest (fun _ _ _ => False) := ⟨fun _ _ _ _ _ _ h => h.elim⟩
theorem bx_first (h : SX W C st q) : BX W C (st :: rest) q := by
  obtain ⟨t, h1, h2⟩ := h
  exact ⟨_, pss_cons h1 pss_never, fun z X H0 H σ env D o w hp => h2 z X H0 H σ env _ o w hp⟩
/-- the first runs, then the rest raises -/
def xSeq (p : PSt) (q : XS) : XS := fun env => p env { nx := q, rt := fun _ => False, bk := fun _ => False, ct := fun _ => False, re := fun _ _ => False }
theorem bx_cons (h : S fr C st p) (g : BX W C rest q) : BX W C (st :: rest) (xSeq p q) := by
  obtain ⟨t, h1, h2⟩ := h
  obtain ⟨u, g1, g2⟩ := g
  exact ⟨_, pss_cons h1 g1, fun z X H0 H σ env D o w hp => h2 z X H0 H σ env _ { nx := q, rt := fun _ => False, bk := fun _ => False, ct := fun _ => False, re := fun _ _ => False } o ⟨fun env' σ' H' o' f' hx => g2 z X H0 H' σ' env' _ o' w hx, fun _ _ _ _ _ _ h => h.elim, fun _ _ _ _ _ h => h.elim, fun _ _ _ _ _ h => h.elim, fun _ _ _ _ _ _ _ h => h.elim⟩ hp⟩
/-- a test holds, and its branch raises -/
def xIf (c : PTs') (q : XS) : XS := fun env => c env fun b => b = true ∧ q env
theorem sx_if {c : Expr} {ss els : List Stmt} {tc : PTs'} (h : T C c tc) (ha : BX W C ss q) : SX W C (.If c ss els pos) (xIf tc q) := by
  obtain ⟨t, h1, h2⟩ := h
  obtain ⟨ta, a1, a2⟩ := ha
  refine ⟨_, ps_if h1 a1 pss_never, fun z X H0 H σ env D o w hp => h2 z X H0 H σ env _ _ o (fun y H1 e1 hx => ?_) hp⟩
  obtain ⟨rfl, hx⟩ := hx
  exact a2 z X H0 H1 σ env _ (o.go e1) w hx
/-- raise X('..') -/
theorem sx_raise {W0 : WX} {A : Addr} {bmB : List Value} {Bn newId initId : String} {ms : Str} {j : Nat} {p2 cpos : Pos} (hc : C.calm = true) (tk : Takes C W0) (F : ExcBaseFacts Bn newId initId bmB) (xq : PySem.W.excIn C.K A bmB newId = true) (gC : C.mg x = some (.ref A)) (kC : PySem.W.keepIn C.K (.ref A) = true) (r : Raises C (.ref A)) (hg : Gl C x)
    (hdb : (x == ("__debug__" : Str)) = false := by decide) : SX (fun σ H => W0 (.ref A) none σ H) C (.Raise (some (.Call (.Name x pp) [.Constant (.str ms) j p2] [] cpos)) none pos) (fun _ => True) :=
  ⟨_, ps_raise hc tk (pmk_own F xq gC kC r hg hdb), fun z X H0 H σ env D o w _ => w σ H o.evo⟩
/-! ### expressions that raise: a call among other things -/
def xCall (wpx : List D → Prop) (g : PAs) : XS := fun env => g env fun ds => wpx ds
/-- the promise of a def that raises an exception of the class cls -/
def SfX (cls : Value) (n : Nat) (wpx : List D → Prop) : Sp := fun vs H _ E => ∃ (z : Zn) (X : AP) (ds : List D), vs.length = n ∧ ((∀ a, z.Z a → H a ≠ none) ∧ Tabs H) ∧ (∀ a, X a → H a ≠ none ∧ ¬ z.Z a) ∧ IsA z (Zx z X) H vs ds ∧ wpx ds ∧ ∀ H', Evo z H H' → E cls none H'
theorem rxe_call {W0 : WX} {cls : Value} {n : Nat} {wpx : List D → Prop} {t : TA} {ga : PAs} (h : RA true t ga) : RXE (fun σ H => W0 cls none σ H) (tCallS (SfX cls n wpx) (WE W0) t) (xCall (fun ds => ds.length = n ∧ wpx ds) ga) := fun z X H0 H σ env Q o w hp => by
  refine h z X H0 H σ env _ _ o (fun ds vs H1 e1 r1 hx => ?_) hp
  have o1 := o.go e1
  rw [if_pos rfl] at r1
  exact ⟨z, Ox X σ env, ds, by rw [r1.length]; exact hx.1, ⟨o1.zal, o1.tab⟩, fun a => o1.ox, r1.weak fun a q => zx_ox.mp q, hx.2, fun H2 e2 => w H2 (e1.trans e2)⟩
theorem ex_call {W0 : WX} {cls : Value} {k n : Nat} {f : Addr} {fd : FuncData} {ps : List Str} {wpx : List D → Prop} {ga : PAs} (F : FnOk C.prog C.w C.K C.mg C.base (L2.CX C.prog C.w) k f fd ps (SfX cls n wpx)) (hr : Room k C.A) (hg : Gl C x) (hm : C.mg x = some (.ref f)) (hk : PySem.W.keepIn C.K (.ref f) = true) (hb : Binds C.K fd ps []) (tk : Takes C W0)
    (ha : A true C (e :: es) ga) (hdb : (x == ("__debug__" : Str)) = false := by decide) (he : starEach (e :: es) C.env = (false, eval e C.env) :: starEach es C.env := by rfl) (hpl : (backTo pos (starEach es C.env)).any (·.1) = false := by rfl) :
    EX (fun σ H => W0 cls none σ H) C (.Call (.Name x pp) (e :: es) [] pos) (xCall (fun ds => ds.length = n ∧ wpx ds) ga) := by
  obtain ⟨t, h1, h2⟩ := ha
  exact ⟨_, pe_callS F hr hg hm hk hb (fun σ => passAt tk σ) h1 hdb he hpl, rxe_call h2⟩
theorem ex_lst (h : EX W C e q) (hs : starEach (e :: []) C.env = (false, eval e C.env) :: starEach [] C.env := by rfl) : EX W C (.List [e] pos) q := by
  obtain ⟨t, h1, h2⟩ := h
  exact ⟨_, pe_lst (pa_cons h1 pa_nil hs), fun z X H0 H σ env Q o w hp => h2 z X H0 H σ env _ o w hp⟩
theorem ex_opL {op : Operator} {r : R2} (hr : OpR C (binaryOp op) r) (h : EX W C a q) (hb : E m C b pe) : EX W C (.BinOp a op b pos) q := by
  obtain ⟨t, h1, h2⟩ := h
  obtain ⟨u, g1, g2⟩ := hb
  exact ⟨_, pe_op hr h1 g1, fun z X H0 H σ env Q o w hp => h2 z X H0 H σ env _ o w hp⟩
theorem sx_set {i : Nat} (h : EX W C e q) (hN : C.N.Nodup) (hi : C.N[i]? = some x) (hx : Loc C.env.scope x) (hs : swapsWith e (some (.Name x pp)) pos.line C.env = pure false := by rfl) (hf : C.fn x = true ∨ C.env.scope.names.lookup x = some .local := by first | exact .inl rfl | exact .inr rfl | assumption) :
    SX W C (.Assign [.Name x pp] e pos) q := by
  obtain ⟨t, h1, h2⟩ := h
  exact ⟨_, ps_set hN hi hx h1 hs hf, fun z X H0 H σ env D o w hp => h2 z X H0 H σ env _ o (fun H' ev => w σ H' (o.evo.trans ev)) hp⟩
theorem sx_ret (h : EX W C e q) : SX W C (.Return (some e) pos) q := by
  obtain ⟨t, h1, h2⟩ := h
  exact ⟨_, ps_ret h1, fun z X H0 H σ env D o w hp => h2 z X H0 H σ env _ o (fun H' ev => w σ H' (o.evo.trans ev)) hp⟩
end
/-! ### a def that raises -/
def wpXOf (n : Nat) (p : XS) : List D → Prop := fun ds => p (ds.map SV.val ++ List.replicate (n - ds.length) SV.no)
section
variable {P : Program} {w : World} {K : PySem.W.Frag} {mg : Str → Option Value} {base : Heap}
theorem fn_okX {x qual : Str} {st : Stmt} {f : Addr} {fd : FuncData} {N ps : List Str} {k : Nat} {cls : Value} {p : XS} (F : Fun K x qual st f fd) (S : FnScope N ps (defScope st))
    (hb : ∀ (cdv : Value) (A : Around) (outer : List Env) (s : Shared) (H : Hp) (E : XK), Room k (A.deeper (envOfC qual (defScope st) s.heap.objs.size f cdv)) → Takes (cxOf (L2.CX P w) P w K mg base N qual (defScope st) f cdv A outer s H E) (fun cls d _ H => E cls d H) →
      BX (fun _ H => E cls none H) (cxOf (L2.CX P w) P w K mg base N qual (defScope st) f cdv A outer s H E) (defBody st) p) :
    FnOk P w K mg base (L2.CX P w) (k + 1) f fd ps (SfX cls ps.length (wpXOf N.length p)) := by
  refine F.okX S (fun vs H Q E h => ?_) (fun cdv A outer s H vs Q E hr h => ?_)
  · obtain ⟨z, X, ds, hl, _⟩ := h
    exact hl
  · obtain ⟨z, X, ds, hl, hz, hx, hA, hw, c⟩ := h
    obtain ⟨t, b1, b2⟩ := hb cdv A outer s H E hr (takes_of rfl rfl rfl rfl)
    exact ⟨t, b1, b2 z X H H (L2.start N vs) _ _ (start_ok hz hx hA) (fun σ' H' ev => c H' ev) hw⟩
end
/-! ### isinstance of what an except clause holds, a tuple of classes -/
section
variable {C : Cx} {a D : Addr} {oe : Obj} {pn : List (Addr × Obj)}
def rIsET (K : PySem.W.Frag) (D a : Addr) : List V → Hp → VK → Prop := fun xs H Q => ∃ (tp : Addr) (cs : List V) (us : List Value) (b : Bool), xs = [.ref a, .ref tp] ∧ H tp = some (.tup cs) ∧ Paired ClsV cs us ∧ PySem.W.kitAny K (.ref D) us = some b ∧ Q (.bl b) H
theorem call_isET (T : ExcC C.K D) (hz : Zc (.ref D) none oe) (hf : ∃ vs, oe.data = .fields vs) : CallR (C.suite a ((a, oe) :: pn)) (.builtin "isinstance") (rIsET C.K D a) := by
  intro pins s σ H xs us Q I r h
  obtain ⟨tp, cs, ws, b, rfl, hT, k, e, q⟩ := h
  obtain ⟨u1, u2, rfl, r1, r2⟩ := vals2 r
  cases (show u1 = Value.ref a from r1)
  cases (show u2 = Value.ref tp from r2)
  obtain ⟨hget, _⟩ := I.pin (a, oe) (List.mem_append.mpr (.inl List.mem_cons_self))
  obtain ⟨vs, hv⟩ := hf
  have J : PySem.W.InstAt s.heap a oe D none := by
    obtain ⟨oc, od, oda, osl⟩ := oe
    obtain ⟨h1, h2⟩ := hz
    dsimp only at h1 h2 hv
    subst h1 h2 hv
    exact ⟨hget, rfl, rfl, trivial⟩
  obtain ⟨_, its, rv, o, h1, h2, n, h3⟩ := (show ObjOk C.prog C.w H s.heap tp (.tup cs) from I.hok tp _ hT)
  have e3 := ClsV.all k rv
  subst e3
  obtain ⟨oc, od, dt, sl⟩ := o
  simp only at h2 h3
  subst h2 h3
  exact PySem.W.kia_tup (PySem.W.handS_kitx_exc T.hg T.hk T.hs T.hd T.ha T.hn T.ht T.hm) I.kIn J h1 e (fun z => nomatch z) fun tk => ⟨.bl b, H, I.tok tk, rfl, q⟩
end
end Pu
namespace Pu
open PySem PySem.Spec PyProof.Rows L2
variable [Tbs]
section
variable {C : Cx} {z : Zn} {X : AP} {H0 H H' : Hp} {σ : Sl} {env : List SV}
theorem ra_nil {l : Bool} : RA l tNil aNil := fun z X H0 H σ env Q k o c hp => c [] [] H (Evo.refl _ _) .nil hp
theorem ra_v (i : Nat) {u : TA} {g : PAs} (hr : RA true u g) : RA true (tCons (tVar i) u) (aCons (eV i) g) := fun z X H0 H σ env Q k o c hp => by
  refine re_v i z X H0 H σ env _ _ o (fun d v H1 e1 r1 hx => ?_) hp
  refine hr z X H0 H1 σ env _ _ (o.go e1) (fun ds vs H2 e2 r2 hy => c (d :: ds) (v :: vs) H2 (e1.trans e2) (.cons ?_ r2) hy) hx
  exact Is.evo (fun _ q => .inl q) e2 r1
/-- a slot of nothing is stored to -/
theorem Ok.setNo (k : Ok z X H0 H σ env) {i : Nat} (u : Option V) (he : env[i]? = some .no) : Ok z X H0 H (σ.set i u) env ∧ Fr z X (Ms z X σ env) H (Ms z X (σ.set i u) env) H := by
  have ne : ∀ (j : Nat) (s : SV), env[j]? = some s → s ≠ .no → (σ.set i u)[j]? = σ[j]? := fun j s h q => by
    by_cases e : i = j
    · subst e; rw [he] at h; cases h; exact absurd rfl q
    · exact List.getElem?_set_ne e
  have sub : ∀ a, Ms z X (σ.set i u) env a → Ms z X σ env a := by
    rintro a (h | h | ⟨j, d, h1, h2⟩)
    · exact .inl h
    · exact .inr (.inl h)
    · rw [ne j _ h1 (fun q => nomatch q)] at h2
      exact .inr (.inr ⟨j, d, h1, h2⟩)
  refine ⟨⟨by simp [k.len], k.evo, k.zal, k.xal, fun j d h => ?_, fun j d h => ?_, fun j l a d e h1 h2 h3 h4 => ?_, k.tab⟩, ⟨fun a o q n => ⟨q, fun x => n (sub a x)⟩, fun _ h => h, fun _ h => h⟩⟩
  · obtain ⟨v, h1, h2⟩ := k.val j d h
    exact ⟨v, by rw [ne j _ h (fun q => nomatch q)]; exact h1, h2.weak sub⟩
  · obtain ⟨a, h1, h2, h3, h4⟩ := k.own j d h
    exact ⟨a, by rw [ne j _ h (fun q => nomatch q)]; exact h1, h2.gen (fun _ q => q) (fun b o q n => ⟨q, fun x => n (sub b x)⟩) fun _ h => h, h3, h4⟩
  · rw [ne j _ h1 (fun q => nomatch q)] at h3
    rw [ne l _ h2 (fun q => nomatch q)] at h4
    exact k.inj j l a d e h1 h2 h3 h4
/-- a try whose body raises, its suite stores a truth in the slot j -/
def sTry (i j : Nat) (px : XS) (b : Bool) : PSt := fun env k => (env[i]? = some .no ∧ i ≠ j ∧ j < env.length) ∧ px env ∧ k.nx (env.set j (.val (.bl b)))
theorem pss_of {st : List Stmt} {p : Prop} {t : TS} (h : p → PSs C st t) : PSs C st (fun D σ H => p ∧ t D σ H) := ⟨fun pins s σ H D I q => (h q.1).run pins s σ H D I q.2⟩
theorem s_try {fr : Bool} {i j : Nat} {n x : Str} {c cls : Value} {b : Bool} {body suite : List Stmt} {b₀ : Stmt} {np pos pos' : Pos} {tb : WX → TS} {ts : Addr → TS} {px : XS}
    (hs : C.stack = C.env :: C.outer) (hf : C.env.frame = some C.env.locals) (hN : C.N.Nodup) (hi : C.N[i]? = some n) (hln : C.env.kindOf n = some .local) (hc : Names C x c)
    (hb : ∀ (W : WX) (pn : List (Addr × Obj)) (xe : Value → Shared → Prop), Takes (C.tr pn xe) W → PassesOwn (model C.prog C.w) C.A C.env xe → PSs (C.tr pn xe) body (tb W))
    (hbx : ∀ (W : WX) (z : Zn) (X : AP) (H0 H : Hp) (σ : Sl) (env : List SV) (D : Ends), Ok z X H0 H σ env → (∀ H', Evo z H H' → W cls none σ H') → px env → tb W D σ H)
    (hm : PySem.W.exmOne C.K cls c = some true)
    (hsu : ∀ (a : Addr) (oe : Obj) (pn : List (Addr × Obj)), Zc cls none oe → (∃ vs, oe.data = .fields vs) → PSs (C.suite a ((a, oe) :: pn)) (b₀ :: suite) (ts a))
    (hts : ∀ (z : Zn) (a : Addr) (σ : Sl) (H : Hp) (D : Ends), i ≠ j → j < σ.length → σ[i]? = some (some (.ref a)) → (∀ H', Evo z H H' → D.nx (σ.set j (some (.bl b))) H') → ts a D σ H) :
    S fr C (.Try body [.ExceptHandler (some (.Name x np)) (some n) (b₀ :: suite) pos'] [] [] pos) (sTry i j px b) := by
  refine ⟨_, ps_try_as hs hf hN hi hln hc takes0 hb (fun a oe cls' d pn hz hv => pss_of (p := cls' = cls ∧ d = none) (t := ts a) fun e => by obtain ⟨rfl, rfl⟩ := e; exact hsu a oe pn hz hv), fun z X H0 H σ env G k o s hp => ?_⟩
  obtain ⟨⟨he, hij, hjl⟩, hp, hk⟩ := hp
  have hil : i < σ.length := by rw [o.len]; exact (List.getElem?_eq_some_iff.mp he).1
  refine hbx _ z X H0 H σ env G o (fun H1 e1 => ?_) hp
  refine ⟨true, hm, fun _ a ha => ⟨⟨rfl, rfl⟩, ?_⟩, fun q => Bool.noConfusion q⟩
  have hj : j < σ.length := by rw [o.len]; exact hjl
  · refine hts z a _ H1 _ hij (by simpa using hj) (by rw [List.getElem?_set_self hil]) (fun H2 e2 => ?_)
    show G.nx (((σ.set i (some (.ref a))).set j (some (.bl b))).set i none) H2
    rw [List.set_comm _ _ hij, List.set_set]
    have o2 := (o.go e1).go e2
    obtain ⟨o3, f3⟩ := o2.set (i := j) (v := .bl b) (d := .bl b) (.bl b)
    obtain ⟨o4, f4⟩ := o3.setNo (i := i) none (by rw [List.getElem?_set_ne (Ne.symm hij)]; exact he)
    exact s.nx _ _ H2 o4 (((o.fr e1).trans ((o.go e1).fr e2)).trans (f3.trans f4)) hk
/-! ### isinstance(e, ..), e what the clause holds, at a -/
def TB (p : Sl → Prop) (t : TE) (b : Bool) : Prop := ∀ (z : Zn) (σ : Sl) (H : Hp) (Q : VK), p σ → (∀ H', Evo z H H' → Q (.bl b) H') → t σ H Q
theorem TB.and {p : Sl → Prop} {t u : TE} {x y : Bool} (h : TB p t x) (g : TB p u y) : TB p (tAndV t u) (x && y) := fun z σ H Q hp c => by
  refine h z σ H _ hp fun H1 e1 => ⟨x, rfl, ?_⟩
  cases x with
  | true => exact g z σ H1 Q hp fun H2 e2 => c H2 (e1.trans e2)
  | false => exact c H1 e1
theorem TB.not {p : Sl → Prop} {t : TE} {x : Bool} (h : TB p t x) : TB p (tNotV t) (!x) := fun z σ H Q hp c => h z σ H _ hp fun H1 e1 => ⟨x, rfl, c H1 e1⟩
theorem TB.var {j : Nat} {b : Bool} : TB (fun σ => σ[j]? = some (some (.bl b))) (tVar j) b := fun z σ H Q hp c => ⟨_, hp, c H (Evo.refl _ _)⟩
theorem TB.imp {p q : Sl → Prop} {t : TE} {b : Bool} (h : TB p t b) (i : ∀ σ, q σ → p σ) : TB q t b := fun z σ H Q hp c => h z σ H Q (i σ hp) c
theorem TB.fst {p q : Sl → Prop} {t : TE} {b : Bool} (h : TB p t b) : TB (fun σ => p σ ∧ q σ) t b := fun z σ H Q hp c => h z σ H Q hp.1 c
theorem TB.snd {p q : Sl → Prop} {t : TE} {b : Bool} (h : TB q t b) : TB (fun σ => p σ ∧ q σ) t b := fun z σ H Q hp c => h z σ H Q hp.2 c
theorem TB.isE {K : PySem.W.Frag} {D a : Addr} {i : Nat} {c : V} {cv : Value} {b : Bool} (hc : ∀ u, RelV c u → u = cv) (e : PySem.W.kitOne K (.ref D) cv = some b) : TB (fun σ => σ[i]? = some (some (.ref a))) (tCB (rIsE K D a) (tCons (tVar i) (tCons (tC c) tNil))) b :=
  fun z σ H Q hp k => ⟨_, hp, c, cv, b, rfl, hc, e, k H (Evo.refl _ _)⟩
/-- names of own classes -/
def tcs : List Addr → TA
  | [] => tNil
  | A :: r => tCons (tC (.ref A)) (tcs r)
theorem tcs_go : ∀ (l : List Addr) (σ : Sl) (H : Hp) (Q : List V → Hp → Prop), Q (l.map V.ref) H → tcs l σ H Q
  | [], _, _, _, h => h
  | _ :: r, σ, H, Q, h => tcs_go r σ H _ h
theorem paired_cls : ∀ l : List Addr, Paired ClsV (l.map V.ref) (l.map Value.ref)
  | [] => .nil
  | A :: r => .cons (.own A) (paired_cls r)
theorem TB.isET {K : PySem.W.Frag} {D a : Addr} {i : Nat} {l : List Addr} {b : Bool} (hl : l.length ≤ sizeLine) (e : PySem.W.kitAny K (.ref D) (l.map Value.ref) = some b) : TB (fun σ => σ[i]? = some (some (.ref a))) (tCB (rIsET K D a) (tCons (tVar i) (tCons (tTup (tcs l)) tNil))) b :=
  fun z σ H Q hp k => ⟨_, hp, tcs_go l σ H _ ⟨by rw [List.length_map]; exact hl, fun q hq => ⟨q, l.map V.ref, l.map Value.ref, b, rfl, upd_same, paired_cls l, e, k _ ((Evo.refl _ _).new hq)⟩⟩⟩
end
end Pu
namespace Pu
open PySem PySem.Spec PyProof.Rows L2
variable [Tbs]
section
variable {P : Program} {w : World} {K : PySem.W.Frag} {mg : Str → Option Value} {base : Heap}
theorem fn_okXD {x qual : Str} {st : Stmt} {f : Addr} {fd : FuncData} {N ps : List Str} {k : Nat} {cls : Value} {p : XS} (F : FunN K x qual st f fd) (S : FnScope N ps (defScope st))
    (hb : ∀ (cdv : Value) (A : Around) (outer : List Env) (s : Shared) (H : Hp) (E : XK), Room k (A.deeper (envOfC qual (defScope st) s.heap.objs.size f cdv)) → Takes (cxOf (L2.CX P w) P w K mg base N qual (defScope st) f cdv A outer s H E) (fun cls d _ H => E cls d H) →
      BX (fun _ H => E cls none H) (cxOf (L2.CX P w) P w K mg base N qual (defScope st) f cdv A outer s H E) (defBody st) p) :
    FnOk P w K mg base (L2.CX P w) (k + 1) f fd ps (SfX cls ps.length (wpXOf N.length p)) := by
  refine F.ok S (fun vs H Q E h => ?_) (fun cdv A outer s H vs Q E hr h => ?_)
  · obtain ⟨z, X, ds, hl, _⟩ := h
    exact hl
  · obtain ⟨z, X, ds, hl, hz, hx, hA, hw, c⟩ := h
    obtain ⟨t, b1, b2⟩ := hb cdv A outer s H E hr (takes_of rfl rfl rfl rfl)
    exact ⟨t, b1, b2 z X H H (L2.start N vs) _ _ (start_ok hz hx hA) (fun σ' H' ev => c H' ev) hw⟩
end
section
/-- a suite of two stores of truths to one slot -/
theorem hts2 {i j : Nat} {t1 t2 : Addr → TE} {b1 b2 : Bool} (h1 : ∀ a, TB (fun σ => σ[i]? = some (some (.ref a))) (t1 a) b1) (h2 : ∀ a, TB (fun σ => σ[i]? = some (some (.ref a)) ∧ σ[j]? = some (some (.bl b1))) (t2 a) b2) :
    ∀ (z : Zn) (a : Addr) (σ : Sl) (H : Hp) (D : Ends), i ≠ j → j < σ.length → σ[i]? = some (some (.ref a)) → (∀ H', Evo z H H' → D.nx (σ.set j (some (.bl b2))) H') → tSeq (tAsg (t1 a) (gName j)) (tSeq (tAsg (t2 a) (gName j)) tNext) D σ H :=
  fun z a σ H D hij hj hi k => h1 a z σ H _ hi fun H1 e1 => h2 a z (σ.set j (some (.bl b1))) H1 _ ⟨by rw [List.getElem?_set_ne (Ne.symm hij)]; exact hi, by rw [List.getElem?_set_self hj]⟩ fun H2 e2 => by
    have q := k H2 (e1.trans e2)
    show D.nx ((σ.set j (some (.bl b1))).set j (some (.bl b2))) H2
    rw [List.set_set]
    exact q
/-- the body of a try: a call as a statement, its arguments names -/
def tbC (cls : Value) (n : Nat) (wpx : List D → Prop) (ta : TA) : WX → TS := fun W => tDrop (tCallS (SfX cls n wpx) (WE W) ta)
theorem hb_call {C : Cx} {cls : Value} {k n : Nat} {f : Addr} {fd : FuncData} {ps : List Str} {wpx : List D → Prop} {ta : TA} {x : Str} {e : Expr} {es : List Expr} {pp pos pos2 : Pos} (F : FnOk C.prog C.w C.K C.mg C.base (L2.CX C.prog C.w) k f fd ps (SfX cls n wpx)) (hr : Room k C.A) (hg : Gl C x) (hm : C.mg x = some (.ref f)) (hk : PySem.W.keepIn C.K (.ref f) = true) (hb : Binds C.K fd ps [])
    (ha : ∀ (pn : List (Addr × Obj)) (xe : Value → Shared → Prop), PA (C.tr pn xe) (e :: es) ta) (hdb : (x == ("__debug__" : Str)) = false := by decide) (he : starEach (e :: es) C.env = (false, eval e C.env) :: starEach es C.env := by rfl) (hpl : (backTo pos (starEach es C.env)).any (·.1) = false := by rfl)
    (hs : swapsWith (.Call (.Name x pp) (e :: es) [] pos) none pos2.line C.env = pure false := by rfl) :
    ∀ (W : WX) (pn : List (Addr × Obj)) (xe : Value → Shared → Prop), Takes (C.tr pn xe) W → PassesOwn (model C.prog C.w) C.A C.env xe → PSs (C.tr pn xe) [.Expr (.Call (.Name x pp) (e :: es) [] pos) pos2] (tbC cls n wpx ta W) :=
  fun W pn xe tk _ => pss_one (ps_expr (pe_callS (X := C.tr pn xe) F hr hg hm hk hb (fun σ => passAt tk σ) (ha pn xe) hdb he hpl) hs)
theorem hbx_call {cls : Value} {n : Nat} {wpx : List D → Prop} {ta : TA} {ga : PAs} (h : RA true ta ga) : ∀ (W : WX) (z : Zn) (X : AP) (H0 H : Hp) (σ : Sl) (env : List SV) (D : Ends), Ok z X H0 H σ env → (∀ H', Evo z H H' → W cls none σ H') → xCall (fun ds => ds.length = n ∧ wpx ds) ga env → tbC cls n wpx ta W D σ H :=
  fun W z X H0 H σ env D o w hp => rxe_call (W0 := W) h z X H0 H σ env _ o w hp
end
end Pu

namespace Pu
open PySem PySem.Spec PyProof.Rows L2
variable [Tbs]
/-! ### draws that are counted: a reading's cost n says how many draws it makes at most; the zone says how many there were -/
def lim : Nat := 4611686018427387904
def Zn.at (z : Zn) (c : Nat) : Zn := { z with ct := c }
/-- the deck stands, with its count -/
def Zn.live (z : Zn) (H : Hp) : Prop := z.ok H z.dk
structure EvoC (z : Zn) (c : Nat) (H H' : Hp) : Prop where
  old : ∀ a o, H a = some o → ¬ z.Z a → H' a = some o
  al : ∀ a, H a ≠ none → H' a ≠ none
  tab : Tabs H → Tabs H'
  live : (z.at c).live H'
section
variable {z : Zn} {c c' : Nat} {X : AP} {H0 H H1 H2 H' : Hp} {σ σ' : Sl} {env env' : List SV} {M M' : AP} {m : Mode} {v : V} {d : D}
theorem Evo.toC (e : Evo z H H') (l : z.live H) : EvoC z z.ct H H' := ⟨e.old, e.al, e.tab, e.dk _ l⟩
theorem EvoC.trans (a : EvoC z c H H1) (b : EvoC (z.at c) c' H1 H2) : EvoC z c' H H2 := ⟨fun x o h n => b.old x o (a.old x o h n) n, fun x h => b.al x (a.al x h), fun h => b.tab (a.tab h), b.live⟩
theorem EvoC.evo (a : EvoC z c H H') : Evo (z.at c) H H' := ⟨a.old, a.al, fun b h => by obtain rfl : b = (z.at c).dk := h.1; exact a.live, a.tab⟩
theorem EvoC.ok (a : EvoC z c H H') : ∀ b, z.ok H b → (z.at c).ok H' b := fun b h => by obtain rfl : b = (z.at c).dk := h.1; exact a.live
theorem EvoC.fresh (a : EvoC z c H H1) {p : Addr} (h : H1 p = none) : H p = none := a.evo.fresh h
mutual
theorem Is.at (h1 : ∀ a o, H a = some o → ¬ M a → H' a = some o ∧ ¬ M' a) (h2 : ∀ a, z.ok H a → (z.at c).ok H' a) : ∀ {v : V} {d : D}, Is z M H v d → Is (z.at c) M' H' v d
  | _, _, .non => .non
  | _, _, .bl b => .bl b
  | _, _, .int i => .int i
  | _, _, .str s => .str s
  | _, _, .ty n => .ty n
  | _, _, .tup e n r => .tup (h1 _ _ e n).1 (h1 _ _ e n).2 (IsA.at h1 h2 r)
  | _, _, .lst e n r => .lst (h1 _ _ e n).1 (h1 _ _ e n).2 (IsA.at h1 h2 r)
  | _, _, .dic e n r => .dic (h1 _ _ e n).1 (h1 _ _ e n).2 (IsK.at h1 h2 r)
  | _, _, .deck e => .deck (z := z.at c) (h2 _ e)
  | _, _, .dpr e n => .dpr (h1 _ _ e n).1 (h1 _ _ e n).2
  | _, _, .dfz e n => .dfz (h1 _ _ e n).1 (h1 _ _ e n).2
  | _, _, .st e l n => .st (h1 _ _ e n).1 l (h1 _ _ e n).2
  | _, _, .bor e n r => .bor (h1 _ _ e n).1 (h1 _ _ e n).2 (IsA.at h1 h2 r)
  | _, _, .opq v => .opq v
theorem IsA.at (h1 : ∀ a o, H a = some o → ¬ M a → H' a = some o ∧ ¬ M' a) (h2 : ∀ a, z.ok H a → (z.at c).ok H' a) : ∀ {v : List V} {d : List D}, IsA z M H v d → IsA (z.at c) M' H' v d
  | _, _, .nil => .nil
  | _, _, .cons h t => .cons (Is.at h1 h2 h) (IsA.at h1 h2 t)
theorem IsK.at (h1 : ∀ a o, H a = some o → ¬ M a → H' a = some o ∧ ¬ M' a) (h2 : ∀ a, z.ok H a → (z.at c).ok H' a) : ∀ {v : List (Key × V)} {d : List (Key × D)}, IsK z M H v d → IsK (z.at c) M' H' v d
  | _, _, .nil => .nil
  | _, _, .cons h t => .cons (Is.at h1 h2 h) (IsK.at h1 h2 t)
end
theorem Con.at {a : Addr} (ha : ∀ o, H a = Option.some o → H' a = Option.some o) (h1 : ∀ a o, H a = Option.some o → ¬ M a → H' a = Option.some o ∧ ¬ M' a) (h2 : ∀ a, z.ok H a → (z.at c).ok H' a) (h : Con z M H a d) : Con (z.at c) M' H' a d := by
  cases d with
  | tup ds => obtain ⟨vs, e, r⟩ := h; exact ⟨vs, ha _ e, r.at h1 h2⟩
  | lst ds => obtain ⟨vs, e, r⟩ := h; exact ⟨vs, ha _ e, r.at h1 h2⟩
  | dic ds => obtain ⟨vs, e, r⟩ := h; exact ⟨vs, ha _ e, r.at h1 h2⟩
  | dpr ds => exact ha _ h
  | st ns => obtain ⟨n, e, l⟩ := h; exact ⟨n, ha _ e, l⟩
  | bor ds => obtain ⟨w, vs, e, r⟩ := h; exact ⟨w, vs, ha _ e, r.at h1 h2⟩
  | _ => exact h.elim
theorem Is.goC (hM : ∀ a, z.Z a → M a) (e : EvoC z c H H') (h : Is z M H v d) : Is (z.at c) M H' v d := h.at (fun a o q n => ⟨e.old a o q fun x => n (hM a x), n⟩) e.ok
theorem IsA.goC {vs : List V} {ds : List D} (hM : ∀ a, z.Z a → M a) (e : EvoC z c H H') (h : IsA z M H vs ds) : IsA (z.at c) M H' vs ds := h.at (fun a o q n => ⟨e.old a o q fun x => n (hM a x), n⟩) e.ok
theorem Ok.goC (k : Ok z X H0 H σ env) (e : EvoC z c H H') : Ok (z.at c) X H0 H' σ env :=
  ⟨k.len, ⟨fun a o h n => e.old a o (k.evo.old a o h n) n, fun a h => e.al a (k.evo.al a h), fun b h => by obtain rfl : b = (z.at c).dk := h.1; exact e.live, fun h => e.tab (k.evo.tab h)⟩, fun a h => e.al a (k.zal a h), fun a h => ⟨e.al a (k.xal a h).1, (k.xal a h).2⟩,
   fun i d h => let ⟨v, h1, h2⟩ := k.val i d h; ⟨v, h1, h2.goC (fun _ h => .inl h) e⟩,
   fun i d h => let ⟨a, h1, h2, h3, h4⟩ := k.own i d h; ⟨a, h1, h2.at (fun o q => e.old a o q h3) (fun b o q n => ⟨e.old b o q fun x => n (.inl x), n⟩) e.ok, h3, h4⟩, k.inj, e.tab k.tab⟩
theorem Rel.goC (k : ∀ a, z.Z a → H a ≠ none) (e : EvoC z c H1 H') (h : Rel m z X H H1 σ env v d) : Rel m (z.at c) X H H' σ env v d := by
  cases m with
  | f =>
    obtain ⟨a, rfl, hn, hc⟩ := h
    exact ⟨a, rfl, hn, hc.at (fun o q => e.old a o q fun x => k a x hn) (fun b o q n => ⟨e.old b o q fun x => n (.inl x), n⟩) e.ok⟩
  | e => exact Is.goC (fun _ q => .inl q) e h
  | c =>
    rcases h with h | ⟨a, rfl, hc, n, md⟩
    · exact .inl (Is.goC (fun _ q => .inl q) e h)
    · exact .inr ⟨a, rfl, hc.at (fun o q => e.old a o q fun x => n (.inl x)) (fun b o q n => ⟨e.old b o q fun x => n (.inl x), n⟩) e.ok, n, md⟩
  | b => exact Is.goC (fun _ q => .inl q) e h
end
/-! ### expressions -/
def REc (n : Nat) (m : Mode) (t : TE) (p : PX) : Prop := ∀ (z : Zn) (X : AP) (H0 H : Hp) (σ : Sl) (env : List SV) (Q : VK) (k : D → Prop), Ok z X H0 H σ env → z.live H → z.ct + n ≤ lim →
  (∀ c d v H', c ≤ z.ct + n → EvoC z c H H' → Rel m (z.at c) X H H' σ env v d → k d → Q v H') → p env k → t σ H Q
def RTc (n : Nat) (t : TT) (p : PTs') : Prop := ∀ (z : Zn) (X : AP) (H0 H : Hp) (σ : Sl) (env : List SV) (Q : Bool → Hp → Prop) (k : Bool → Prop), Ok z X H0 H σ env → z.live H → z.ct + n ≤ lim →
  (∀ c b H', c ≤ z.ct + n → EvoC z c H H' → k b → Q b H') → p env k → t σ H Q
def RAc (n : Nat) (l : Bool) (t : TA) (p : PAs) : Prop := ∀ (z : Zn) (X : AP) (H0 H : Hp) (σ : Sl) (env : List SV) (Q : List V → Hp → Prop) (k : List D → Prop), Ok z X H0 H σ env → z.live H → z.ct + n ≤ lim →
  (∀ c ds vs H', c ≤ z.ct + n → EvoC z c H H' → IsA (z.at c) (if l = true then Ms z X σ env else Zx z X) H' vs ds → k ds → Q vs H') → p env k → t σ H Q
structure Ec (n : Nat) (m : Mode) (C : Cx) (e : Expr) (p : PX) : Prop where
  ex : ∃ t, PE C e t ∧ REc n m t p
structure Tc (n : Nat) (C : Cx) (e : Expr) (p : PTs') : Prop where
  ex : ∃ t, PT C e t ∧ RTc n t p
structure Wc (n : Nat) (C : Cx) (e : Expr) (p : PTs') : Prop where
  ex : ∃ t, PW C e t ∧ RTc n t p
structure Ac (n : Nat) (l : Bool) (C : Cx) (es : List Expr) (p : PAs) : Prop where
  ex : ∃ t, PA C es t ∧ RAc n l t p
section
variable {C : Cx} {e a b : Expr} {es : List Expr} {p q : PX} {g : PAs} {m m' : Mode} {pos pp : Pos} {n na nb : Nat} {x : Str}
theorem RE.toC {t : TE} (h : RE m t p) : REc 0 m t p := fun z X H0 H σ env Q k o l _ c hp => h z X H0 H σ env Q k o (fun d v H' ev r kd => c z.ct d v H' (Nat.le_refl _) (ev.toC l) r kd) hp
theorem RT.toC {t : TT} {p : PTs'} (h : RT t p) : RTc 0 t p := fun z X H0 H σ env Q k o l _ c hp => h z X H0 H σ env Q k o (fun b H' ev kd => c z.ct b H' (Nat.le_refl _) (ev.toC l) kd) hp
theorem RA.toC {l : Bool} {t : TA} {p : PAs} (h : RA l t p) : RAc 0 l t p := fun z X H0 H σ env Q k o lv _ c hp => h z X H0 H σ env Q k o (fun ds vs H' ev r kd => c z.ct ds vs H' (Nat.le_refl _) (ev.toC lv) r kd) hp
theorem E.cd (h : E m C e p) : Ec 0 m C e p := let ⟨t, h1, h2⟩ := h; ⟨t, h1, h2.toC⟩
theorem T.cd {p : PTs'} (h : T C e p) : Tc 0 C e p := let ⟨t, h1, h2⟩ := h; ⟨t, h1, h2.toC⟩
theorem Rel.toBC {z : Zn} {c : Nat} {X : AP} {H0 H H' : Hp} {σ : Sl} {env : List SV} {v : V} {d : D} (k : Ok z X H0 H σ env) (h : Rel m (z.at c) X H H' σ env v d) : Rel .b (z.at c) X H H' σ env v d := by
  cases m with
  | f =>
    obtain ⟨a, rfl, hn, hc⟩ := h
    exact Rel.eb ((hc.gen (fun _ q => q) (fun b o q n => ⟨q, fun x => n x.orL⟩) fun _ h => h).is (k.notMs hn))
  | e => exact h.eb
  | c => exact h.cb
  | b => exact h
theorem Ec.toB (h : Ec n m C e p) : Ec n .b C e p := by
  obtain ⟨t, h1, h2⟩ := h
  exact ⟨t, h1, fun z X H0 H σ env Q k o l w c hp => h2 z X H0 H σ env Q k o l w (fun c' d v H' hc ev r kd => c c' d v H' hc ev (r.toBC o) kd) hp⟩
theorem Rel.feC {z : Zn} {c : Nat} {X : AP} {H0 H H' : Hp} {σ : Sl} {env : List SV} {v : V} {d : D} (k : Ok z X H0 H σ env) (h : Rel .f (z.at c) X H H' σ env v d) : Rel .e (z.at c) X H H' σ env v d := by
  obtain ⟨a, rfl, hn, hc⟩ := h
  exact (hc.gen (fun _ q => q) (fun b o q n => ⟨q, fun x => n x.orL⟩) fun _ h => h).is (k.notMs hn)
theorem Ec.fe (h : Ec n .f C e p) : Ec n .e C e p := by
  obtain ⟨t, h1, h2⟩ := h
  exact ⟨t, h1, fun z X H0 H σ env Q k o l w c hp => h2 z X H0 H σ env Q k o l w (fun c' d v H' hc ev r kd => c c' d v H' hc ev (r.feC o) kd) hp⟩
theorem Ec.ec (h : Ec n .e C e p) : Ec n .c C e p := by
  obtain ⟨t, h1, h2⟩ := h
  exact ⟨t, h1, fun z X H0 H σ env Q k o l w c hp => h2 z X H0 H σ env Q k o l w (fun c' d v H' hc ev r kd => c c' d v H' hc ev r.ec kd) hp⟩
theorem Rel.earlyC {z z' : Zn} {X : AP} {H H1 H' : Hp} {σ : Sl} {env : List SV} {v : V} {d : D} (e : ∀ p, H1 p = none → H p = none) (h : Rel m z X H1 H' σ env v d) : Rel m z X H H' σ env v d := by
  cases m with
  | f => obtain ⟨a, rfl, hn, hc⟩ := h; exact ⟨a, rfl, e _ hn, hc⟩
  | e => exact h
  | c => exact h
  | b => exact h
theorem REc.op {mi mo : Mode} {r : R2} {g : D → D → (D → Prop) → Prop} {ta tb : TE} (hm : mi ≠ .f) (ho : OpD mi mo r g) (ha : REc na mi ta p) (hb : REc nb mi tb q) : REc (na + nb) mo (tOp r ta tb) (eOp g p q) := fun z X H0 H σ env Q k o l w c hp => by
  refine ha z X H0 H σ env _ _ o l (by omega) (fun c1 x v H1 hc1 e1 r1 hp1 => ?_) hp
  have o1 := o.goC e1
  have w1 : (z.at c1).ct = c1 := rfl
  refine hb (z.at c1) X H0 H1 σ env _ _ o1 e1.live (by omega) (fun c2 y u H2 hc2 e2 r2 hp2 => ?_) hp1
  have o2 := o1.goC e2
  refine ho (z.at c2) X H0 H2 σ env v u x y Q k o2 ((Rel.goC (z := z.at c1) o.zal e2 r1).later hm) (r2.later hm) (fun d w' H3 e3 r3 kd => ?_) hp2
  have e13 := (e1.trans e2).trans (e3.toC (z := z.at c2) e2.live)
  exact c c2 d w' H3 (by omega) e13 (r3.earlyC (z' := z) fun p hn => e1.fresh (e2.fresh hn)) kd
theorem ec_op {mi mo : Mode} {op : Operator} {r : R2} {g : D → D → (D → Prop) → Prop} (hr : OpR C (binaryOp op) r) (ho : OpD mi mo r g) (ha : Ec na mi C a p) (hb : Ec nb mi C b q) (hm : mi ≠ .f := by decide) : Ec (na + nb) mo C (.BinOp a op b pos) (eOp g p q) := by
  obtain ⟨ta, a1, a2⟩ := ha
  obtain ⟨tb, b1, b2⟩ := hb
  exact ⟨_, pe_op hr a1 b1, REc.op hm ho a2 b2⟩
theorem ec_cmp {mi mo : Mode} {op : CmpOp} {r : R2} {g : D → D → (D → Prop) → Prop} (hr : OpR C (compareOp op) r) (ho : OpD mi mo r g) (ha : Ec na mi C a p) (hb : Ec nb mi C b q) (hk : behindInMarks op b = false) (hm : mi ≠ .f := by decide) : Ec (na + nb) mo C (.Compare a [op] [b] pos) (eOp g p q) := by
  obtain ⟨ta, a1, a2⟩ := ha
  obtain ⟨tb, b1, b2⟩ := hb
  exact ⟨_, pe_cmpR hr a1 b1 hk, REc.op hm ho a2 b2⟩
end
end Pu

namespace Pu
open PySem PySem.Spec PyProof.Rows L2
variable [Tbs]
section
variable {C : Cx} {e a b : Expr} {es : List Expr} {p q pe : PX} {g : PAs} {m mo : Mode} {pos pp : Pos} {n na nb cost k : Nat} {x : Str} {l : Bool}
theorem Ms.eqZ {z : Zn} {c : Nat} {X : AP} {σ : Sl} {env : List SV} : Ms (z.at c) X σ env = Ms z X σ env := rfl
/-! ### arguments, displays -/
theorem ac_of (h : A l C es g) : Ac 0 l C es g := let ⟨t, h1, h2⟩ := h; ⟨t, h1, h2.toC⟩
theorem ac_nil : Ac 0 l C [] aNil := ac_of a_nil
theorem ac_cons (h : Ec na (lm l) C e p) (hr : Ac nb l C es g) (hs : starEach (e :: es) C.env = (false, eval e C.env) :: starEach es C.env := by rfl) : Ac (na + nb) l C (e :: es) (aCons p g) := by
  obtain ⟨t, h1, h2⟩ := h
  obtain ⟨u, g1, g2⟩ := hr
  refine ⟨_, pa_cons h1 g1 hs, fun z X H0 H σ env Q k o lv w c hp => h2 z X H0 H σ env _ _ o lv (by omega) (fun c1 d v H1 hc1 e1 r1 hx => ?_) hp⟩
  have w1 : (z.at c1).ct = c1 := rfl
  refine g2 (z.at c1) X H0 H1 σ env _ _ (o.goC e1) e1.live (by omega) (fun c2 ds vs H2 hc2 e2 r2 hy => c c2 (d :: ds) (v :: vs) H2 (by omega) (e1.trans e2) (.cons ?_ r2) hy) hx
  cases l with
  | true => exact Is.goC (z := z.at c1) (c := c2) (fun _ q => .inl q) e2 r1
  | false => exact Is.goC (z := z.at c1) (c := c2) (fun _ q => .inl q) e2 r1
theorem ec_tup {x1} (h : Ac n true C es g) : Ec n .e C (.Tuple es x1 pos) (eTup g) := by
  obtain ⟨t, h1, h2⟩ := h
  refine ⟨_, pe_tup h1, fun z X H0 H σ env Q k o lv w c hp => h2 z X H0 H σ env _ _ o lv w (fun c1 ds vs H1 hc1 e1 r1 hx => ⟨by rw [r1.length]; exact sz hx.1, fun q hq => ?_⟩) hp⟩
  have e2 := e1.trans (c' := c1) (((Evo.refl (z.at c1) H1).new (o := .tup vs) hq).toC e1.live)
  exact c c1 _ _ _ hc1 e2 (Rel.feC o (Rel.newT (e1.fresh hq) hq r1)) hx.2
theorem ec_lst (h : Ac n true C es g) : Ec n .f C (.List es pos) (eLst g) := by
  obtain ⟨t, h1, h2⟩ := h
  refine ⟨_, pe_lst h1, fun z X H0 H σ env Q k o lv w c hp => h2 z X H0 H σ env _ _ o lv w (fun c1 ds vs H1 hc1 e1 r1 hx => ⟨by rw [r1.length]; exact sz hx.1, fun q hq => ?_⟩) hp⟩
  have e2 := e1.trans (c' := c1) (((Evo.refl (z.at c1) H1).new (o := .lst vs) hq).toC e1.live)
  exact c c1 _ _ _ hc1 e2 (Rel.newL (e1.fresh hq) hq r1) hx.2
theorem ec_ix (ha : Ec na .c C a p) (hb : Ec nb .c C b q) (hs : PlainIx b := by exact fun _ _ => rfl) : Ec (na + nb) .e C (.Subscript a b pos) (eOp dIx p q) := by
  obtain ⟨ta, a1, a2⟩ := ha
  obtain ⟨tb, b1, b2⟩ := hb
  exact ⟨_, pe_ix (r := rIx C.K) ix_seq a1 b1 hs, REc.op (by decide) opd_ix a2 b2⟩
/-! ### calls -/
/-- a plain def or a drawing one: its promise, with its cost -/
def Sfc (fr : Bool) (n cost : Nat) (wp : List D → (D → Prop) → Prop) : Sp := fun vs H Q _ => ∃ (z : Zn) (X : AP) (ds : List D) (k : D → Prop), vs.length = n ∧ ((∀ a, z.Z a → H a ≠ none) ∧ Tabs H) ∧ (∀ a, X a → H a ≠ none ∧ ¬ z.Z a) ∧ IsA z (Zx z X) H vs ds ∧ (z.live H ∧ z.ct + cost ≤ lim) ∧ wp ds k ∧
  ∀ c d v H', c ≤ z.ct + cost → EvoC z c H H' → Is (z.at c) (Zx z X) H' v d → (fr = true → ∃ a, v = .ref a ∧ H a = none ∧ Con (z.at c) (Zx z (X.or a)) H' a d) → k d → Q v H'
theorem rec_call {fr : Bool} {wp : List D → (D → Prop) → Prop} {t : TA} {ga : PAs} (h : RAc na true t ga) (E' : XK) (hm : mo = .e ∨ (mo = .f ∧ fr = true)) : REc (na + cost) mo (tCall (Sfc fr n cost wp) [] E' t) (eCall (fun ds k => ds.length = n ∧ wp ds k) ga) := fun z X H0 H σ env Q k o lv w c hp => by
  refine h z X H0 H σ env _ _ o lv (by omega) (fun c1 ds vs H1 hc1 e1 r1 hx => ?_) hp
  have o1 := o.goC e1
  have w1 : (z.at c1).ct = c1 := rfl
  rw [if_pos rfl] at r1
  refine ⟨z.at c1, Ox X σ env, ds, k, by rw [List.append_nil, r1.length]; exact hx.1, ⟨o1.zal, o1.tab⟩, fun a => o1.ox, by rw [List.append_nil]; exact r1.weak fun a q => (zx_ox (z := z)).mp q, ⟨e1.live, by omega⟩, hx.2, fun c2 d v H2 hc2 e2 r2 fq kd => ?_⟩
  refine c c2 d v H2 (by omega) (e1.trans e2) ?_ kd
  rcases hm with rfl | ⟨rfl, hf⟩
  · exact Is.weak (fun a q => (zx_ox (z := z)).mpr q) r2
  · obtain ⟨a, ev, ha, hc⟩ := fq hf
    refine ⟨a, ev, e1.fresh ha, hc.gen (fun _ q => q) (fun b u q n => ⟨q, fun y => n ?_⟩) fun _ h => h⟩
    rcases y with y | (y | y) | y
    · exact .inl y
    · exact .inr (.inl (.inl y))
    · exact .inr (.inr y)
    · exact .inr (.inl (.inr y))
theorem ec_calld {fr : Bool} {f : Addr} {fd : FuncData} {ps : List Str} {wp : List D → (D → Prop) → Prop} {ga : PAs} (F : FnOk C.prog C.w C.K C.mg C.base CX0 k f fd ps (Sfc fr n cost wp)) (hr : Room k C.A) (hg : Gl C x) (hm : C.mg x = some (.ref f)) (hk : PySem.W.keepIn C.K (.ref f) = true) (hb : Binds C.K fd ps [])
    (ha : Ac na true C (e :: es) ga) (hmo : mo = .e ∨ (mo = .f ∧ fr = true)) (hdb : (x == ("__debug__" : Str)) = false := by decide) (he : starEach (e :: es) C.env = (false, eval e C.env) :: starEach es C.env := by rfl) (hpl : (backTo pos (starEach es C.env)).any (·.1) = false := by rfl) :
    Ec (na + cost) mo C (.Call (.Name x pp) (e :: es) [] pos) (eCall (fun ds k => ds.length = n ∧ wp ds k) ga) := by
  obtain ⟨t, h1, h2⟩ := ha
  exact ⟨_, pe_call F hr hg hm hk hb .nil pass0 h1 hdb he hpl, rec_call h2 E0 hmo⟩
/-- a plain def, its arguments may draw -/
theorem rec_callP {fr : Bool} {wp : List D → (D → Prop) → Prop} {t : TA} {ga : PAs} (h : RAc na true t ga) (E' : XK) (hm : mo = .e ∨ (mo = .f ∧ fr = true)) : REc na mo (tCall (Sf fr n wp) [] E' t) (eCall (fun ds k => ds.length = n ∧ wp ds k) ga) := fun z X H0 H σ env Q k o lv w c hp => by
  refine h z X H0 H σ env _ _ o lv w (fun c1 ds vs H1 hc1 e1 r1 hx => ?_) hp
  have o1 := o.goC e1
  rw [if_pos rfl] at r1
  refine ⟨z.at c1, Ox X σ env, ds, k, by rw [List.append_nil, r1.length]; exact hx.1, ⟨o1.zal, o1.tab⟩, fun a => o1.ox, by rw [List.append_nil]; exact r1.weak fun a q => (zx_ox (z := z)).mp q, hx.2, fun d v H2 e2 r2 fq kd => ?_⟩
  refine c c1 d v H2 hc1 (e1.trans (c' := c1) (e2.toC e1.live)) ?_ kd
  rcases hm with rfl | ⟨rfl, hf⟩
  · exact Is.weak (fun a q => (zx_ox (z := z)).mpr q) r2
  · obtain ⟨a, ev, ha, hc⟩ := fq hf
    refine ⟨a, ev, e1.fresh ha, hc.gen (fun _ q => q) (fun b u q n => ⟨q, fun y => n ?_⟩) fun _ h => h⟩
    rcases y with y | (y | y) | y
    · exact .inl y
    · exact .inr (.inl (.inl y))
    · exact .inr (.inr y)
    · exact .inr (.inl (.inr y))
theorem ec_callP {fr : Bool} {f : Addr} {fd : FuncData} {ps : List Str} {wp : List D → (D → Prop) → Prop} {ga : PAs} (F : FnOk C.prog C.w C.K C.mg C.base CX0 k f fd ps (Sf fr n wp)) (hr : Room k C.A) (hg : Gl C x) (hm : C.mg x = some (.ref f)) (hk : PySem.W.keepIn C.K (.ref f) = true) (hb : Binds C.K fd ps [])
    (ha : Ac na true C (e :: es) ga) (hmo : mo = .e ∨ (mo = .f ∧ fr = true)) (hdb : (x == ("__debug__" : Str)) = false := by decide) (he : starEach (e :: es) C.env = (false, eval e C.env) :: starEach es C.env := by rfl) (hpl : (backTo pos (starEach es C.env)).any (·.1) = false := by rfl) :
    Ec na mo C (.Call (.Name x pp) (e :: es) [] pos) (eCall (fun ds k => ds.length = n ∧ wp ds k) ga) := by
  obtain ⟨t, h1, h2⟩ := ha
  exact ⟨_, pe_call F hr hg hm hk hb .nil pass0 h1 hdb he hpl, rec_callP h2 E0 hmo⟩
/-! ### tests -/
theorem RTc.of {t : TE} (h : REc n .b t p) : RTc n (tTest t) (tOf p) := fun z X H0 H σ env Q k o lv w c hp => by
  refine h z X H0 H σ env _ _ o lv w (fun c1 d v H' hc e r hd => ?_) hp
  cases d with
  | bl b =>
    cases (show Is (z.at c1) _ H' v (.bl b) from r)
    exact ⟨b, rfl, c c1 b H' hc e hd⟩
  | _ => exact (show False from hd).elim
theorem tc_cmp {mi : Mode} {op : CmpOp} {r : R2} {g : D → D → (D → Prop) → Prop} (hr : OpR C (compareOp op) r) (ho : OpD mi .b r g) (ha : Ec na mi C a p) (hb : Ec nb mi C b q) (hk : behindInMarks op b = false) (hm : mi ≠ .f := by decide) : Tc (na + nb) C (.Compare a [op] [b] pos) (tOf (eOp g p q)) := by
  obtain ⟨ta, a1, a2⟩ := ha
  obtain ⟨tb, b1, b2⟩ := hb
  exact ⟨_, pt_cmpR hr a1 b1 hk, RTc.of (REc.op hm ho a2 b2)⟩
variable {rest : List Expr} {tp tq : PTs'}
theorem wc_and1 (h : Tc n C a tp) : Wc n C (.BoolOp .And [a] pos) tp := by
  obtain ⟨t, h1, h2⟩ := h
  exact ⟨t, pw_and1 h1, h2⟩
theorem wc_and (h : Tc na C a tp) (g : Wc nb C (.BoolOp .And (b :: rest) pos) tq) : Wc (na + nb) C (.BoolOp .And (a :: b :: rest) pos) (tAndP tp tq) := by
  obtain ⟨t, h1, h2⟩ := h
  obtain ⟨u, g1, g2⟩ := g
  refine ⟨_, pw_and h1 g1, fun z X H0 H σ env Q k o lv w c hp => h2 z X H0 H σ env _ _ o lv (by omega) (fun c1 x H1 hc1 e1 hx => ?_) hp⟩
  have w1 : (z.at c1).ct = c1 := rfl
  cases x with
  | true => exact g2 (z.at c1) X H0 H1 σ env Q k (o.goC e1) e1.live (by omega) (fun c2 y H2 hc2 e2 hy => c c2 y H2 (by omega) (e1.trans e2) hy) hx
  | false => exact c c1 false H1 (by omega) e1 hx
theorem wc_t (h : Wc n C e tp) : Tc n C e tp := let ⟨t, h1, h2⟩ := h; ⟨t, h1.pt, h2⟩
theorem tc_val (h : Ec n .b C e p) (hh : ∀ t, PE C e t → PT C e (tTest t)) : Tc n C e (tOf p) := by
  obtain ⟨t, h1, h2⟩ := h
  exact ⟨_, hh _ h1, RTc.of h2⟩
end
/-! ### statements -/
structure FrC (z : Zn) (c : Nat) (X : AP) (M : AP) (H : Hp) (M' : AP) (H' : Hp) : Prop where
  old : ∀ a o, H a = some o → ¬ M a → H' a = some o ∧ ¬ M' a
  al : ∀ a, H a ≠ none → H' a ≠ none
  live : (z.at c).live H'
section
variable {z : Zn} {c c' : Nat} {X : AP} {H0 H H' H1 H2 : Hp} {σ σ' : Sl} {env env' : List SV} {M M1 M2 M' : AP} {v : V} {d : D}
theorem FrC.ok (f : FrC z c X M H M' H') : ∀ a, z.ok H a → (z.at c).ok H' a := fun b h => by obtain rfl : b = (z.at c).dk := h.1; exact f.live
theorem FrC.is (f : FrC z c X M H M' H') (h : Is z M H v d) : Is (z.at c) M' H' v d := h.at f.old f.ok
theorem FrC.isA {vs : List V} {ds : List D} (f : FrC z c X M H M' H') (h : IsA z M H vs ds) : IsA (z.at c) M' H' vs ds := h.at f.old f.ok
theorem FrC.trans (a : FrC z c X M H M1 H1) (b : FrC (z.at c) c' X M1 H1 M2 H2) : FrC z c' X M H M2 H2 := ⟨fun x o h n => b.old x o (a.old x o h n).1 (a.old x o h n).2, fun x h => b.al x (a.al x h), b.live⟩
theorem Fr.toC (f : Fr z X M H M' H') (l : z.live H) : FrC z z.ct X M H M' H' := ⟨f.old, f.al, f.dk _ l⟩
theorem Ok.frC (k : Ok z X H0 H σ env) (e : EvoC z c H H') : FrC z c X (Ms z X σ env) H (Ms z X σ env) H' := ⟨fun a o h n => ⟨e.old a o h fun x => n (.inl x), n⟩, e.al, e.live⟩
end
section
variable {z : Zn} {c : Nat} {X : AP} {H0 H H' H1 H2 : Hp} {σ σ' : Sl} {env env' : List SV} {M : AP}
/-- a store of a new thing that the slot owns -/
theorem Ok.takeC (k : Ok z X H0 H σ env) {i : Nat} {a : Addr} {d : D} (hl : i < env.length) (e : EvoC z c H H') (hn : H a = none) (hc : Con (z.at c) (Ms z (X.or a) σ env) H' a d) :
    Ok (z.at c) X H0 H' (σ.set i (some (V.ref a))) (env.set i (.own d)) ∧ FrC z c X (Ms z X σ env) H (Ms z X (σ.set i (some (V.ref a))) (env.set i (.own d))) H' := by
  have hz : ¬ z.Z a := fun q => k.zal a q hn
  have hx : ¬ X a := fun q => (k.xal a q).1 hn
  have ms : ∀ b, Ms z X (σ.set i (some (V.ref a))) (env.set i (.own d)) b → Ms z (X.or a) σ env b := by
    rintro b (h | h | ⟨j, f, h1, h2⟩)
    · exact .inl h
    · exact .inr (.inl (.inl h))
    · by_cases hj : i = j
      · subst hj
        rw [List.getElem?_set_self (by rw [k.len]; exact hl)] at h2
        cases h2
        exact .inr (.inl (.inr rfl))
      · rw [List.getElem?_set_ne hj] at h1 h2
        exact .inr (.inr ⟨j, f, h1, h2⟩)
  have ms2 : ∀ b, Ms z (X.or a) σ env b → Ms z X σ env b ∨ b = a := by
    rintro b (h | (h | h) | h)
    · exact .inl (.inl h)
    · exact .inl (.inr (.inl h))
    · exact .inr h
    · exact .inl (.inr (.inr h))
  have old : ∀ b o, H b = some o → ¬ Ms z X σ env b → H' b = some o ∧ ¬ Ms z X (σ.set i (some (V.ref a))) (env.set i (.own d)) b := fun b o q n =>
    ⟨e.old b o q fun x => n (.inl x), fun x => (ms2 b (ms b x)).elim n fun y => by rw [y, hn] at q; cases q⟩
  refine ⟨⟨by simp [k.len], (k.goC e).evo, fun b h => e.al b (k.zal b h), fun b h => ⟨e.al b (k.xal b h).1, (k.xal b h).2⟩, fun j f h => ?_, fun j f h => ?_, fun j l b f g h1 h2 h3 h4 => ?_, e.tab k.tab⟩, ⟨old, e.al, e.live⟩⟩
  · by_cases hj : i = j
    · subst hj
      rw [List.getElem?_set_self hl] at h
      cases h
    · rw [List.getElem?_set_ne hj] at h ⊢
      obtain ⟨u, h1, h2⟩ := k.val j f h
      exact ⟨u, h1, h2.at old e.ok⟩
  · by_cases hj : i = j
    · subst hj
      rw [List.getElem?_set_self hl] at h
      cases h
      exact ⟨a, by rw [List.getElem?_set_self (by rw [k.len]; exact hl)], hc.gen (fun _ q => q) (fun b o q n => ⟨q, fun x => n (ms b x)⟩) fun _ h => h, hz, hx, k.evo.fresh hn⟩
    · rw [List.getElem?_set_ne hj] at h ⊢
      obtain ⟨b, h1, h2, h3, h4⟩ := k.own j f h
      exact ⟨b, h1, h2.at (fun o q => e.old b o q h3) old e.ok, h3, h4⟩
  · have own' : ∀ (j : Nat) (f : D), (env.set i (.own d))[j]? = some (.own f) → j ≠ i → env[j]? = some (.own f) := fun j f h hj => by rw [List.getElem?_set_ne (Ne.symm hj)] at h; exact h
    have no : ∀ (j : Nat) (f : D), env[j]? = some (.own f) → σ[j]? = some (some (V.ref a)) → False := fun j f h1 h2 => by
      obtain ⟨b, h3, h4, _⟩ := k.own j f h1
      rw [h2] at h3
      cases h3
      obtain ⟨o, h5⟩ := h4.some
      rw [hn] at h5
      cases h5
    by_cases hj : j = i
    · by_cases hl2 : l = i
      · rw [hj, hl2]
      · rw [hj, List.getElem?_set_self (by rw [k.len]; exact hl)] at h3
        cases h3
        rw [List.getElem?_set_ne (Ne.symm hl2)] at h4
        exact (no l g (own' l g h2 hl2) h4).elim
    · by_cases hl2 : l = i
      · rw [hl2, List.getElem?_set_self (by rw [k.len]; exact hl)] at h4
        cases h4
        rw [List.getElem?_set_ne (Ne.symm hj)] at h3
        exact (no j f (own' j f h1 hj) h3).elim
      · rw [List.getElem?_set_ne (Ne.symm hj)] at h3
        rw [List.getElem?_set_ne (Ne.symm hl2)] at h4
        exact k.inj j l b f g (own' j f h1 hj) (own' l g h2 hl2) h3 h4
end
structure SimC (A B : Nat) (fr : Bool) (z : Zn) (X : AP) (H0 : Hp) (M : AP) (H : Hp) (G : Ends) (k : PK') : Prop where
  nx : ∀ c env' σ' H', c ≤ A → Ok (z.at c) X H0 H' σ' env' → FrC z c X M H (Ms z X σ' env') H' → k.nx env' → G.nx σ' H'
  rt : ∀ c d v H', c ≤ B → Evo (z.at c) H0 H' → (z.at c).live H' → Is (z.at c) (Zx z X) H' v d → (fr = true → ∃ a, v = .ref a ∧ H0 a = none ∧ Con (z.at c) (Zx z (X.or a)) H' a d) → k.rt d → G.rt v H'
  bk : ∀ c env' σ' H', c ≤ B → Ok (z.at c) X H0 H' σ' env' → FrC z c X M H (Ms z X σ' env') H' → k.bk env' → G.bk σ' H'
  ct : ∀ c env' σ' H', c ≤ B → Ok (z.at c) X H0 H' σ' env' → FrC z c X M H (Ms z X σ' env') H' → k.ct env' → G.ct σ' H'
theorem SimC.go {A B : Nat} {fr : Bool} {z : Zn} {c : Nat} {X : AP} {H0 : Hp} {M M1 : AP} {H H1 : Hp} {G : Ends} {k : PK'} (s : SimC A B fr z X H0 M H G k) (f : FrC z c X M H M1 H1) : SimC A B fr (z.at c) X H0 M1 H1 G k :=
  ⟨fun c' e σ H' h o g hk => s.nx c' e σ H' h o (f.trans g) hk, s.rt, fun c' e σ H' h o g hk => s.bk c' e σ H' h o (f.trans g) hk, fun c' e σ H' h o g hk => s.ct c' e σ H' h o (f.trans g) hk⟩
theorem SimC.le {A A' B : Nat} {fr : Bool} {z : Zn} {X : AP} {H0 : Hp} {M : AP} {H : Hp} {G : Ends} {k : PK'} (s : SimC A B fr z X H0 M H G k) (h : A' ≤ A) : SimC A' B fr z X H0 M H G k :=
  ⟨fun c e σ H' hc o g hk => s.nx c e σ H' (Nat.le_trans hc h) o g hk, s.rt, s.bk, s.ct⟩
def RSc (n : Nat) (fr : Bool) (t : TS) (p : PSt) : Prop := ∀ (z : Zn) (X : AP) (H0 H : Hp) (σ : Sl) (env : List SV) (G : Ends) (k : PK') (B : Nat), Ok z X H0 H σ env → z.live H → z.ct + n ≤ B → B ≤ lim → SimC (z.ct + n) B fr z X H0 (Ms z X σ env) H G k → p env k → t G σ H
structure Sc (n : Nat) (fr : Bool) (C : Cx) (st : Stmt) (p : PSt) : Prop where
  ex : ∃ t, PS C st t ∧ RSc n fr t p
structure Bc (n : Nat) (fr : Bool) (C : Cx) (st : List Stmt) (p : PSt) : Prop where
  ex : ∃ t, PSs C st t ∧ RSc n fr t p
section
variable {C : Cx} {fr : Bool} {st : Stmt} {rest : List Stmt} {p q : PSt} {e : Expr} {pe : PX} {m : Mode} {pos pp : Pos} {n na nb : Nat} {x : Str}
/-- a plain statement that only goes on -/
theorem S.cd (h : S fr C st p) (hn : ∀ env k, p env k → p env { nx := k.nx, rt := fun _ => False, bk := fun _ => False, ct := fun _ => False, re := fun _ _ => False } := by exact fun _ _ h => h) : Sc 0 fr C st p := by
  obtain ⟨t, h1, h2⟩ := h
  refine ⟨t, h1, fun z X H0 H σ env G k B o lv w wl s hp => h2 z X H0 H σ env G { nx := k.nx, rt := fun _ => False, bk := fun _ => False, ct := fun _ => False, re := fun _ _ => False } o ⟨fun env' σ' H' o' f' hk => s.nx z.ct env' σ' H' (Nat.le_refl _) o' (f'.toC lv) hk, fun _ _ _ _ _ _ h => h.elim, fun _ _ _ _ _ h => h.elim, fun _ _ _ _ _ h => h.elim, fun _ _ _ _ _ _ _ h => h.elim⟩ (hn _ _ hp)⟩
theorem bc_nil : Bc 0 fr C [] sNext := ⟨_, pss_nil, fun z X H0 H σ env G k B o lv w wl s h => s.nx z.ct env σ H (Nat.le_refl _) o (Fr.refl.toC lv) h⟩
theorem bc_cons (h : Sc na fr C st p) (g : Bc nb fr C rest q) : Bc (na + nb) fr C (st :: rest) (sSeq p q) := by
  obtain ⟨t, h1, h2⟩ := h
  obtain ⟨u, g1, g2⟩ := g
  refine ⟨_, pss_cons h1 g1, fun z X H0 H σ env G k B o lv w wl s hp => h2 z X H0 H σ env _ { k with nx := fun env' => q env' k } B o lv (by omega) wl ⟨fun c env' σ' H' hc o' f' hx => ?_, s.rt, s.bk, s.ct⟩ hp⟩
  have w1 : (z.at c).ct = c := rfl
  exact g2 (z.at c) X H0 H' σ' env' G k B o' f'.live (by omega) wl ((s.go f').le (by omega)) hx
theorem bc_one (h : Sc n fr C st p) : Bc n fr C [st] p := let ⟨t, h1, h2⟩ := h; ⟨t, pss_one h1, h2⟩
theorem bc_le (h : Bc na fr C rest p) (hl : na ≤ nb) : Bc nb fr C rest p := by
  obtain ⟨t, h1, h2⟩ := h
  exact ⟨t, h1, fun z X H0 H σ env G k B o lv w wl s hp => h2 z X H0 H σ env G k B o lv (by omega) wl (s.le (by omega)) hp⟩
theorem bc_frz (i : Nat) {sts : List Stmt} (h : Bc n fr C sts p) : Bc n fr C sts (sFrz i p) := by
  obtain ⟨t, h1, h2⟩ := h
  refine ⟨t, h1, fun z X H0 H σ env G k B o lv w wl s hp => ?_⟩
  obtain ⟨o2, f2⟩ := o.frz i
  exact h2 z X H0 H σ _ G k B o2 lv w wl (s.go (c := z.ct) (f2.toC lv)) hp
theorem sc_set {i : Nat} (h : Ec n .e C e pe) (hN : C.N.Nodup) (hi : C.N[i]? = some x) (hx : Loc C.env.scope x) (hs : swapsWith e (some (.Name x pp)) pos.line C.env = pure false := by rfl) (hf : C.fn x = true ∨ C.env.scope.names.lookup x = some .local := by first | exact .inl rfl | exact .inr rfl | assumption) :
    Sc n fr C (.Assign [.Name x pp] e pos) (sSet i pe) := by
  obtain ⟨t, h1, h2⟩ := h
  refine ⟨_, ps_set hN hi hx h1 hs hf, fun z X H0 H σ env G k B o lv w wl s hp => h2 z X H0 H σ env _ _ o lv (by omega) (fun c d v H1 hc e1 r1 hx => ?_) hp⟩
  obtain ⟨o2, f2⟩ := (o.goC e1).set (i := i) (show Is (z.at c) _ H1 v d from r1)
  exact s.nx c _ _ H1 hc o2 ((o.frC e1).trans (f2.toC (z := z.at c) e1.live)) hx
theorem sc_own {i : Nat} (h : Ec n .f C e pe) (hN : C.N.Nodup) (hi : C.N[i]? = some x) (hx : Loc C.env.scope x) (hs : swapsWith e (some (.Name x pp)) pos.line C.env = pure false := by rfl) (hf : C.fn x = true ∨ C.env.scope.names.lookup x = some .local := by first | exact .inl rfl | exact .inr rfl | assumption) :
    Sc n fr C (.Assign [.Name x pp] e pos) (sOwn i pe) := by
  obtain ⟨t, h1, h2⟩ := h
  refine ⟨_, ps_set hN hi hx h1 hs hf, fun z X H0 H σ env G k B o lv w wl s hp => h2 z X H0 H σ env _ _ o lv (by omega) (fun c d v H1 hc e1 r1 hx => ?_) hp⟩
  obtain ⟨a, rfl, ha, hcn⟩ := r1
  obtain ⟨o2, f2⟩ := o.takeC hx.1 e1 ha hcn
  exact s.nx c _ _ H1 hc o2 f2 hx.2
theorem sc_asg {tg : Expr} {js : List Nat} {g : TG} {pg : PGt} (h : Ec n .e C e pe) (hg : G C tg js g pg) (hs : swapsWithSole [tg] e pos.line C.env = pure false := by rfl) (hw : swappedStores [tg] e C.env = pure none := by rfl)
    (h1 : (assignEach [tg] C.env).map (·.2) = [assign tg C.env] := by rfl) : Sc n fr C (.Assign [tg] e pos) (sAsg pe pg) := by
  obtain ⟨t, a1, a2⟩ := h
  refine ⟨_, ps_asg a1 hg.pg hs hw h1, fun z X H0 H σ env G k B o lv w wl s hp => a2 z X H0 H σ env _ _ o lv (by omega) (fun c d v H1 hc e1 r1 hx => ?_) hp⟩
  exact hg.rg (z.at c) X H0 H1 σ env v d _ _ (o.goC e1) r1 (fun env' σ' o' f' _ hy => s.nx c env' σ' H1 hc o' ((o.frC e1).trans (f'.toC (z := z.at c) e1.live)) hy) hx
theorem sc_ret (h : Ec n m C e pe) : Sc n false C (.Return (some e) pos) (sRet pe) := by
  obtain ⟨t, h1, h2⟩ := h.toB
  exact ⟨_, ps_ret h1, fun z X H0 H σ env G k B o lv w wl s hp => h2 z X H0 H σ env _ _ o lv (by omega) (fun c d v H1 hc e1 r1 hx => s.rt c d v H1 (by omega) ((o.goC e1).evo) e1.live r1 (fun q => Bool.noConfusion q) hx) hp⟩
theorem sc_if {c : Expr} {a b : List Stmt} {tc : PTs'} {nc : Nat} (h : Tc nc C c tc) (ha : Bc na fr C a p) (hb : Bc nb fr C b q) : Sc (nc + (na + nb)) fr C (.If c a b pos) (sIf tc p q) := by
  obtain ⟨t, h1, h2⟩ := h
  obtain ⟨ta, a1, a2⟩ := ha
  obtain ⟨tb, b1, b2⟩ := hb
  refine ⟨_, ps_if h1 a1 b1, fun z X H0 H σ env G k B o lv w wl s hp => h2 z X H0 H σ env _ _ o lv (by omega) (fun c1 x H1 hc e1 hx => ?_) hp⟩
  have w1 : (z.at c1).ct = c1 := rfl
  cases x with
  | true => exact a2 (z.at c1) X H0 H1 σ env G k B (o.goC e1) e1.live (by omega) wl ((s.go (o.frC e1)).le (by omega)) hx
  | false => exact b2 (z.at c1) X H0 H1 σ env G k B (o.goC e1) e1.live (by omega) wl ((s.go (o.frC e1)).le (by omega)) hx
end
end Pu

namespace Pu
open PySem PySem.Spec PyProof.Rows L2
variable [Tbs]
section
variable {C : Cx} {fr : Bool} {st : Stmt} {rest : List Stmt} {p q : PSt} {e : Expr} {pe pi : PX} {m : Mode} {pos pp : Pos} {n na nb : Nat} {x : Str}
theorem sc_retO (i : Nat) (hN : C.N[i]? = some x := by rfl) (hv : Vis C.env.scope x := by first | exact Or.inl rfl | exact Or.inr (Or.inl rfl) | exact Or.inr (Or.inr rfl)) (hd : (x == ("__debug__" : Str)) = false := by decide)
    (hcd : (x == ("__classdict__" : Str)) = false := by decide) : Sc 0 fr C (.Return (some (.Name x pp)) pos) (sRetO i) := by
  refine ⟨_, ps_ret (pe_var hN hv hd hcd), fun z X H0 H σ env G k B o lv w wl s hp => ?_⟩
  unfold sRetO at hp
  split at hp
  · rename_i d he
    obtain ⟨a, h1, h2, h3, h4, h5⟩ := o.own i d he
    refine ⟨_, h1, s.rt z.ct d _ H (by omega) o.evo lv ((h2.gen (fun _ q => q) (fun b u q n => ⟨q, fun y => n y.ms⟩) fun _ h => h).is fun q => q.elim h3 h4) (fun _ => ⟨a, rfl, h5, h2.gen (fun _ q => q) (fun b u q n => ⟨q, fun y => n ?_⟩) fun _ h => h⟩) hp⟩
    rcases y with y | y | y
    · exact .inl y
    · exact .inr (.inl y)
    · exact .inr (.inr ⟨i, d, he, by rw [y]; exact h1⟩)
  · exact hp.elim
theorem sc_retF (h : Ec n .f C e pe) : Sc n true C (.Return (some e) pos) (sRet pe) := by
  obtain ⟨t, h1, h2⟩ := h
  refine ⟨_, ps_ret h1, fun z X H0 H σ env G k B o lv w wl s hp => h2 z X H0 H σ env _ _ o lv (by omega) (fun c d v H1 hc e1 r1 hx => s.rt c d v H1 (by omega) (o.goC e1).evo e1.live (r1.feC o).eb (fun _ => ?_) hx) hp⟩
  obtain ⟨a, ev, ha, hcn⟩ := r1
  refine ⟨a, ev, o.evo.fresh ha, hcn.gen (fun _ q => q) (fun b u q n => ⟨q, fun y => n ?_⟩) fun _ h => h⟩
  rcases y with y | y
  · exact .inl y
  · exact .inr (.inl y)
theorem sc_append (i : Nat) {apos cpos : Pos} (h : Ec n .e C e pe) (hN : C.N[i]? = some x := by rfl) (hv : Vis C.env.scope x := by first | exact Or.inl rfl | exact Or.inr (Or.inl rfl) | exact Or.inr (Or.inr rfl)) (hd : (x == ("__debug__" : Str)) = false := by decide)
    (hcd : (x == ("__classdict__" : Str)) = false := by decide)
    (hb : ∀ to te, PE C (.Name x pp) to → PE C e te → PE C (.Call (.Attribute (.Name x pp) "append" apos) [e] [] cpos) (tBM C.K "list" rAppend to (tCons te tNil)))
    (hs : swapsWith (.Call (.Attribute (.Name x pp) "append" apos) [e] [] cpos) none pos.line C.env = pure false := by rfl) :
    Sc n fr C (.Expr (.Call (.Attribute (.Name x pp) "append" apos) [e] [] cpos) pos) (sAppend i pe) := by
  obtain ⟨t, h1, h2⟩ := h
  refine ⟨_, ps_expr (hb _ _ (pe_var hN hv hd hcd) h1) hs, fun z X H0 H σ env G k B o lv w wl s hp => ?_⟩
  unfold sAppend at hp
  split at hp
  · rename_i xs he
    obtain ⟨a, q1, q2, q3, q4⟩ := o.own i _ he
    obtain ⟨vs, q5, q6⟩ := q2
    refine ⟨_, q1, .inl ⟨rfl, vs, SqL.of q5⟩, h2 z X H0 H σ env _ _ o lv (by omega) (fun c d v H1 hc e1 r1 hx => ?_) hp⟩
    have o1 := o.goC e1
    have q5' := e1.old a _ q5 q3
    refine ⟨a, vs, v, rfl, rfl, q5', by rw [q6.length]; exact szl hx.1, ?_⟩
    have ia : Ms z X σ env a := .inr (.inr ⟨i, _, he, q1⟩)
    have old : ∀ b u, H1 b = some u → ¬ Ms z X σ env b → upd H1 a (.lst (vs ++ [v])) b = some u ∧ ¬ Ms z X σ env b := fun b u hb n => ⟨by rw [upd_ne (fun e => n (by rw [e]; exact ia))]; exact hb, n⟩
    obtain ⟨o2, f2⟩ := o1.mut (o := .lst (vs ++ [v])) he q1 (d' := .lst (xs ++ [d])) ⟨vs ++ [v], upd_same, ((IsA.goC (fun _ q => .inl q) e1 q6).append (.cons r1 .nil)).gen old fun b hb => ok_mut (z := z.at c) q3 hb⟩
    exact s.nx c _ _ _ hc o2 ((o.frC e1).trans (f2.toC (z := z.at c) e1.live)) hx.2
  · rename_i xs he
    obtain ⟨a, q1, q2, q3, q4⟩ := o.own i _ he
    obtain ⟨qb, vs, q5, q6⟩ := q2
    refine ⟨_, q1, .inl ⟨rfl, vs, SqL.of q5⟩, h2 z X H0 H σ env _ _ o lv (by omega) (fun c d v H1 hc e1 r1 hx => ?_) hp⟩
    have o1 := o.goC e1
    have q5' := e1.old a _ q5 q3
    refine ⟨a, vs, v, rfl, rfl, q5', by rw [q6.length]; exact szl hx.1, ?_⟩
    have ia : Ms z X σ env a := .inr (.inr ⟨i, _, he, q1⟩)
    have old : ∀ b u, H1 b = some u → ¬ Ms z X σ env b → upd H1 a (.lst (vs ++ [v])) b = some u ∧ ¬ Ms z X σ env b := fun b u hb n => ⟨by rw [upd_ne (fun e => n (by rw [e]; exact ia))]; exact hb, n⟩
    obtain ⟨o2, f2⟩ := o1.mut (o := .lst (vs ++ [v])) he q1 (d' := .bor (xs ++ [d])) ⟨qb, vs ++ [v], upd_same, ((IsA.goC (fun _ q => .inl q) e1 q6).append (.cons r1 .nil)).gen old fun b hb => ok_mut (z := z.at c) q3 hb⟩
    exact s.nx c _ _ _ hc o2 ((o.frC e1).trans (f2.toC (z := z.at c) e1.live)) hx.2
  · exact hp.elim
theorem sc_popAt (j i : Nat) {y : Str} {py apos cpos : Pos} (h : Ec n m C e pe) (hj : C.N[j]? = some y) (hy : Loc C.env.scope y) (hND : C.N.Nodup)
    (hb : ∀ to te, PE C (.Name x pp) to → PE C e te → PE C (.Call (.Attribute (.Name x pp) "pop" apos) [e] [] cpos) (tBM C.K "list" rPopAt to (tCons te tNil)))
    (hN : C.N[i]? = some x := by rfl) (hv : Vis C.env.scope x := by first | exact Or.inl rfl | exact Or.inr (Or.inl rfl) | exact Or.inr (Or.inr rfl)) (hd : (x == ("__debug__" : Str)) = false := by decide)
    (hcd : (x == ("__classdict__" : Str)) = false := by decide)
    (hs : swapsWith (.Call (.Attribute (.Name x pp) "pop" apos) [e] [] cpos) (some (.Name y py)) pos.line C.env = pure false := by rfl) (hf : C.fn y = true ∨ C.env.scope.names.lookup y = some .local := by first | exact .inl rfl | exact .inr rfl | assumption) :
    Sc n fr C (.Assign [.Name y py] (.Call (.Attribute (.Name x pp) "pop" apos) [e] [] cpos) pos) (sPopAt j i pe) := by
  obtain ⟨t, h1, h2⟩ := h.toB
  refine ⟨_, ps_set hND hj hy (hb _ _ (pe_var hN hv hd hcd) h1) hs hf, fun z X H0 H σ env G k B o lv w wl s hp => ?_⟩
  unfold sPopAt at hp
  split at hp
  · rename_i xs he
    obtain ⟨a, q1, ⟨vs, q5, q6⟩, q3, q4⟩ := o.own i _ he
    refine ⟨_, q1, .inl ⟨rfl, vs, SqL.of q5⟩, h2 z X H0 H σ env _ _ o lv (by omega) (fun c d v H1 hc e1 r1 hx => ?_) hp⟩
    cases d with
    | int nn =>
      cases Is.intI r1
      obtain ⟨hn, jj, yy, g1, g2, hk⟩ := hx
      have o1 := o.goC e1
      have q5' := e1.old a _ q5 q3
      have q6' := IsA.goC (fun _ q => .inl q) e1 q6
      obtain ⟨w, w1, w2⟩ := q6'.get g2
      refine ⟨a, vs, nn, jj, w, rfl, rfl, q5', by omega, by omega, by rw [q6.length]; exact g1, w1, ?_⟩
      obtain ⟨o2, f2⟩ := mutL o1 he q1 q3 (q6'.eraseIdx jj)
      obtain ⟨o3, f3⟩ := o2.set (i := j) (f2.is w2)
      exact s.nx c _ _ _ hc o3 ((o.frC e1).trans ((f2.trans f3).toC (z := z.at c) e1.live)) hk
    | _ => exact (show False from hx).elim
  · exact hp.elim
theorem sc_put (i : Nat) {ix : Expr} {spos : Pos} (he : Ec na .e C e pe) (hi : Ec nb m C ix pi) (hN : C.N[i]? = some x := by rfl) (hv : Vis C.env.scope x := by first | exact Or.inl rfl | exact Or.inr (Or.inl rfl) | exact Or.inr (Or.inr rfl)) (hd : (x == ("__debug__" : Str)) = false := by decide)
    (hcd : (x == ("__classdict__" : Str)) = false := by decide)
    (ha : ∀ v, assign (.Subscript (.Name x pp) ix spos) C.env v = (do
      let ov ← holding [v] (eval (.Name x pp) C.env)
      let iv ← holding [v, ov] (eval ix C.env)
      standAt spos
      holding [v, ov, iv] (setItem ov iv v)
      release [v, ov, iv] []) := by intro _; rfl)
    (hs : swapsWithSole [.Subscript (.Name x pp) ix spos] e pos.line C.env = pure false := by rfl) (hw : swappedStores [.Subscript (.Name x pp) ix spos] e C.env = pure none := by rfl)
    (h1 : (assignEach [.Subscript (.Name x pp) ix spos] C.env).map (·.2) = [assign (.Subscript (.Name x pp) ix spos) C.env] := by rfl) : Sc (na + nb) fr C (.Assign [.Subscript (.Name x pp) ix spos] e pos) (sPut i pi pe) := by
  obtain ⟨t, a1, a2⟩ := he
  obtain ⟨t2, b1, b2⟩ := hi.toB
  refine ⟨_, ps_asg a1 (pg_sub (pe_var hN hv hd hcd) b1 set_list ha) hs hw h1, fun z X H0 H σ env G k B o lv w wl s hp => a2 z X H0 H σ env _ _ o lv (by omega) (fun c y v H1 hc e1 r1 hx => ?_) hp⟩
  have w1 : (z.at c).ct = c := rfl
  split at hx
  · rename_i xs he
    have o1 := o.goC e1
    obtain ⟨a, q1, ⟨vs, q5, q6⟩, q3, q4⟩ := o1.own i _ he
    refine ⟨_, q1, b2 (z.at c) X H0 H1 σ env _ _ o1 e1.live (by omega) (fun c2 d u H2 hc2 e2 r2 hx => ?_) hx⟩
    cases d with
    | int nn =>
      cases Is.intI r2
      obtain ⟨jj, g1, hk⟩ := hx
      have o2 := o1.goC e2
      have q5' := e2.old a _ q5 q3
      have q6' := IsA.goC (z := z.at c) (fun _ q => .inl q) e2 q6
      refine ⟨a, vs, nn, jj, rfl, rfl, q5', by rw [q6.length]; exact g1, ?_⟩
      obtain ⟨o3, f3⟩ := mutL o2 he q1 q3 (IsA.set (Is.goC (z := z.at c) (fun _ q => .inl q) e2 r1) jj q6')
      exact s.nx c2 _ _ _ (by omega) o3 ((o.frC (e1.trans e2)).trans (f3.toC (z := z.at c2) e2.live)) hk
    | _ => exact (show False from hx).elim
  · exact hx.elim
end
/-! ### loops -/
def YieldsC (z : Zn) (X : AP) (M : AP) (H : Hp) (J : It) (ds : List D) : Prop := ∀ c M' H', FrC z c X M H M' H' → J.stop ds.length H' ∧
  ∀ i d, ds[i]? = some d → J.go i H' ∧ ∀ x H2, J.yld i H' x H2 → Evo (z.at c) H' H2 ∧ ((∀ a, z.Z a → M' a) → (∀ b, H' b = none → ¬ M' b) → Is (z.at c) M' H2 x d)
def RIc (n : Nat) (wi : TI) (p : PIt) : Prop := ∀ (z : Zn) (X : AP) (H0 H : Hp) (σ : Sl) (env : List SV) (R : It → Hp → Prop) (k : List D → Prop), Ok z X H0 H σ env → z.live H → z.ct + n ≤ lim →
  (∀ c ds J H', c ≤ z.ct + n → EvoC z c H H' → YieldsC (z.at c) X (Ms z X σ env) H' J ds → k ds → R J H') → p env k → wi σ H R
structure Ic (n : Nat) (C : Cx) (tg it : Expr) (p : PIt) : Prop where
  ex : ∃ wi, PI C tg it wi ∧ RIc n wi p
/-- a loop with draws in its body: it has at most 100000 turns -/
def sForC (it : PIt) (g : PGt) (body : PSt) : PSt := fun env k => it env fun ds => ds.length ≤ 100000 ∧ forP g body ds env k
theorem rsc_for {fr : Bool} {wi : TI} {pi : PIt} {js : List Nat} {g : TG} {pg : PGt} {tb : TS} {pb : PSt} {ni nb : Nat} (hi : RIc ni wi pi) (hg : RG js g pg) (hb : RSc nb fr tb pb) : RSc (ni + 100000 * nb) fr (tFor wi g tb) (sForC pi pg pb) := fun z X H0 H σ env G k B o lv w wl s hp => by
  refine hi z X H0 H σ env _ _ o lv (by omega) (fun c1 ds J H1 hc1 e1 yl hx => ?_) hp
  have w1 : (z.at c1).ct = c1 := rfl
  obtain ⟨hdl, hx⟩ := hx
  have f1 := o.frC e1
  have o1 := o.goC e1
  have hmul : ∀ i : Nat, i ≤ ds.length → i * nb ≤ 100000 * nb := fun i h => Nat.mul_le_mul_right nb (Nat.le_trans h hdl)
  refine ⟨fun i mm σ' H' => mm = ds.length - i ∧ i ≤ ds.length ∧ ∃ c env', c ≤ c1 + i * nb ∧ Ok (z.at c) X H0 H' σ' env' ∧ FrC (z.at c1) c X (Ms z X σ env) H1 (Ms z X σ' env') H' ∧ forP pg pb (ds.drop i) env' k, ⟨ds.length, by simp, Nat.zero_le _, c1, env, by omega, o1, Fr.refl.toC e1.live, by simpa using hx⟩, ?_⟩
  rintro i mm σ' H' ⟨rfl, hil, c, env', hc, o', f', hf⟩
  obtain ⟨y1, y2⟩ := yl c _ _ f'
  have hm1 := hmul i hil
  by_cases hlt : i < ds.length
  · obtain ⟨go, y3⟩ := y2 i ds[i] (List.getElem?_eq_getElem hlt)
    have hm2 := hmul (i + 1) hlt
    rw [Nat.succ_mul] at hm2
    rw [List.drop_eq_getElem_cons hlt] at hf
    refine .inr ⟨go, fun σ2 H2 => ∃ c2 env2, c2 ≤ c1 + (i + 1) * nb ∧ Ok (z.at c2) X H0 H2 σ2 env2 ∧ FrC (z.at c1) c2 X (Ms z X σ env) H1 (Ms z X σ2 env2) H2 ∧ forP pg pb (ds.drop (i + 1)) env2 k, fun σ2 H2 h2 => ⟨ds.length - (i + 1), by omega, rfl, hlt, h2⟩, fun x H2 hy => ?_⟩
    obtain ⟨e2, is⟩ := y3 x H2 hy
    have o2 := o'.go e2
    have l2 : (z.at c).live H2 := e2.dk _ f'.live
    have f2 := f'.trans (c' := c) ((o'.fr e2).toC (z := z.at c) f'.live)
    refine hg (z.at c) X H0 H2 σ' env' x _ _ _ o2 (is (fun a q => .inl q) (fun b q => o'.notMs q)) (fun env3 σ3 o3 f3 _ hx3 => ?_) hf
    have f23 := f2.trans (c' := c) (f3.toC (z := z.at c) l2)
    have wc : (z.at c).ct = c := rfl
    refine hb (z.at c) X H0 H2 σ3 env3 _ { nx := fun env2 => forP pg pb (ds.drop (i + 1)) env2 k, rt := k.rt, bk := k.nx, ct := fun env2 => forP pg pb (ds.drop (i + 1)) env2 k } (c + nb) o3 l2 (by omega) (by omega) ⟨fun c4 env4 σ4 H4 hc4 o4 f4 hx4 => ⟨c4, env4, by rw [Nat.succ_mul]; omega, o4, f23.trans f4, hx4⟩, fun c4 d v H4 hc4 e4 l4 r4 fq hk => s.rt c4 d v H4 (by omega) e4 l4 r4 fq hk, fun c4 env4 σ4 H4 hc4 o4 f4 hx4 => ?_, fun c4 env4 σ4 H4 hc4 o4 f4 hx4 => ⟨c4, env4, by rw [Nat.succ_mul]; omega, o4, f23.trans f4, hx4⟩⟩ hx3
    exact s.nx c4 env4 σ4 H4 (by omega) o4 (f1.trans (f23.trans f4)) hx4
  · have ei : i = ds.length := by omega
    subst ei
    rw [List.drop_length] at hf
    exact .inl ⟨y1, s.nx c env' σ' H' (by omega) o' (f1.trans f') hf⟩
section
variable {C : Cx} {fr : Bool} {tg e : Expr} {body : List Stmt} {pe : PX} {m : Mode} {pos pp : Pos} {n ni nb : Nat}
theorem sc_for {iter : Expr} {pi : PIt} {js : List Nat} {g : TG} {pg : PGt} {pb : PSt} (hi : Ic ni C tg iter pi) (hg : G C tg js g pg) (hb : Bc nb fr C body pb) (hp : PassesOwn (model C.prog C.w) C.A C.env C.xe) (hc : C.calm = true) (hs : ∀ x, foldedSetIterable iter C.env x = pure x := by intro _; rfl) :
    Sc (ni + 100000 * nb) fr C (.For tg iter body [] pos) (sForC pi pg pb) := by
  obtain ⟨wi, i1, i2⟩ := hi
  obtain ⟨tb, b1, b2⟩ := hb
  exact ⟨_, ps_for hp hc i1 hg.pg b1 hs, rsc_for i2 hg.rg b2⟩
theorem ylc_tup {z : Zn} {X : AP} {M : AP} {H : Hp} {K : PySem.W.Frag} {a : Addr} {vs : List V} {ds : List D} (h : H a = some (.tup vs)) (n : ¬ M a) (r : IsA z M H vs ds) : YieldsC z X M H (Itt K a) ds := fun c M' H' f => by
  have h' := (f.old a _ h n).1
  have r' := f.isA r
  refine ⟨⟨vs, SqT.of h', by rw [r'.length]; exact Nat.le_refl _⟩, fun i d hd => ?_⟩
  obtain ⟨v, h1, h2⟩ := r'.get hd
  refine ⟨⟨vs, v, SqT.of h', h1⟩, fun x H2 y => ?_⟩
  obtain ⟨rfl, y⟩ := y
  refine ⟨Evo.refl _ _, fun _ _ => ?_⟩
  have e := y vs (SqT.of h')
  rw [h1] at e
  cases e
  exact h2
theorem ylc_lst {z : Zn} {X : AP} {M : AP} {H : Hp} {K : PySem.W.Frag} {a : Addr} {vs : List V} {ds : List D} (h : H a = some (.lst vs)) (n : ¬ M a) (r : IsA z M H vs ds) : YieldsC z X M H (Itl K a) ds := fun c M' H' f => by
  have h' := (f.old a _ h n).1
  have r' := f.isA r
  refine ⟨⟨vs, SqL.of h', by rw [r'.length]; exact Nat.le_refl _⟩, fun i d hd => ?_⟩
  obtain ⟨v, h1, h2⟩ := r'.get hd
  refine ⟨⟨vs, v, SqL.of h', h1⟩, fun x H2 y => ?_⟩
  obtain ⟨rfl, y⟩ := y
  refine ⟨Evo.refl _ _, fun _ _ => ?_⟩
  have e := y vs (SqL.of h')
  rw [h1] at e
  cases e
  exact h2
theorem ic_seq (h : Ec n .e C e pe) : Ic n C tg e (iSeq pe) := by
  obtain ⟨t, h1, h2⟩ := h
  refine ⟨_, pi_seq h1, fun z X H0 H σ env R k o lv w c hp => h2 z X H0 H σ env _ _ o lv w (fun c1 d v H1 hc1 e1 r1 hx => ?_) hp⟩
  cases (show Is (z.at c1) _ H1 v d from r1) with
  | lst e n r => exact .inl ⟨_, rfl, ⟨_, SqL.of e⟩, c c1 _ _ H1 hc1 e1 (ylc_lst e n r) hx⟩
  | tup e n r => exact .inr ⟨_, rfl, ⟨_, SqT.of e⟩, c c1 _ _ H1 hc1 e1 (ylc_tup e n r) hx⟩
  | _ => exact (show False from hx).elim
theorem ylc_rng {z : Zn} {X : AP} {M : AP} {H : Hp} {lo : Int} {n : Nat} : YieldsC z X M H (Itr lo n) (rangeD lo n) := fun c M' H' f => by
  refine ⟨(by show n ≤ (rangeD lo n).length; simp [rangeD]), fun i d hd => ?_⟩
  have hi : i < n := by
    have := (List.getElem?_eq_some_iff.mp hd).1
    simpa [rangeD] using this
  refine ⟨hi, fun x H2 y => ?_⟩
  obtain ⟨rfl, rfl⟩ := y
  refine ⟨Evo.refl _ _, fun _ _ => ?_⟩
  have e : d = .int (lo + (i : Nat)) := by simpa [rangeD, hi, List.getElem?_map, List.getElem?_range] using hd.symm
  rw [e]
  exact Is.int _
theorem ic_range1 {a : Expr} {p : PAs} {l : Bool} (ha : Ac n l C [a] p) (hg : Gl C "range") (hm : C.mg "range" = none) (hs : starEach [a] C.env = [(false, eval a C.env)] := by rfl) : Ic n C tg (.Call (.Name "range" pp) [a] [] pos) (iRange1 p) := by
  obtain ⟨t, h1, h2⟩ := ha
  refine ⟨_, pi_range1 hg hm h1 hs, fun z X H0 H σ env R k o lv w c hp => h2 z X H0 H σ env _ _ o lv w (fun c1 ds vs H1 hc1 e1 r1 hx => ?_) hp⟩
  unfold rgK1 at hx
  split at hx
  · rename_i j
    cases IsA.ints (ns := [_]) r1
    exact ⟨j, rfl, by omega, by omega, c c1 _ _ H1 hc1 e1 ylc_rng hx.2.2⟩
  · exact hx.elim
end
/-! ### defs that draw, the law -/
section
variable {P : Program} {w : World} {K : PySem.W.Frag} {mg : Str → Option Value} {base : Heap}
theorem fn_okC {x qual : Str} {st : Stmt} {f : Addr} {fd : FuncData} {N ps : List Str} {k cost : Nat} {fr : Bool} {p : PSt} (F : Fun K x qual st f fd) (S : FnScope N ps (defScope st))
    (hb : ∀ (cdv : Value) (A : Around) (outer : List Env) (s : Shared) (H : Hp) (E : XK), Room k (A.deeper (envOfC qual (defScope st) s.heap.objs.size f cdv)) → Bc cost fr (cxOf CX0 P w K mg base N qual (defScope st) f cdv A outer s H E).nox (defBody st) p) :
    FnOk P w K mg base CX0 (k + 1) f fd ps (Sfc fr ps.length cost (wpOf fr N.length p)) := by
  refine F.ok S (fun vs H Q E h => ?_) (fun cdv A outer s H vs Q E hr h => ?_)
  · obtain ⟨z, X, ds, kk, hl, _⟩ := h
    exact hl
  · obtain ⟨z, X, ds, kk, hl, hz, hx, hA, ⟨lv, wl⟩, hw, c⟩ := h
    obtain ⟨t, b1, b2⟩ := hb cdv A outer s H E hr
    refine ⟨t, b1, b2 z X H H (L2.start N vs) _ _ { nx := fun _ => fr = false ∧ kk .non, rt := kk } (z.ct + cost) (start_ok hz hx hA) lv (Nat.le_refl _) wl ⟨fun c' env' σ' H' hc o' f' hk => ?_, fun c' d v H' hc e l r fq hk => ?_, fun _ _ _ _ _ _ _ hk => hk.elim, fun _ _ _ _ _ _ _ hk => hk.elim⟩ hw⟩
    · exact c c' .non .non H' hc ⟨o'.evo.old, o'.evo.al, o'.evo.tab, f'.live⟩ .non (fun q => by rw [hk.1] at q; cases q) hk.2
    · exact c c' d v H' hc ⟨e.old, e.al, e.tab, l⟩ r fq hk
/-- the rest of the body, behind the making of a deck that counts -/
theorem rest_okC {t : TS} {p : PSt} {n : Nat} (hn : n ≤ lim) (h : RSc n false t p) {N : List Str} {a dk c : Addr} {H : Hp} (hl : 2 ≤ N.length) (hd : DkF 6 H dk c) (h0 : ∃ s g : Int, H dk = some (.lst [.ref c, .int s, .int 0, .int g])) (hT : Tabs H) {Q : VK} (k : ∀ H', Q (.bl true) H')
    (hp : p (SV.no :: SV.val (.deck 6) :: List.replicate (N.length - 2) SV.no) { nx := fun _ => False, rt := fun d => d = .bl true }) :
    t { nx := fun _ H' => Q .non H', rt := Q } ((L2.start N [V.ref a]).set 1 (some (.ref dk))) H := by
  have hst : (L2.start N [V.ref a]).set 1 (some (.ref dk)) = some (V.ref a) :: some (.ref dk) :: List.replicate (N.length - 2) none := by
    unfold L2.start
    obtain ⟨m, hm⟩ : ∃ m, N.length = m + 2 := ⟨N.length - 2, by omega⟩
    rw [hm]
    simp [List.replicate_succ]
  rw [hst]
  let z : Zn := ⟨dk, c, 6, Option.none, 0⟩
  have lv : z.live H := ⟨rfl, (by decide : (6 : Nat) ≠ 0), hd, h0⟩
  have zal : ∀ b, z.Z b → H b ≠ none := fun b q => by
    rcases q with ⟨_, q | q⟩ | q
    · rw [q]; exact hd.al.1
    · rw [q]; exact hd.al.2
    · exact hT.at q
  have hrep : ∀ (i : Nat) (d : SV), (SV.no :: SV.val (.deck 6) :: List.replicate (N.length - 2) SV.no)[i]? = some d → d = .no ∨ (i = 1 ∧ d = .val (.deck 6)) := fun i d h => by
    match i, h with
    | 0, h => simp at h; exact .inl h.symm
    | 1, h => simp at h; exact .inr ⟨rfl, h.symm⟩
    | j + 2, h =>
      simp only [List.getElem?_cons_succ, List.getElem?_replicate] at h
      split at h
      · cases h; exact .inl rfl
      · cases h
  have o : Ok z (fun _ => False) H H (some (V.ref a) :: some (.ref dk) :: List.replicate (N.length - 2) none) (SV.no :: SV.val (.deck 6) :: List.replicate (N.length - 2) SV.no) := by
    refine ⟨by simp, Evo.refl _ _, zal, fun _ q => q.elim, fun i d h => ?_, fun i d h => ?_, fun i j b d e h _ _ _ => ?_, hT⟩
    · rcases hrep i _ h with q | ⟨rfl, q⟩
      · cases q
      · cases q
        exact ⟨.ref dk, rfl, Is.deck (z := z) lv⟩
    · rcases hrep i _ h with q | ⟨rfl, q⟩ <;> cases q
    · rcases hrep i _ h with q | ⟨rfl, q⟩ <;> cases q
  refine h z (fun _ => False) H H _ _ _ { nx := fun _ => False, rt := fun d => d = .bl true } n o lv (by show 0 + n ≤ n; omega) hn ⟨fun _ _ _ _ _ _ _ q => q.elim, fun c d v H' _ _ _ r _ q => ?_, fun _ _ _ _ _ _ _ q => q.elim, fun _ _ _ _ _ _ _ q => q.elim⟩ hp
  subst q
  cases r
  exact k H'
end
def tPSc (n : Nat) (fr : Bool) (p : PSt) : TS := fun G σ H => ∃ z X H0 env k B, Ok z X H0 H σ env ∧ z.live H ∧ z.ct + n ≤ B ∧ B ≤ lim ∧ SimC (z.ct + n) B fr z X H0 (Ms z X σ env) H G k ∧ p env k
theorem Bc.pss {n : Nat} {fr : Bool} {C : Cx} {sts : List Stmt} {p : PSt} (h : Bc n fr C sts p) : PSs C sts (tPSc n fr p) := by
  obtain ⟨t, h1, h2⟩ := h
  exact ⟨fun pins s σ H G I ⟨z, X, H0, env, k, B, o, lv, w, wl, c, hp⟩ => h1.run pins s σ H G I (h2 z X H0 H σ env G k B o lv w wl c hp)⟩
theorem rsc_tPS {n : Nat} {fr : Bool} {p : PSt} : RSc n fr (tPSc n fr p) p := fun z X H0 H σ env G k B o lv w wl c hp => ⟨z, X, H0, env, k, B, o, lv, w, wl, c, hp⟩
end Pu

namespace Pu
open PySem PySem.Spec PyProof.Rows L2
variable [Tbs]
section
variable {C : Cx} {e a b : Expr} {es : List Expr} {p q pe : PX} {m mo : Mode} {pos pp : Pos} {n na nb : Nat} {x : Str} {tp : PTs'}
theorem tc_v (h : Ec n m C e p) (he : ∀ whole, isTrue e C.env whole = (do let v ← whole; standAt e.pos; holding [v] (truthy v)) := by intro _; rfl) : Tc n C e (tOf p) := by
  obtain ⟨t, h1, h2⟩ := h.toB
  exact ⟨_, pt_val h1 he, RTc.of h2⟩
theorem tc_not (h : Tc n C a tp) : Tc n C (.UnaryOp .Not a pos) (tNotP tp) := by
  obtain ⟨t1, h1, h2⟩ := h
  exact ⟨_, pt_not h1, fun z X H0 H σ env Q k o lv w c hp => h2 z X H0 H σ env _ _ o lv w (fun c1 x H1 hc e1 hx => c c1 _ H1 hc e1 hx) hp⟩
theorem ec_tuple (h : Ec n .c C e p) (hg : Gl C x) (hm : C.mg x = none) (hv : bootBuiltins x = some (.type "tuple")) (hn : x ≠ "__name__" := by decide) (hdb : (x == ("__debug__" : Str)) = false := by decide)
    (he : starEach [e] C.env = (false, eval e C.env) :: starEach [] C.env := by rfl) (hpl : (backTo pos (starEach [] C.env)).any (·.1) = false := by rfl) : Ec n .e C (.Call (.Name x pp) [e] [] pos) (eUn dTuple p) := by
  obtain ⟨t, h1, h2⟩ := h
  refine ⟨_, pe_callTy call_tuple_of hg hm hv (pa_cons h1 pa_nil he) hn hdb he hpl, fun z X H0 H σ env Q k o lv w c hp => h2 z X H0 H σ env _ _ o lv w (fun c1 d v H1 hc e1 r1 hx => ?_) hp⟩
  cases d with
  | tup xs =>
    obtain ⟨a, vs, rfl, q1, q2, n⟩ := r1.conT
    exact ⟨a, vs, rfl, .inr ⟨SqT.of q1, c c1 _ _ H1 hc e1 (Is.tup q1 n q2) hx⟩⟩
  | lst xs =>
    obtain ⟨a, vs, rfl, q1, q2, n⟩ := r1.conL
    exact ⟨a, vs, rfl, .inl ⟨SqL.of q1, fun q hq => c c1 _ _ _ hc (e1.trans (c' := c1) (((Evo.refl (z.at c1) H1).new (o := .tup vs) hq).toC e1.live)) (Rel.feC o (Rel.newT (e1.fresh hq) hq q2)) hx⟩⟩
  | _ => exact (show False from hx).elim
theorem ec_slice {lo hi : Option Expr} {pl ph : PO'} {p2 : Pos} (h : Ec n .c C e p) (hl : O C lo pl) (hh : O C hi ph) : Ec n .e C (.Subscript e (.Slice lo hi none p2) pos) (eSl p pl ph) := by
  obtain ⟨t, h1, h2⟩ := h
  obtain ⟨tl, l1, l2⟩ := hl
  obtain ⟨th, g1, g2⟩ := hh
  refine ⟨_, pe_slice (r := rSlQ C.K) sl_seq h1 l1 g1, fun z X H0 H σ env Q k o lv w c hp => h2 z X H0 H σ env _ _ o lv w (fun c1 d v H1 hc e1 r1 hx => ?_) hp⟩
  have o1 := o.goC e1
  refine l2 (z.at c1) X H0 H1 σ env _ _ o1 (fun i H2 e2 hx => ?_) hx
  refine g2 (z.at c1) X H0 H2 σ env _ _ (o1.go e2) (fun j H3 e3 hx => ?_) hx
  have r3 : Rel .c (z.at c1) X H H3 σ env v d := Rel.goC (z := z.at c1) (c := c1) o.zal ((e2.trans e3).toC e1.live) r1
  have ev := e1.trans (c' := c1) ((e2.trans e3).toC e1.live)
  cases d with
  | tup xs =>
    obtain ⟨a, vs, rfl, q1, q2, n⟩ := r3.conT
    refine .inl ⟨a, vs, rfl, SqT.of q1, fun w => ?_, fun w q hq => ?_⟩
    · refine c c1 _ _ H3 hc ev ?_ hx
      have e : cutD xs i j = xs := by
        have l := q2.length
        rw [l] at w
        exact cut_whole w
      rw [e]
      exact Is.tup q1 n q2
    · exact c c1 _ _ _ hc (ev.trans (c' := c1) (((Evo.refl (z.at c1) H3).new hq).toC ev.live)) (Rel.feC o (Rel.newT (ev.fresh hq) hq q2.cut)) hx
  | lst xs =>
    obtain ⟨a, vs, rfl, q1, q2, n⟩ := r3.conL
    exact .inr ⟨a, vs, rfl, SqL.of q1, fun q hq => c c1 _ _ _ hc (ev.trans (c' := c1) (((Evo.refl (z.at c1) H3).new hq).toC ev.live)) (Rel.feC o (Rel.newL (ev.fresh hq) hq q2.cut)) hx⟩
  | _ => exact (show False from hx).elim
end
end Pu

namespace Pu
open PySem PySem.Spec PyProof.Rows L2
variable [Tbs]
theorem get_list {X : Cx} : PGet X (rIxL X.K) := by
  intro pins s σ H o i ov iv Q I rx ry h
  obtain ⟨p, xs, i, z, rfl, rfl, hq, he, q⟩ := h
  cases rx
  obtain ⟨t, rfl⟩ := ry
  obtain ⟨its, r, pl, hz⟩ := I.list hq
  obtain ⟨j, h1, h2, h3, h4, h5⟩ := atI_get he
  obtain ⟨w, ew, rw'⟩ := r.get h2
  have hl := r.length
  have hn := line63
  have fin : EP X pins σ Q w s := ⟨z, H, I, rw', q⟩
  by_cases h0 : 0 ≤ i
  · have hj : i.toNat = j := by
      rw [seqIndex_of h0 h5] at h1
      exact Option.some.inj h1
    exact wpAny_getItem_list pl.isList h0 (by omega) (by rw [hj]; simpa using ew) fin
  · have hj : (i + (its.toArray.size : Int)).toNat = j := by
      rw [seqIndex_neg (by omega) h4] at h1
      rw [List.size_toArray, ← hl]
      exact Option.some.inj h1
    exact wpAny_getItem_list_neg pl.isList (by omega) (by rw [List.size_toArray] <;> omega) (by omega) (by rw [hj]; simpa using ew) fin
/-- x[i] += e, x a list of the def's own -/
def sAugI (i : Nat) (pi pe : PX) : PSt := fun env k => match env[i]? with
  | some (.own (.lst xs)) => pi env fun d => match d with
    | .int n => ∃ jj a, ixN xs.length n = some jj ∧ xs[jj]? = some (.int a) ∧ pe env fun y => match y with
      | .int b => k.nx (env.set i (.own (.lst (xs.set jj (.int (a + b))))))
      | _ => False
    | _ => False
  | _ => False
section
variable {C : Cx} {e ix : Expr} {p q : PX} {m m' : Mode} {pos pp spos : Pos} {fr : Bool}
theorem s_augI (i : Nat) {x : Str} (hi : E m C ix q) (he : E m' C e p) (hN : C.N[i]? = some x := by rfl) (hv : Vis C.env.scope x := by first | exact Or.inl rfl | exact Or.inr (Or.inl rfl) | exact Or.inr (Or.inr rfl)) (hd : (x == ("__debug__" : Str)) = false := by decide)
    (hcd : (x == ("__classdict__" : Str)) = false := by decide)
    (ha : ∀ ov iv new, augStore ix ov iv new = (do holding [new, ov, iv] (setItem ov iv new); release [new, ov, iv] []; pure .next) := by intros; rfl) : S fr C (.AugAssign (.Subscript (.Name x pp) ix spos) .Add e pos) (sAugI i q p) := by
  obtain ⟨t, a1, a2⟩ := he.toB
  obtain ⟨t2, b1, b2⟩ := hi.toB
  refine ⟨_, ps_augS (pe_var hN hv hd hcd) b1 get_list a1 ip_add set_list ha, fun z X H0 H σ env G k o s hp => ?_⟩
  unfold sAugI at hp
  split at hp
  · rename_i xs hx0
    obtain ⟨a, q1, ⟨vs, q5, q6⟩, q3, q4⟩ := o.own i _ hx0
    refine ⟨_, q1, b2 z X H0 H σ env _ _ o (fun d u H1 e1 r1 hx => ?_) hp⟩
    cases d with
    | int n =>
      cases Is.intI r1
      obtain ⟨jj, w, g1, g2, hx⟩ := hx
      have o1 := o.go e1
      have q5' := e1.old a _ q5 q3
      have q6' := IsA.evo (fun _ q => .inl q) e1 q6
      obtain ⟨wv, w1, w2⟩ := q6'.get g2
      cases Is.intI w2
      refine ⟨a, vs, n, _, rfl, rfl, SqL.of q5', by unfold atI; rw [q6.length, g1]; exact w1, a2 z X H0 H1 σ env _ _ o1 (fun y v H2 e2 r2 hx => ?_) hx⟩
      cases y with
      | int b =>
        cases Is.intI r2
        have o2 := o1.go e2
        have q5'' := e2.old a _ q5' q3
        have q6'' := IsA.evo (fun _ q => .inl q) e2 q6'
        refine ⟨w, b, rfl, rfl, a, vs, n, jj, rfl, rfl, q5'', by rw [q6.length]; exact g1, ?_⟩
        obtain ⟨o3, f3⟩ := mutL o2 hx0 q1 q3 (IsA.set (Is.int (w + b)) jj q6'')
        exact s.nx _ _ _ o3 ((o.fr (e1.trans e2)).trans f3) hx
      | _ => exact (show False from hx).elim
    | _ => exact (show False from hx).elim
  · exact hp.elim
end
section
variable {C : Cx} {e a b : Expr} {es : List Expr} {p q : PX} {ga : PAs} {m mo : Mode} {l : Bool} {pos pp : Pos} {x : Str} {id ty : String} {r : List V → Hp → VK → Prop} {g : List D → (D → Prop) → Prop} {n na ni : Nat}
theorem REc.cB {t : TA} (hd : CallD l mo r g) (h : RAc n l t ga) : REc n mo (tCB r t) (eCall g ga) := fun z X H0 H σ env Q k o lv w c hp =>
  h z X H0 H σ env _ _ o lv w (fun c1 ds vs H1 hc e1 r1 hx => hd (z.at c1) X H0 H1 σ env vs ds Q k (o.goC e1) r1 (fun d w H2 e2 r2 kd => c c1 d w H2 hc (e1.trans (c' := c1) (e2.toC (z := z.at c1) e1.live)) (r2.earlyC (z' := z) fun p hn => e1.fresh hn) kd) hx) hp
theorem ec_callB (hc : CallR C (.builtin id) r) (hd : CallD l mo r g) (hg : Gl C x) (hm : C.mg x = none) (hv : bootBuiltins x = some (.builtin id)) (ha : Ac n l C (e :: es) ga) (hn : x ≠ "__name__" := by decide) (hdb : (x == ("__debug__" : Str)) = false := by decide)
    (he : starEach (e :: es) C.env = (false, eval e C.env) :: starEach es C.env := by rfl) (hpl : (backTo pos (starEach es C.env)).any (·.1) = false := by rfl) : Ec n mo C (.Call (.Name x pp) (e :: es) [] pos) (eCall g ga) := by
  obtain ⟨t, h1, h2⟩ := ha
  exact ⟨_, pe_callB hc hg hm hv h1 hn hdb he hpl, REc.cB hd h2⟩
theorem ec_callTy (hc : CallR C (.type ty) r) (hd : CallD l mo r g) (hg : Gl C x) (hm : C.mg x = none) (hv : bootBuiltins x = some (.type ty)) (ha : Ac n l C (e :: es) ga) (hn : x ≠ "__name__" := by decide) (hdb : (x == ("__debug__" : Str)) = false := by decide)
    (he : starEach (e :: es) C.env = (false, eval e C.env) :: starEach es C.env := by rfl) (hpl : (backTo pos (starEach es C.env)).any (·.1) = false := by rfl) : Ec n mo C (.Call (.Name x pp) (e :: es) [] pos) (eCall g ga) := by
  obtain ⟨t, h1, h2⟩ := ha
  exact ⟨_, pe_callTy hc hg hm hv h1 hn hdb he hpl, REc.cB hd h2⟩
end
/-! ### comprehensions whose element draws -/
def eLcC (vs : List Nat) (pi : PIt) (pg : PGt) (pt : PTs') (pe : PX) : PX := fun env k => pi env fun ds => noOwn env vs ∧ ds.length ≤ 100000 ∧ lcP pg pt pe (wipeE env vs) ds [] fun r => k (.lst r)
theorem Ok.lockC {z : Zn} {c : Nat} {X : AP} {H0 H H' : Hp} {σ : Sl} {env : List SV} {a : Addr} (o : Ok z X H0 H σ env) (ha : H a = none) (e : EvoC z c H H') (h' : H' a ≠ none) : Ok (z.at c) (X.or a) H0 H' σ env := by
  have na : ∀ {b u}, H b = some u → b ≠ a := fun {b u} q => ne_of_none q ha
  have ms : ∀ b, Ms z (X.or a) σ env b → Ms z X σ env b ∨ b = a := by
    rintro b (h | (h | h) | h)
    · exact .inl (.inl h)
    · exact .inl (.inr (.inl h))
    · exact .inr h
    · exact .inl (.inr (.inr h))
  have old : ∀ b u, H b = some u → ¬ Ms z X σ env b → H' b = some u ∧ ¬ Ms z (X.or a) σ env b := fun b u q n => ⟨e.old b u q fun y => n (.inl y), fun y => (ms b y).elim n (na q)⟩
  have og := o.goC e
  refine ⟨o.len, og.evo, og.zal, fun b h => ?_, fun i d h => ?_, fun i d h => ?_, o.inj, og.tab⟩
  · rcases h with h | h
    · exact ⟨e.al b (o.xal b h).1, (o.xal b h).2⟩
    · rw [h]; exact ⟨h', fun q => o.zal a q ha⟩
  · obtain ⟨v, h1, h2⟩ := o.val i d h
    exact ⟨v, h1, h2.at old e.ok⟩
  · obtain ⟨b, h1, h2, h3, h4, h5⟩ := o.own i d h
    obtain ⟨u, hu⟩ := h2.some
    exact ⟨b, h1, h2.at (fun u q => e.old b u q h3) old e.ok, h3, fun q => q.elim h4 (na hu), h5⟩
theorem rec_lc {wi : TI} {pi : PIt} {js vs : List Nat} {g : TG} {pg : PGt} {tt : TT} {pt : PTs'} {te : TE} {pe : PX} {ni n : Nat} (hi : RIc ni wi pi) (hg : RG js g pg) (hj : ∀ i ∈ js, i ∈ vs) (ht : RT tt pt) (he : REc n .e te pe) : REc (ni + 100000 * n) .f (tLc wi g tt te vs) (eLcC vs pi pg pt pe) := fun z X H0 H σ env Q k o lv w c hp => by
  refine hi z X H0 H σ env _ _ o lv (by omega) (fun c1 ds J H1 hc1 e1 yl hx => ?_) hp
  have w1 : (z.at c1).ct = c1 := rfl
  obtain ⟨hn, hdl, hx⟩ := hx
  have o1 := o.goC e1
  have hmul : ∀ i : Nat, i ≤ ds.length → i * n ≤ 100000 * n := fun i h => Nat.mul_le_mul_right n (Nat.le_trans h hdl)
  intro Da hD
  have hzD : ¬ z.Z Da := fun q => o1.zal Da q hD
  refine ⟨fun i mm H' => mm = ds.length - i ∧ i ≤ ds.length ∧ ∃ cc accV accD, cc ≤ c1 + i * n ∧ EvoC (z.at c1) cc H1 H' ∧ H' Da = some (.lst accV) ∧ IsA (z.at cc) (Ms z (X.or Da) σ env) H' accV accD ∧ lcP pg pt pe (wipeE env vs) (ds.drop i) accD fun r => k (.lst r),
    ⟨ds.length, by simp, Nat.zero_le _, c1, [], [], by omega, ((Evo.refl (z.at c1) H1).new hD).toC e1.live, upd_same, .nil, by simpa using hx⟩, ?_⟩
  rintro i mm H' ⟨rfl, hil, cc, accV, accD, hcc, e', hacc, hA, hk⟩
  have oL : Ok (z.at cc) (X.or Da) H0 H' σ env := Ok.lockC (z := z.at c1) o1 hD e' (by rw [hacc]; intro q; cases q)
  have ms2 : ∀ b, Ms z (X.or Da) σ env b → Ms z X σ env b ∨ b = Da := by
    rintro b (h | (h | h) | h)
    · exact .inl (.inl h)
    · exact .inl (.inr (.inl h))
    · exact .inr h
    · exact .inl (.inr (.inr h))
  have fr : FrC (z.at c1) cc X (Ms z X σ env) H1 (Ms z (X.or Da) σ env) H' := ⟨fun b u q nn => ⟨e'.old b u q fun y => nn (.inl y), fun y => (ms2 b y).elim nn (ne_of_none q hD)⟩, e'.al, e'.live⟩
  obtain ⟨y1, y2⟩ := yl _ _ _ fr
  have hm1 := hmul i hil
  by_cases hlt : i < ds.length
  · obtain ⟨go, y3⟩ := y2 i ds[i] (List.getElem?_eq_getElem hlt)
    have hm2 := hmul (i + 1) hlt
    rw [Nat.succ_mul] at hm2
    have wc : (z.at cc).ct = cc := rfl
    rw [List.drop_eq_getElem_cons hlt] at hk
    refine .inr ⟨go, fun H2 => ∃ cc accV accD, cc ≤ c1 + (i + 1) * n ∧ EvoC (z.at c1) cc H1 H2 ∧ H2 Da = some (.lst accV) ∧ IsA (z.at cc) (Ms z (X.or Da) σ env) H2 accV accD ∧ lcP pg pt pe (wipeE env vs) (ds.drop (i + 1)) accD fun r => k (.lst r), fun H2 h2 => ⟨ds.length - (i + 1), by omega, rfl, hlt, h2⟩, fun x H2 hy => ?_⟩
    obtain ⟨e2, is⟩ := y3 x H2 hy
    have oL2 := oL.go e2
    have l2 : (z.at cc).live H2 := e2.dk _ e'.live
    obtain ⟨oW, sub⟩ := oL2.wipe (vs := vs)
    refine hg (z.at cc) (X.or Da) H0 H2 _ _ x _ _ _ oW ((is (fun a q => .inl q) (fun b q => oL.notMs q)).weak sub) (fun env3 σ3 o3 f3 kp hx3 => ⟨wipe_eq kp hj, ?_⟩) hk
    refine ht (z.at cc) (X.or Da) H0 H2 σ3 env3 _ _ o3 (fun b H3 e3 hx4 => ?_) hx3
    have l3 : (z.at cc).live H3 := e3.dk _ l2
    have e13 : EvoC (z.at c1) cc H1 H3 := e'.trans (c' := cc) ((e2.trans e3).toC (z := z.at cc) e'.live)
    have acc3 : H3 Da = some (.lst accV) := e3.old _ _ (e2.old _ _ hacc hzD) hzD
    have A3 : IsA (z.at cc) (Ms z (X.or Da) σ env) H3 accV accD := IsA.evo (z := z.at cc) (fun _ q => .inl q) (e2.trans e3) hA
    cases b with
    | false =>
      rw [if_neg Bool.false_ne_true]
      exact ⟨cc, accV, accD, by rw [Nat.succ_mul]; omega, e13, acc3, A3, hx4⟩
    | true =>
      rw [if_pos rfl]
      refine he (z.at cc) (X.or Da) H0 H3 σ3 env3 _ _ (o3.go e3) l3 (by omega) (fun c4 r y H4 hc4 e4 r4 hx5 => ?_) hx4
      have e14 : EvoC (z.at c1) c4 H1 H4 := e13.trans e4
      refine ⟨accV, e4.old _ _ acc3 hzD, by rw [hA.length]; exact szl hx5.1, c4, accV ++ [y], accD ++ [r], by rw [Nat.succ_mul]; omega, ?_, upd_same, ?_, hx5.2⟩
      · have em : Evo (z.at c4) H1 (upd H4 Da (.lst (accV ++ [y]))) := (EvoC.evo e14).mut hD hzD
        exact ⟨em.old, em.al, em.tab, ok_mut (z := z.at c4) hzD e14.live⟩
      have ir : Is (z.at c4) (Ms z (X.or Da) σ env) H4 y r := Is.weak (ms_in hn hj kp) r4
      refine ((IsA.goC (z := z.at cc) (fun _ q => .inl q) e4 A3).append (.cons ir .nil)).gen (fun b u q nn => ⟨?_, nn⟩) fun b hb => ok_mut (z := z.at c4) hzD hb
      rw [upd_ne (fun w => nn (by rw [w]; exact .inr (.inl (.inr rfl))))]
      exact q
  · have ei : i = ds.length := by omega
    subst ei
    rw [List.drop_length] at hk
    exact .inl ⟨y1, c cc (.lst accD) (.ref Da) H' (by omega) (e1.trans e') ⟨Da, rfl, e1.fresh hD, accV, hacc, hA⟩ hk⟩
section
variable {C : Cx} {fr : Bool} {elt tg iter : Expr} {ifs : List Expr} {scope : Scope} {own : List (Str × Nat)} {pos : Pos} {pi : PIt} {js : List Nat} {g : TG} {pg : PGt} {pt : PTs'} {pe : PX} {ni n : Nat}
def tPc (n : Nat) (m : Mode) (p : PX) : TE := fun σ H Q => ∃ z X H0 env k, Ok z X H0 H σ env ∧ z.live H ∧ z.ct + n ≤ lim ∧ (∀ c d v H', c ≤ z.ct + n → EvoC z c H H' → Rel m (z.at c) X H H' σ env v d → k d → Q v H') ∧ p env k
theorem rec_tP {n : Nat} {m : Mode} {p : PX} : REc n m (tPc n m p) p := fun z X H0 H σ env Q k o lv w c hp => ⟨z, X, H0, env, k, o, lv, w, c, hp⟩
theorem Ec.pec {n : Nat} {m : Mode} {e : Expr} {p : PX} (h : Ec n m C e p) : PE C e (tPc n m p) := by
  obtain ⟨t, h1, h2⟩ := h
  exact ⟨fun pins s σ H Q I ⟨z, X, H0, env, k, o, lv, w, c, hp⟩ => h1.run pins s σ H Q I (h2 z X H0 H σ env Q k o lv w c hp)⟩
theorem ec_lc (hi : Ic ni C tg iter pi) (hg : ∀ (s : Shared) (H : Hp) (Ca : Addr) (cl : List (Str × Addr)) (fp : List Addr), G (C.blk s H scope (compEnvC scope cl Ca C.env) fp) tg js g pg) (ht : ∀ (s : Shared) (H : Hp) (Ca : Addr) (cl : List (Str × Addr)) (fp : List Addr), Ts (C.blk s H scope (compEnvC scope cl Ca C.env) fp) ifs pt)
    (he : ∀ (s : Shared) (H : Hp) (Ca : Addr) (cl : List (Str × Addr)) (fp : List Addr), Ec n .e (C.blk s H scope (compEnvC scope cl Ca C.env) fp) elt pe) (hc : C.calm = true) (hN : C.N.Nodup) (ok : BlkOk C.N C.env.scope scope own) (hj : ∀ i ∈ js, i ∈ own.map (·.2)) (rg : RG js g pg) (hs : ∀ x, foldedSetIterable iter C.env x = pure x := by intro _; rfl) :
    Ec (ni + 100000 * n) .f C (.ListComp elt [⟨tg, iter, ifs, 0⟩] scope pos) (eLcC (own.map (·.2)) pi pg pt pe) := by
  obtain ⟨wi, i1, i2⟩ := hi
  exact ⟨_, pe_lc hc hN i1 ok (fun s H Ca cl fp => (hg s H Ca cl fp).pg) (fun s H Ca cl fp => (ht s H Ca cl fp).ex) (fun s H Ca cl fp => (he s H Ca cl fp).pec) hs, rec_lc i2 rg hj rt_tP rec_tP⟩
theorem rsc_own {i : Nat} {t : TE} {n : Nat} (h : REc n .f t pe) : RSc n fr (tAsg t (gName i)) (sOwn i pe) := fun z X H0 H σ env G k B o lv w wl s hp => h z X H0 H σ env _ _ o lv (by omega) (fun c d v H1 hc e1 r1 hx => by
  obtain ⟨a, rfl, ha, hcn⟩ := r1
  obtain ⟨o2, f2⟩ := o.takeC hx.1 e1 ha hcn
  exact s.nx c _ _ H1 hc o2 f2 hx.2) hp
theorem rsc_set {i : Nat} {t : TE} {n : Nat} (h : REc n .e t pe) : RSc n fr (tAsg t (gName i)) (sSet i pe) := fun z X H0 H σ env G k B o lv w wl s hp => h z X H0 H σ env _ _ o lv (by omega) (fun c d v H1 hc e1 r1 hx => by
  obtain ⟨o2, f2⟩ := (o.goC e1).set (i := i) (show Is (z.at c) _ H1 v d from r1)
  exact s.nx c _ _ H1 hc o2 ((o.frC e1).trans (f2.toC (z := z.at c) e1.live)) hx) hp
theorem REc.fe' {t : TE} {p : PX} {n : Nat} (h : REc n .f t p) : REc n .e t p := fun z X H0 H σ env Q k o lv w c hp => h z X H0 H σ env Q k o lv w (fun c1 d v H' hc ev r kd => c c1 d v H' hc ev (Rel.feC o r) kd) hp
theorem sc_ownLc {i : Nat} {y : Str} {py spos : Pos} (hi : Ic ni C tg iter pi) (hg : ∀ (s : Shared) (H : Hp) (Ca : Addr) (cl : List (Str × Addr)) (fp : List Addr), G (C.blk s H scope (compEnvC scope cl Ca C.env) fp) tg js g pg) (ht : ∀ (s : Shared) (H : Hp) (Ca : Addr) (cl : List (Str × Addr)) (fp : List Addr), Ts (C.blk s H scope (compEnvC scope cl Ca C.env) fp) ifs pt)
    (he : ∀ (s : Shared) (H : Hp) (Ca : Addr) (cl : List (Str × Addr)) (fp : List Addr), Ec n .e (C.blk s H scope (compEnvC scope cl Ca C.env) fp) elt pe) (hc : C.calm = true) (hN : C.N.Nodup) (hy : C.N[i]? = some y) (hyl : C.env.scope.names.lookup y = some .local)
    (hsw : swapsWith (.ListComp elt [⟨tg, iter, ifs, 0⟩] scope pos) (some (.Name y py)) spos.line C.env = pure true) (ok : BlkOk C.N C.env.scope scope own) (hj : ∀ i ∈ js, i ∈ own.map (·.2)) (rg : RG js g pg) (hs : ∀ x, foldedSetIterable iter C.env x = pure x := by intro _; rfl) :
    Sc (ni + 100000 * n) fr C (.Assign [.Name y py] (.ListComp elt [⟨tg, iter, ifs, 0⟩] scope pos) spos) (sOwn i (eLcC (own.map (·.2)) pi pg pt pe)) := by
  obtain ⟨wi, i1, i2⟩ := hi
  exact ⟨_, ps_setLc hc hN hy hyl hsw i1 ok (fun s H Ca cl fp => (hg s H Ca cl fp).pg) (fun s H Ca cl fp => (ht s H Ca cl fp).ex) (fun s H Ca cl fp => (he s H Ca cl fp).pec) hs, rsc_own (rec_lc i2 rg hj rt_tP rec_tP)⟩
theorem sc_setLc {i : Nat} {y : Str} {py spos : Pos} (hi : Ic ni C tg iter pi) (hg : ∀ (s : Shared) (H : Hp) (Ca : Addr) (cl : List (Str × Addr)) (fp : List Addr), G (C.blk s H scope (compEnvC scope cl Ca C.env) fp) tg js g pg) (ht : ∀ (s : Shared) (H : Hp) (Ca : Addr) (cl : List (Str × Addr)) (fp : List Addr), Ts (C.blk s H scope (compEnvC scope cl Ca C.env) fp) ifs pt)
    (he : ∀ (s : Shared) (H : Hp) (Ca : Addr) (cl : List (Str × Addr)) (fp : List Addr), Ec n .e (C.blk s H scope (compEnvC scope cl Ca C.env) fp) elt pe) (hc : C.calm = true) (hN : C.N.Nodup) (hy : C.N[i]? = some y) (hyl : C.env.scope.names.lookup y = some .local)
    (hsw : swapsWith (.ListComp elt [⟨tg, iter, ifs, 0⟩] scope pos) (some (.Name y py)) spos.line C.env = pure true) (ok : BlkOk C.N C.env.scope scope own) (hj : ∀ i ∈ js, i ∈ own.map (·.2)) (rg : RG js g pg) (hs : ∀ x, foldedSetIterable iter C.env x = pure x := by intro _; rfl) :
    Sc (ni + 100000 * n) fr C (.Assign [.Name y py] (.ListComp elt [⟨tg, iter, ifs, 0⟩] scope pos) spos) (sSet i (eLcC (own.map (·.2)) pi pg pt pe)) := by
  obtain ⟨wi, i1, i2⟩ := hi
  exact ⟨_, ps_setLc hc hN hy hyl hsw i1 ok (fun s H Ca cl fp => (hg s H Ca cl fp).pg) (fun s H Ca cl fp => (ht s H Ca cl fp).ex) (fun s H Ca cl fp => (he s H Ca cl fp).pec) hs, rsc_set (REc.fe' (rec_lc i2 rg hj rt_tP rec_tP))⟩
end
section
variable {C : Cx} {tg e : Expr} {pos pp : Pos} {n : Nat}
theorem ic_range2 {a b : Expr} {p : PAs} {l : Bool} (ha : Ac n l C [a, b] p) (hg : Gl C "range") (hm : C.mg "range" = none) (hs : starEach [a, b] C.env = [(false, eval a C.env), (false, eval b C.env)] := by rfl) (hs2 : starEach [b] C.env = [(false, eval b C.env)] := by rfl) : Ic n C tg (.Call (.Name "range" pp) [a, b] [] pos) (iRange2 p) := by
  obtain ⟨t, h1, h2⟩ := ha
  refine ⟨_, pi_range2 hg hm h1 hs hs2, fun z X H0 H σ env R k o lv w c hp => h2 z X H0 H σ env _ _ o lv w (fun c1 ds vs H1 hc1 e1 r1 hx => ?_) hp⟩
  unfold rgK2 at hx
  split at hx
  · rename_i i j
    cases IsA.ints (ns := [_, _]) r1
    exact ⟨i, j, rfl, by omega, c c1 _ _ H1 hc1 e1 ylc_rng hx.2⟩
  · exact hx.elim
end
/-- % by any divisor but 0 -/
abbrev dModN := dII (fun _ j => j ≠ 0) fun i j => .int (i.fmod j)
theorem opd_modN : OpD .b .e (rI (fun _ j => j ≠ 0) fun i j => .int (i.fmod j)) dModN := opd_II fun i j _ _ _ => .int _
theorem dModN_i {i j : Int} {k : D → Prop} (c : j ≠ 0) (h : k (.int (i.fmod j))) : dModN (.int i) (.int j) k := ⟨c, h⟩
/-- a, b, .. = a list -/
def gtLst (n : Nat) (q : PGs') : PGt := fun d env k => match d with
  | .lst ds => ds.length = n ∧ q ds env k
  | _ => False
theorem gtLst_i {ds : List D} {n : Nat} {env : List SV} {k : List SV → Prop} {gs : PGs'} (hn : ds.length = n) (h : gs ds env k) : gtLst n gs (.lst ds) env k := ⟨hn, h⟩
section
variable {C : Cx} {pos : Pos}
theorem g_lst {es : List Expr} {js : List Nat} {kk : Nat} {gs : TGs} {q : PGs'} {n : Nat} (hc : C.calm = true) (h : Gs C es js gs q)
    (hn : (assignEach es C.env).length = n := by rfl) (hst : (assignEach es C.env).findIdx? (·.1) = none := by rfl) : G C (.Tuple es kk pos) js (gLst C.K n gs) (gtLst n q) :=
  ⟨pg_lst hc h.pg hn hst, fun z X H0 H σ env v d Q k o hv c hp => by
    cases hv with
    | lst e nn r => exact ⟨_, _, rfl, SqL.of e, by rw [r.length]; exact hp.1, h.rg z X H0 H σ env _ _ _ _ o r c hp.2⟩
    | _ => exact (show False from hp).elim⟩
end
end Pu

namespace Pu
open PySem PySem.Spec PyProof.Rows L2
variable [Tbs]
theorem sq_keep {K : PySem.W.Frag} {H H' : Hp} {a : Addr} {xs : List V} (h : SqL K H a xs) (k : ∀ o, H a = some o → (∀ ps, o ≠ .tbl ps) → H' a = some o) : SqL K H' a xs := by
  rcases h with h | h
  · refine .inl ?_
    rcases h with h | ⟨u, h⟩
    · exact .inl (k _ h (fun _ q => by cases q))
    · exact .inr ⟨u, k _ h (fun _ q => by cases q)⟩
  · exact .inr h
/-- one turn of a law over wells: the well stands new at w, in slot 2 -/
theorem turn_ok {n : Nat} {p : PSt} (hn : n ≤ lim) {K : PySem.W.Frag} {M : Nat} {a w : Addr} {i : Int} {H1 : Hp} {xs : List V} {g s : Int} {σ : Sl} {G : Ends} (hl : σ.length = M + 3) (h0 : σ[0]? = some (some (.ref a))) (h1 : σ[1]? = some (some (.int i))) (h2 : σ[2]? = some (some (.ref w)))
    (hw : H1 w = none) (hT : Tabs H1) (hS : SqL K H1 a xs)
    (hp : p (SV.val (.opq a) :: SV.val (.int i) :: SV.val (.deck 8) :: List.replicate M SV.no) { nx := fun env => env[0]? = some (.val (.opq a)) ∧ env.length = M + 3, rt := fun _ => False })
    (k : ∀ σ' H', σ'.length = M + 3 → σ'[0]? = some (some (.ref a)) → SqL K H' a xs → Tabs H' → G.nx σ' H') : tPSc n false p G σ (upd H1 w (.lst [.int g, .int s, .int 0])) := by
  let z : Zn := ⟨w, w, 8, Option.none, 0⟩
  have e0 : upd H1 w (.lst [.int g, .int s, .int 0]) w = some (.lst [.int g, .int s, .int 0]) := upd_same
  have hd : DkF 8 (upd H1 w (.lst [.int g, .int s, .int 0])) w w := ⟨s, 0, g, [g, s, 0], e0, e0, trivial⟩
  have lv : z.live (upd H1 w (.lst [.int g, .int s, .int 0])) := ⟨rfl, (by decide : (8 : Nat) ≠ 0), hd, ⟨g, s, e0⟩⟩
  have hT2 : Tabs (upd H1 w (.lst [.int g, .int s, .int 0])) := hT.new hw
  have zal : ∀ b, z.Z b → upd H1 w (.lst [.int g, .int s, .int 0]) b ≠ none := fun b q => by
    rcases q with ⟨_, q | q⟩ | q
    · rw [q]; exact hd.al.1
    · rw [q]; exact hd.al.2
    · exact hT2.at q
  have hrep : ∀ (j : Nat) (d : SV), (SV.val (.opq a) :: SV.val (.int i) :: SV.val (.deck 8) :: List.replicate M SV.no)[j]? = some d → d = .no ∨ (j = 0 ∧ d = .val (.opq a)) ∨ (j = 1 ∧ d = .val (.int i)) ∨ (j = 2 ∧ d = .val (.deck 8)) := fun j d h => by
    match j, h with
    | 0, h => simp at h; exact .inr (.inl ⟨rfl, h.symm⟩)
    | 1, h => simp at h; exact .inr (.inr (.inl ⟨rfl, h.symm⟩))
    | 2, h => simp at h; exact .inr (.inr (.inr ⟨rfl, h.symm⟩))
    | j + 3, h =>
      simp only [List.getElem?_cons_succ, List.getElem?_replicate] at h
      split at h
      · cases h; exact .inl rfl
      · cases h
  have o : Ok z (fun _ => False) (upd H1 w (.lst [.int g, .int s, .int 0])) (upd H1 w (.lst [.int g, .int s, .int 0])) σ (SV.val (.opq a) :: SV.val (.int i) :: SV.val (.deck 8) :: List.replicate M SV.no) := by
    refine ⟨by simp [hl], Evo.refl _ _, zal, fun _ q => q.elim, fun j d h => ?_, fun j d h => ?_, fun j l b d e h _ _ _ => ?_, hT2⟩
    · rcases hrep j _ h with q | ⟨rfl, q⟩ | ⟨rfl, q⟩ | ⟨rfl, q⟩
      · cases q
      · cases q
        exact ⟨_, h0, .opq a⟩
      · cases q
        exact ⟨_, h1, .int i⟩
      · cases q
        exact ⟨_, h2, Is.deck (z := z) lv⟩
    · rcases hrep j _ h with q | ⟨rfl, q⟩ | ⟨rfl, q⟩ | ⟨rfl, q⟩ <;> cases q
    · rcases hrep j _ h with q | ⟨rfl, q⟩ | ⟨rfl, q⟩ | ⟨rfl, q⟩ <;> cases q
  refine ⟨z, fun _ => False, upd H1 w (.lst [.int g, .int s, .int 0]), _, _, n, o, lv, by show 0 + n ≤ n; omega, hn, ⟨fun c env' σ' H' hc o' f' hx => ?_, fun _ _ _ _ _ _ _ _ _ q => (show False from q).elim, fun _ _ _ _ _ _ _ q => (show False from q).elim, fun _ _ _ _ _ _ _ q => (show False from q).elim⟩, hp⟩
  obtain ⟨v, v1, v2⟩ := o'.val 0 _ hx.1
  cases v2
  have hl' := o'.len
  refine k σ' H' ?_ v1 (sq_keep hS fun u q nt => ?_) o'.tab
  · rw [hl', hx.2]
  · have na : a ≠ w := fun q2 => by rw [q2, hw] at q; cases q
    refine o'.evo.old a u (by rw [upd_ne na]; exact q) ?_
    rintro (⟨_, q2 | q2⟩ | q2)
    · exact na q2
    · exact na q2
    · obtain ⟨ps, e, _⟩ := hT a q2
      rw [q] at e
      cases e
      exact nt ps rfl
/-! ### a while without draws, in a def that draws -/
theorem whileN_nt {c : PTs'} {p : PSt} (hp : ∀ (env : List SV) (k1 k2 : PK'), k1.nx = k2.nx → p env k1 = p env k2) (k1 k2 : PK') (e : k1.nx = k2.nx) : ∀ n, whileN c p k1 n = whileN c p k2 n
  | 0 => rfl
  | n + 1 => by
    funext env
    show (c env fun b => if b = true then p env { nx := whileN c p k1 n, rt := k1.rt, bk := k1.nx, ct := whileN c p k1 n } else k1.nx env) = (c env fun b => if b = true then p env { nx := whileN c p k2 n, rt := k2.rt, bk := k2.nx, ct := whileN c p k2 n } else k2.nx env)
    congr 1
    funext b
    rw [hp env { nx := whileN c p k1 n, rt := k1.rt, bk := k1.nx, ct := whileN c p k1 n } { nx := whileN c p k2 n, rt := k2.rt, bk := k2.nx, ct := whileN c p k2 n } (whileN_nt hp k1 k2 e n), e]
theorem nt_set {i : Nat} {q : PX} (env : List SV) (k1 k2 : PK') (e : k1.nx = k2.nx) : sSet i q env k1 = sSet i q env k2 := by
  show (q env fun d => k1.nx (env.set i (.val d))) = (q env fun d => k2.nx (env.set i (.val d)))
  rw [e]
section
variable {C : Cx} {fr : Bool} {st : Stmt} {c : PTs'} {p : PSt}
theorem S.cdW (h : S fr C st (sWhile c p)) (hp : ∀ (env : List SV) (k1 k2 : PK'), k1.nx = k2.nx → p env k1 = p env k2) : Sc 0 fr C st (sWhile c p) :=
  S.cd h fun env k hw => by
    obtain ⟨n, hw⟩ := hw
    have e := whileN_nt (c := c) hp k { nx := k.nx, rt := fun _ => False, bk := fun _ => False, ct := fun _ => False, re := fun _ _ => False } rfl n
    exact ⟨n, by rw [← e]; exact hw⟩
end
end Pu

namespace Pu
open PySem PySem.Spec PyProof.Rows L2
variable [Tbs]
/-! ### dicts by whole numbers that are walked: changed no more, their object known -/
def keysZ (ds : List (Int × Int)) : List D := ds.map fun p => .int p.1
def valZ (ds : List (Int × Int)) (n : Int) : Option Int := (ds.find? fun p => decide (p.1 = n)).map (·.2)
/-- as an owned dict -/
def zD (ds : List (Int × Int)) : List (Key × D) := ds.map fun p => (Sum.inl p.1, D.int p.2)
theorem valV_dz : ∀ (ds : List (Int × Int)) (n : Int), valV (dzV ds) (Sum.inl n : Key) = (valZ ds n).map V.int
  | [], n => rfl
  | p :: ds, n => by
    have ih := valV_dz ds n
    unfold valV dzV valZ at ih ⊢
    rw [List.map_cons, List.find?_cons, List.find?_cons]
    by_cases e : p.1 = n
    · have e1 : decide ((Sum.inl p.1 : Key) = Sum.inl n) = true := decide_eq_true (by rw [e])
      have e2 : decide (p.1 = n) = true := decide_eq_true e
      simp only [e1, e2]
      rfl
    · have e1 : decide ((Sum.inl p.1 : Key) = Sum.inl n) = false := decide_eq_false fun q => e (by cases q; rfl)
      have e2 : decide (p.1 = n) = false := decide_eq_false e
      simp only [e1, e2]
      exact ih
theorem isk_dz {z : Zn} {M : AP} {H : Hp} : ∀ {vs : List (Key × V)} {ds : List (Int × Int)}, IsK z M H vs (zD ds) → vs = dzV ds
  | _, [], .nil => rfl
  | _, p :: ds, .cons h t => by
    cases h
    rw [isk_dz (ds := ds) t]
    rfl
section
variable {z : Zn} {X : AP} {H0 H : Hp} {σ : Sl} {env : List SV}
theorem yl_dfz {M : AP} {a : Addr} {o : Obj} {ds : List (Int × Int)} (h : H a = some (.frz o (.dK (dzV ds)))) (n : ¬ M a) : Yields z X M H (Itk a o (dzV ds)) (keysZ ds) := fun M' H' f => by
  have h' := (f.old a _ h n).1
  refine ⟨⟨h', by simp [keysZ, dzV]⟩, fun i d hd => ?_⟩
  unfold keysZ at hd
  rw [List.getElem?_map] at hd
  cases hp : ds[i]? with
  | none => rw [hp] at hd; cases hd
  | some p =>
    rw [hp] at hd
    cases hd
    refine ⟨⟨h', by unfold dzV; rw [List.length_map]; exact (List.getElem?_eq_some_iff.mp hp).1⟩, fun x H2 y => ?_⟩
    obtain ⟨rfl, k, v, hk, rfl⟩ := y
    refine ⟨Evo.refl _ _, fun _ _ => ?_⟩
    unfold dzV at hk
    rw [List.getElem?_map, hp] at hk
    cases hk
    exact Is.int _
/-- what a slot owns, a dict, is changed no more -/
theorem Ok.fz (o : Ok z X H0 H σ env) {i : Nat} {a : Addr} {od : Obj} {ds : List (Int × Int)} (hd : env[i]? = some (.own (.dic (zD ds)))) (ha : σ[i]? = some (some (V.ref a))) :
    Ok z X H0 (upd H a (.frz od (.dK (dzV ds)))) σ (env.set i (.val (.dfz ds))) ∧ Fr z X (Ms z X σ env) H (Ms z X σ (env.set i (.val (.dfz ds)))) (upd H a (.frz od (.dK (dzV ds)))) := by
  have hl : i < env.length := (List.getElem?_eq_some_iff.mp hd).1
  obtain ⟨a', ha', hc, hz, hx, h0⟩ := o.own i _ hd
  obtain rfl : a' = a := by rw [ha] at ha'; cases ha'; rfl
  have ia : Ms z X σ env a' := .inr (.inr ⟨i, _, hd, ha⟩)
  have sub : ∀ b, Ms z X σ (env.set i (.val (.dfz ds))) b → Ms z X σ env b ∧ b ≠ a' := by
    rintro b (h | h | ⟨j, e, h1, h2⟩)
    · exact ⟨.inl h, fun q => hz (by rw [← q]; exact h)⟩
    · exact ⟨.inr (.inl h), fun q => hx (by rw [← q]; exact h)⟩
    · obtain ⟨hj, h1⟩ := set_own h1
      refine ⟨.inr (.inr ⟨j, e, h1, h2⟩), fun q => hj ?_⟩
      rw [q] at h2
      exact o.inj j i a' e _ h1 hd h2 ha
  have old : ∀ b u, H b = some u → ¬ Ms z X σ env b → upd H a' (.frz od (.dK (dzV ds))) b = some u ∧ ¬ Ms z X σ (env.set i (.val (.dfz ds))) b := fun b u q n =>
    ⟨by rw [upd_ne (fun w => n (by rw [w]; exact ia))]; exact q, fun y => n (sub b y).1⟩
  have al : ∀ b, H b ≠ none → upd H a' (.frz od (.dK (dzV ds))) b ≠ none := fun b q => by
    by_cases e : b = a'
    · rw [e, upd_same]; intro w; cases w
    · rw [upd_ne e]; exact q
  refine ⟨⟨by simp [o.len], o.evo.mut h0 hz, fun b h => al b (o.zal b h), fun b h => ⟨al b (o.xal b h).1, (o.xal b h).2⟩, fun j e h => ?_, fun j e h => ?_, fun j l b e f h1 h2 h3 h4 => ?_, o.tab.mut hz⟩, ⟨old, fun b hb => ok_mut hz hb, al⟩⟩
  · by_cases hj : i = j
    · subst hj
      rw [List.getElem?_set_self hl] at h
      cases h
      exact ⟨_, ha, .dfz upd_same fun q => (sub a' q).2 rfl⟩
    · rw [List.getElem?_set_ne hj] at h
      obtain ⟨v, h1, h2⟩ := o.val j e h
      exact ⟨v, h1, h2.gen old fun b hb => ok_mut hz hb⟩
  · obtain ⟨hj, h⟩ := set_own h
    obtain ⟨b, h1, h2, h3⟩ := o.own j e h
    have hb : b ≠ a' := fun q => hj (o.inj j i a' e _ h hd (by rw [← q]; exact h1) ha)
    exact ⟨b, h1, h2.gen (fun u q => by rw [upd_ne hb]; exact q) old fun b hb => ok_mut hz hb, h3⟩
  · exact o.inj j l b e f (set_own h1).2 (set_own h2).2 h3 h4
end
section
variable {C : Cx} {fr : Bool} {m m' : Mode} {tg e a b : Expr} {p q pe : PX} {pos pp : Pos} {n : Nat}
def iDz (p : PX) : PIt := fun env k => p env fun d => match d with
  | .dfz ds => k (keysZ ds)
  | _ => False
theorem i_dz (h : E .e C e pe) : I C tg e (iDz pe) := by
  obtain ⟨t, h1, h2⟩ := h
  refine ⟨_, pi_keys h1, fun z X H0 H σ env R k o c hp => h2 z X H0 H σ env _ _ o (fun d v H1 e1 r1 hx => ?_) hp⟩
  cases (show Is z _ H1 v d from r1) with
  | dfz e n => exact ⟨_, _, rfl, .inl ⟨_, e, c _ _ H1 e1 (yl_dfz e n) hx⟩⟩
  | _ => exact (show False from hx).elim
/-- x[k] -/
def dZget : D → D → (D → Prop) → Prop := fun x y k => match x, y with
  | .dfz ds, .int n => ∃ m, valZ ds n = some m ∧ k (.int m)
  | _, _ => False
theorem e_zget (hu : C.A.units + 1 < cLine) (ha : E .e C a p) (hb : E .c C b q) (hs : NoSl b := by exact fun _ _ => rfl) : E .e C (.Subscript a b pos) (eOp dZget p q) := by
  obtain ⟨ta, a1, a2⟩ := ha
  obtain ⟨tb, b1, b2⟩ := hb
  refine ⟨_, pe_dget hu a1 b1 hs, fun z X H0 H σ env Q k o c hp => a2 z X H0 H σ env _ _ o (fun x v H1 e1 r1 hp1 => b2 z X H0 H1 σ env _ _ (o.go e1) (fun y u H2 e2 r2 hp2 => ?_) hp1) hp⟩
  have r1' := Is.evo (fun _ q => .inl q) e2 (show Is z (Ms z X σ env) H1 v x from r1)
  cases r1' with
  | dfz e n =>
    cases y with
    | int n =>
      obtain ⟨w, hw, hk⟩ := hp2
      cases r2.intC
      exact ⟨_, .int w, rfl, .inl ⟨_, Sum.inl n, .inr ⟨_, e⟩, rfl, by rw [valV_dz, hw]; rfl⟩, c (.int w) _ H2 (e1.trans e2) (.int w) hk⟩
    | _ => exact (show False from hp2).elim
  | _ => exact (show False from hp2).elim
/-- the slot's dict is changed no more -/
def sFz (i : Nat) (p : PSt) : PSt := fun env k => match env[i]? with
  | some (.own (.dic kvs)) => ∃ ds, kvs = zD ds ∧ p (env.set i (.val (.dfz ds))) k
  | _ => False
theorem pss_ghost {sts : List Stmt} {t : TS} (h : PSs C sts t) : PSs C sts fun G σ H => ∃ d u, H d = some u ∧ Mut (some u) ∧ ∀ od, t G σ (upd H d (.frz od u)) := by
  refine ⟨fun pins s σ H D I hw => ?_⟩
  obtain ⟨d, u, hd, mu, hw⟩ := hw
  obtain ⟨od, I1⟩ := I.lock hd mu
  exact h.run pins s σ _ _ I1 (hw od)
theorem pe_ghost {t : TE} (h : PE C e t) : PE C e fun σ H Q => t σ H fun v H' => ∃ d u, v = .ref d ∧ H' d = some u ∧ Mut (some u) ∧ ∀ od, Q v (upd H' d (.frz od u)) := by
  refine ⟨fun pins s σ H Q I hw => ?_⟩
  refine thn (h.run pins s σ H _ I hw) fun v s1 ⟨x, H1, I1, r, d, u, hx, hd, mu, q⟩ => ?_
  obtain ⟨od, I2⟩ := I1.lock hd mu
  exact ⟨x, _, I2, r, q od⟩
theorem b_fz (i : Nat) {sts : List Stmt} {p : PSt} (h : B fr C sts p) : B fr C sts (sFz i p) := by
  obtain ⟨t, h1, h2⟩ := h
  refine ⟨_, pss_ghost h1, fun z X H0 H σ env G k o s hp => ?_⟩
  unfold sFz at hp
  split at hp
  · rename_i kvs hd
    obtain ⟨ds, rfl, hp⟩ := hp
    obtain ⟨a, ha, ⟨vs, e, r⟩, _⟩ := o.own i _ hd
    rw [isk_dz r] at e
    refine ⟨a, _, e, trivial, fun od => ?_⟩
    obtain ⟨o2, f2⟩ := o.fz (od := od) hd ha
    exact h2 z X H0 _ σ _ G k o2 (s.go f2) hp
  · exact hp.elim
theorem bc_fz (i : Nat) {sts : List Stmt} {p : PSt} (h : Bc n fr C sts p) : Bc n fr C sts (sFz i p) := by
  obtain ⟨t, h1, h2⟩ := h
  refine ⟨_, pss_ghost h1, fun z X H0 H σ env G k B o lv w wl s hp => ?_⟩
  unfold sFz at hp
  split at hp
  · rename_i kvs hd
    obtain ⟨ds, rfl, hp⟩ := hp
    obtain ⟨a, ha, ⟨vs, e, r⟩, hz, _⟩ := o.own i _ hd
    rw [isk_dz r] at e
    refine ⟨a, _, e, trivial, fun od => ?_⟩
    obtain ⟨o2, f2⟩ := o.fz (od := od) hd ha
    exact h2 z X H0 _ σ _ G k B o2 (f2.dk _ lv) w wl (s.go (c := z.ct) (f2.toC lv)) hp
  · exact hp.elim
/-- {k: v}, a dict that is changed no more -/
def eDfz1 (p q : PX) : PX := fun env k => p env fun x => q env fun y => match x, y with
  | .int n, .int m => k (.dfz [(n, m)])
  | _, _ => False
theorem e_dfz1 (h : E m C a p) (g : E m' C b q) : E .e C (.Dict [some a] [b] pos) (eDfz1 p q) := by
  obtain ⟨t, h1, h2⟩ := h.toB
  obtain ⟨u, g1, g2⟩ := g.toB
  refine ⟨_, pe_ghost (pe_disp (pps_cons h1 g1 pps_nil) rfl rfl (List.cons_ne_nil _ _) (by show 1 ≤ 15; decide)), fun z X H0 H σ env Q k o c hp => fun r hr => ?_⟩
  have e0 : Evo z H (upd H r (.dK [])) := (Evo.refl _ _).new hr
  have zr : ¬ z.Z r := fun q => o.zal r q hr
  refine h2 z X H0 _ σ env _ _ (o.go e0) (fun x v H1 e1 r1 hx => g2 z X H0 H1 σ env _ _ ((o.go e0).go e1) (fun y v2 H2 e2 r2 hy => ?_) hx) hp
  cases x with
  | int n =>
    cases y with
    | int m =>
      cases Is.intI r1
      cases Is.intI r2
      have st : H2 r = some (.dK []) := e2.old _ _ (e1.old _ _ upd_same zr) zr
      have nm : ¬ Ms z X σ env r := o.notMs hr
      refine ⟨st, [(Sum.inl n, V.int m)], rfl, by show 1 ≤ 15; decide, r, _, rfl, upd_same, trivial, fun od => ?_⟩
      refine c (.dfz [(n, m)]) (.ref r) _ (((e0.trans (e1.trans e2)).mut hr zr).mut hr zr) (.dfz (o := od) upd_same nm) hy
    | _ => exact (show False from hy).elim
  | _ => exact (show False from hy).elim
end
/-! a sum of two lists, a new one of one's own -/
def dAddF : D → D → (D → Prop) → Prop := fun x y k => match x, y with
  | .lst xs, .lst ys => xs.length + ys.length ≤ 100000 ∧ k (.lst (xs ++ ys))
  | _, _ => False
theorem opd_addF {K : PySem.W.Frag} : OpD .c .f (rAddA K) dAddF := fun z X H0 H σ env v u x y Q k o r1 r2 c hp => by
  cases x with
  | lst xs =>
    cases y with
    | lst ys =>
      obtain ⟨a, vs, e1, h1, i1, n1⟩ := r1.conL
      obtain ⟨b, us, e2, h2, i2, n2⟩ := r2.conL
      subst e1 e2
      refine .inr (.inr (.inl ⟨a, b, vs, us, rfl, rfl, h1, h2, sz (by rw [i1.length, i2.length]; exact hp.1), fun q hq => ?_⟩))
      exact c _ _ _ ((Evo.refl _ _).new hq) (Rel.newL hq hq (i1.append i2)) hp.2
    | _ => exact (show False from hp).elim
  | _ => exact (show False from hp).elim
theorem dAddF_i {xs ys : List D} {k : D → Prop} (hl : xs.length + ys.length ≤ 100000) (h : k (.lst (xs ++ ys))) : dAddF (.lst xs) (.lst ys) k := ⟨hl, h⟩
/-! readings -/
theorem iDz_i {p : PX} {env : List SV} {k : List D → Prop} (h : p env fun d => match d with
  | .dfz ds => k (keysZ ds)
  | _ => False) : iDz p env k := h
theorem dZget_i {ds : List (Int × Int)} {n m : Int} {k : D → Prop} (e : valZ ds n = some m) (h : k (.int m)) : dZget (.dfz ds) (.int n) k := ⟨m, e, h⟩
theorem sFz_i {i : Nat} {p : PSt} {env : List SV} {K : PK'} {kvs : List (Key × D)} (e : env[i]? = some (.own (.dic kvs))) (ds : List (Int × Int)) (hk : kvs = zD ds) (h : p (env.set i (.val (.dfz ds))) K) : sFz i p env K := by
  unfold sFz
  rw [e]
  exact ⟨ds, hk, h⟩
theorem eDfz1_i {p q : PX} {env : List SV} {k : D → Prop} (h : p env fun x => q env fun y => match x, y with
  | .int n, .int m => k (.dfz [(n, m)])
  | _, _ => False) : eDfz1 p q env k := h
end Pu

/-! a comprehension, given back, whose elements are popped at a drawn place from a list of the def's own -/
namespace Pu
open PySem PySem.Spec PyProof.Rows L2
variable [Tbs]
def RMKc (n : Nat) (t : TE) (p : PMX) : Prop := ∀ (z : Zn) (X : AP) (H0 H : Hp) (σ : Sl) (env : List SV) (Q : VK) (k : List SV → D → Prop), Ok z X H0 H σ env → z.live H → z.ct + n ≤ lim → (∀ c d v H' env', c ≤ z.ct + n → Ok (z.at c) X H0 H' σ env' → FrC z c X (Ms z X σ env) H (Ms z X σ env') H' → (∀ b, X b → H' b = H b) → Is (z.at c) (Ms z X σ env') H' v d → k env' d → Q v H') → p env k → t σ H Q
structure MKc (n : Nat) (C : Cx) (e : Expr) (p : PMX) : Prop where
  ex : ∃ t, PE C e t ∧ RMKc n t p
theorem mkc_pop {C : Cx} {e : Expr} {p : PX} {m : Mode} {pp : Pos} {n : Nat} (i : Nat) {x : Str} {apos cpos : Pos} (h : Ec n m C e p)
    (hb : ∀ to te, PE C (.Name x pp) to → PE C e te → PE C (.Call (.Attribute (.Name x pp) "pop" apos) [e] [] cpos) (tBM C.K "list" rPopAt to (tCons te tNil)))
    (hN : C.N[i]? = some x := by rfl) (hv : Vis C.env.scope x := by first | exact Or.inl rfl | exact Or.inr (Or.inl rfl) | exact Or.inr (Or.inr rfl)) (hd : (x == ("__debug__" : Str)) = false := by decide)
    (hcd : (x == ("__classdict__" : Str)) = false := by decide) : MKc n C (.Call (.Attribute (.Name x pp) "pop" apos) [e] [] cpos) (mPop i p) := by
  obtain ⟨t, h1, h2⟩ := h.toB
  refine ⟨_, hb _ _ (pe_var hN hv hd hcd) h1, fun z X H0 H σ env Q k o lv w c hp => ?_⟩
  unfold mPop at hp
  split at hp
  · rename_i xs he
    obtain ⟨a, q1, ⟨vs, q5, q6⟩, q3, q4, q7⟩ := o.own i _ he
    refine ⟨_, q1, .inl ⟨rfl, vs, SqL.of q5⟩, h2 z X H0 H σ env _ _ o lv w (fun c1 d v H1 hc e1 r1 hx => ?_) hp⟩
    cases d with
    | int n =>
      cases Is.intI r1
      obtain ⟨hn, jj, yy, g1, g2, hk⟩ := hx
      have o1 := o.goC e1
      have q5' := e1.old a _ q5 q3
      have q6' := IsA.goC (fun _ q => .inl q) e1 q6
      obtain ⟨w, w1, w2⟩ := q6'.get g2
      refine ⟨a, vs, n, jj, w, rfl, rfl, q5', by omega, by omega, by rw [q6.length]; exact g1, w1, ?_⟩
      obtain ⟨o2, f2⟩ := mutL o1 he q1 q3 (q6'.eraseIdx jj)
      refine c c1 _ _ _ _ hc o2 ((o.frC e1).trans (f2.toC (z := z.at c1) e1.live)) (fun b hb => ?_) (f2.is w2) hk
      rw [upd_ne (fun q => q4 (by rw [← q]; exact hb))]
      cases hv : H b with
      | none => exact absurd hv (o.xal b hb).1
      | some u => exact e1.old b u hv (o.xal b hb).2
    | _ => exact (show False from hx).elim
  · exact hp.elim
def mLcC (vs : List Nat) (pi : PIt) (pg : PGt) (pm : PMX) : PMX := fun env k => pi env fun ds => noOwn env vs ∧ ds.length ≤ 100000 ∧ lcM vs pg pm (wipeE env vs) ds [] fun env' r => k env' (.lst r)
def RMXc (n : Nat) (t : TE) (p : PMX) : Prop := ∀ (z : Zn) (X : AP) (H0 H : Hp) (σ : Sl) (env : List SV) (Q : VK) (k : List SV → D → Prop), Ok z X H0 H σ env → z.live H → z.ct + n ≤ lim → (∀ c d v H' env', c ≤ z.ct + n → Ok (z.at c) X H0 H' σ env' → (z.at c).live H' → Is (z.at c) (Ms z X σ env') H' v d → k env' d → Q v H') → p env k → t σ H Q
theorem rmc_lc {wi : TI} {pi : PIt} {js vs : List Nat} {g : TG} {pg : PGt} {tt : TT} {te : TE} {pm : PMX} {ni n : Nat} (hi : RIc ni wi pi) (hg : RG js g pg) (hj : ∀ i ∈ js, i ∈ vs) (ht : RT tt fun _ k => k true) (he : RMKc n te pm) : RMXc (ni + 100000 * n) (tLc wi g tt te vs) (mLcC vs pi pg pm) := fun z X H0 H σ env Q k o lv w c hp => by
  refine hi z X H0 H σ env _ _ o lv (by omega) (fun c1 ds J H1 hc1 e1 yl hx => ?_) hp
  have w1 : (z.at c1).ct = c1 := rfl
  obtain ⟨hn, hdl, hx⟩ := hx
  have o1 := o.goC e1
  have hmul : ∀ i : Nat, i ≤ ds.length → i * n ≤ 100000 * n := fun i h => Nat.mul_le_mul_right n (Nat.le_trans h hdl)
  intro Da hD
  have hzD : ¬ z.Z Da := fun q => o1.zal Da q hD
  have h0D : H0 Da = none := o1.evo.fresh hD
  have ms2 : ∀ {σ' : Sl} {env' : List SV} (b : Addr), Ms z (X.or Da) σ' env' b → Ms z X σ' env' b ∨ b = Da := fun b h => by
    rcases h with h | (h | h) | h
    · exact .inl (.inl h)
    · exact .inl (.inr (.inl h))
    · exact .inr h
    · exact .inl (.inr (.inr h))
  have ev0 : Evo (z.at c1) H1 (upd H1 Da (.lst [])) := (Evo.refl _ _).new hD
  obtain ⟨ow0, sub0⟩ := (o1.lock hD ev0 (by rw [upd_same]; intro q; cases q)).wipe (vs := vs)
  refine ⟨fun i mm H' => mm = ds.length - i ∧ i ≤ ds.length ∧ ∃ cc envw accV accD, cc ≤ c1 + i * n ∧ Ok (z.at cc) (X.or Da) H0 H' (L2.wipe σ vs) envw ∧ (∀ j ∈ vs, envw[j]? = none ∨ envw[j]? = some .no) ∧ FrC (z.at c1) cc X (Ms z X σ env) H1 (Ms z (X.or Da) (L2.wipe σ vs) envw) H' ∧ H' Da = some (.lst accV) ∧ IsA (z.at cc) (Ms z (X.or Da) (L2.wipe σ vs) envw) H' accV accD ∧ lcM vs pg pm envw (ds.drop i) accD fun e r => k e (.lst r),
    ⟨ds.length, by simp, Nat.zero_le _, c1, wipeE env vs, [], [], by omega, ow0, fun j hj' => wipeE_in hj', ⟨fun a u q n => ⟨ev0.old a u q fun y => n (.inl y), fun y => (ms2 a (sub0 a y)).elim n (ne_of_none q hD)⟩, ev0.al, ev0.dk _ e1.live⟩, upd_same, .nil, by simpa using hx⟩, ?_⟩
  rintro i mm H' ⟨rfl, hil, cc, envw, accV, accD, hcc, oL, hwp, fr, hacc, hA, hk⟩
  obtain ⟨y1, y2⟩ := yl _ _ _ fr
  have hm1 := hmul i hil
  have wc : (z.at cc).ct = cc := rfl
  by_cases hlt : i < ds.length
  · obtain ⟨go, y3⟩ := y2 i ds[i] (List.getElem?_eq_getElem hlt)
    have hm2 := hmul (i + 1) hlt
    rw [Nat.succ_mul] at hm2
    rw [List.drop_eq_getElem_cons hlt] at hk
    refine .inr ⟨go, fun H2 => ∃ cc envw accV accD, cc ≤ c1 + (i + 1) * n ∧ Ok (z.at cc) (X.or Da) H0 H2 (L2.wipe σ vs) envw ∧ (∀ j ∈ vs, envw[j]? = none ∨ envw[j]? = some .no) ∧ FrC (z.at c1) cc X (Ms z X σ env) H1 (Ms z (X.or Da) (L2.wipe σ vs) envw) H2 ∧ H2 Da = some (.lst accV) ∧ IsA (z.at cc) (Ms z (X.or Da) (L2.wipe σ vs) envw) H2 accV accD ∧ lcM vs pg pm envw (ds.drop (i + 1)) accD fun e r => k e (.lst r), fun H2 h2 => ⟨ds.length - (i + 1), by omega, rfl, hlt, h2⟩, fun x H2 hy => ?_⟩
    obtain ⟨e2, is⟩ := y3 x H2 hy
    have oL2 := oL.go e2
    have l2 : (z.at cc).live H2 := e2.dk _ fr.live
    refine hg (z.at cc) (X.or Da) H0 H2 _ _ x _ _ _ oL2 (is (fun a q => .inl q) (fun b q => oL.notMs q)) (fun env3 σ3 o3 f3 kp hx3 => ⟨wipe_eq kp hj, ?_⟩) hk
    have l3 : (z.at cc).live H2 := l2
    refine ht (z.at cc) (X.or Da) H0 H2 σ3 env3 _ (fun b => b = true ∧ pm env3 fun env2 y => accD.length ≤ 100000 ∧ lcM vs pg pm (wipeE env2 vs) (ds.drop (i + 1)) (accD ++ [y]) fun e r => k e (.lst r)) o3 (fun b H3 e3 hx4 => ?_) ⟨rfl, hx3⟩
    obtain ⟨hb, hx4⟩ := hx4
    cases b with
    | false => exact absurd hb Bool.false_ne_true
    | true =>
      rw [if_pos rfl]
      refine he (z.at cc) (X.or Da) H0 H3 σ3 env3 _ _ (o3.go e3) (e3.dk _ l2) (by omega) (fun c4 r y H4 env4 hc4 o4 f4 kx is4 hx5 => ?_) hx4
      have acc4 : H4 Da = some (.lst accV) := by
        rw [kx Da (.inr rfl)]
        exact e3.old _ _ (e2.old _ _ hacc hzD) hzD
      obtain ⟨o5, f5⟩ := o4.mutX (a := Da) (u := .lst (accV ++ [y])) (.inr rfl) h0D
      obtain ⟨o6, sub6⟩ := o5.wipe (vs := vs)
      rw [wipe_eq kp hj] at o6 sub6
      have f34 : FrC (z.at cc) c4 (X.or Da) (Ms z (X.or Da) (L2.wipe σ vs) envw) H' (Ms z (X.or Da) σ3 env4) H4 := ((((oL.fr e2).trans f3).trans (o3.fr e3)).toC (z := z.at cc) fr.live).trans f4
      have f36 : FrC (z.at cc) c4 (X.or Da) (Ms z (X.or Da) (L2.wipe σ vs) envw) H' (Ms z (X.or Da) (L2.wipe σ vs) (wipeE env4 vs)) (upd H4 Da (.lst (accV ++ [y]))) := ⟨fun a u q n => by
        obtain ⟨q1, n1⟩ := f34.old a u q n
        obtain ⟨q2, n2⟩ := f5.old a u q1 n1
        exact ⟨q2, fun w => n2 (sub6 a w)⟩, fun a q => f5.al a (f34.al a q), f5.dk _ f34.live⟩
      refine ⟨accV, acc4, by rw [hA.length]; exact szl hx5.1, c4, wipeE env4 vs, accV ++ [y], accD ++ [r], by rw [Nat.succ_mul]; omega, o6, fun j hj' => wipeE_in hj', ⟨fun a u q n => f36.old a u (fr.old a u q n).1 (fr.old a u q n).2, fun a q => f36.al a (fr.al a q), f36.live⟩, upd_same, ?_, hx5.2⟩
      refine (f36.isA hA).append (.cons ?_ .nil)
      exact (f5.is is4).weak sub6
  · have ei : i = ds.length := by omega
    subst ei
    rw [List.drop_length] at hk
    have ow : ∀ {j : Nat} {d : SV}, envw[j]? = some d → d ≠ .no → j ∉ vs := fun {j d} h n hv => by
      rcases hwp j hv with q | q
      · rw [q] at h; cases h
      · rw [q] at h; cases h; exact n rfl
    have msb : ∀ b, Ms z X σ envw b → Ms z (X.or Da) (L2.wipe σ vs) envw b := fun b h => by
      rcases h with h | h | ⟨j, d, h1, h2⟩
      · exact .inl h
      · exact .inr (.inl (.inl h))
      · exact .inr (.inr ⟨j, d, h1, by rw [wipe_out' (ow h1 (fun q => by cases q))]; exact h2⟩)
    have oF : Ok (z.at cc) X H0 H' σ envw := by
      refine ⟨?_, oL.evo, oL.zal, fun a h => oL.xal a (.inl h), fun j d h => ?_, fun j d h => ?_, fun j j' a d e h h' q q' => ?_, oL.tab⟩
      · have := oL.len
        rwa [wipe_length] at this
      · obtain ⟨v, h1, h2⟩ := oL.val j d h
        rw [wipe_out' (ow h (fun q => by cases q))] at h1
        exact ⟨v, h1, h2.weak msb⟩
      · obtain ⟨a, h1, h2, h3, h4, h5⟩ := oL.own j d h
        rw [wipe_out' (ow h (fun q => by cases q))] at h1
        exact ⟨a, h1, h2.gen (fun _ q => q) (fun b u q n => ⟨q, fun w => n (msb b w)⟩) (fun _ q => q), h3, fun q => h4 (.inl q), h5⟩
      · exact oL.inj j j' a d e h h' (by rw [wipe_out' (ow h (fun q => by cases q))]; exact q) (by rw [wipe_out' (ow h' (fun q => by cases q))]; exact q')
    have nD : ¬ Ms z X σ envw Da := fun w => by
      rcases w with w | w | ⟨j, d, h1, h2⟩
      · exact hzD w
      · exact (o1.xal Da w).1 hD
      · obtain ⟨a, q1, q2, q3, q4, q5⟩ := oL.own j d h1
        rw [wipe_out' (ow h1 (fun q => by cases q)), h2] at q1
        cases q1
        exact q4 (.inr rfl)
    exact .inl ⟨y1, c cc (.lst accD) (.ref Da) H' envw (by omega) oF fr.live (.lst hacc nD (hA.weak msb)) hk⟩
def tMKc (n : Nat) (p : PMX) : TE := fun σ H Q => ∃ (z : Zn) (X : AP) (H0 : Hp) (env : List SV) (k : List SV → D → Prop), Ok z X H0 H σ env ∧ z.live H ∧ z.ct + n ≤ lim ∧ (∀ c d v H' env', c ≤ z.ct + n → Ok (z.at c) X H0 H' σ env' → FrC z c X (Ms z X σ env) H (Ms z X σ env') H' → (∀ b, X b → H' b = H b) → Is (z.at c) (Ms z X σ env') H' v d → k env' d → Q v H') ∧ p env k
theorem MKc.pe {C : Cx} {e : Expr} {p : PMX} {n : Nat} (h : MKc n C e p) : PE C e (tMKc n p) := by
  obtain ⟨t, h1, h2⟩ := h
  exact ⟨fun pins s σ H Q I ⟨z, X, H0, env, k, o, lv, w, c, hp⟩ => h1.run pins s σ H Q I (h2 z X H0 H σ env Q k o lv w c hp)⟩
theorem rmk_tMKc {p : PMX} {n : Nat} : RMKc n (tMKc n p) p := fun z X H0 H σ env Q k o lv w c hp => ⟨z, X, H0, env, k, o, lv, w, c, hp⟩
def sRetM (p : PMX) : PSt := fun env k => p env fun _ d => k.rt d
section
variable {C : Cx} {tg iter elt : Expr} {pi : PIt} {js : List Nat} {g : TG} {pg : PGt} {pm : PMX} {scope : Scope} {own : List (Str × Nat)} {pos : Pos} {ni n : Nat}
theorem sc_retLcM {spos : Pos} (hi : Ic ni C tg iter pi) (hg : ∀ (s : Shared) (H : Hp) (Ca : Addr) (cl : List (Str × Addr)) (fp : List Addr), G (C.blk s H scope (compEnvC scope cl Ca C.env) fp) tg js g pg)
    (he : ∀ (s : Shared) (H : Hp) (Ca : Addr) (cl : List (Str × Addr)) (fp : List Addr), MKc n (C.blk s H scope (compEnvC scope cl Ca C.env) fp) elt pm) (hc : C.calm = true) (hN : C.N.Nodup)
    (ok : BlkOk C.N C.env.scope scope own) (hj : ∀ i ∈ js, i ∈ own.map (·.2)) (rg : RG js g pg) (hs : ∀ x, foldedSetIterable iter C.env x = pure x := by intro _; rfl) :
    Sc (ni + 100000 * n) false C (.Return (some (.ListComp elt [⟨tg, iter, [], 0⟩] scope pos)) spos) (sRetM (mLcC (own.map (·.2)) pi pg pm)) := by
  obtain ⟨wi, i1, i2⟩ := hi
  refine ⟨_, ps_ret (pe_lc hc hN i1 ok (fun s H Ca cl fp => (hg s H Ca cl fp).pg) (fun s H Ca cl fp => (ts_nil (C := C.blk s H scope (compEnvC scope cl Ca C.env) fp)).ex) (fun s H Ca cl fp => (he s H Ca cl fp).pe) hs), fun z X H0 H σ env G k B o lv w wl s hp => rmc_lc i2 rg hj rt_tP rmk_tMKc z X H0 H σ env _ _ o lv (by omega) (fun c d v H1 env1 hc1 o1 l1 r1 hx => ?_) hp⟩
  exact s.rt c d v H1 (by omega) o1.evo l1 (r1.weak fun a q => q.elim .inl fun q => .inr (.inl q)) (fun q => Bool.noConfusion q) hx
end
theorem mLcC_i {vs : List Nat} {pi : PIt} {pg : PGt} {pm : PMX} {env : List SV} {k : List SV → D → Prop} (h : pi env fun ds => noOwn env vs ∧ ds.length ≤ 100000 ∧ lcM vs pg pm (wipeE env vs) ds [] fun env' r => k env' (.lst r)) : mLcC vs pi pg pm env k := h
theorem sRetM_i {p : PMX} {env : List SV} {k : PK'} (h : p env fun _ d => k.rt d) : sRetM p env k := h
/-! dict(pairs), whole numbers both -/
def prD (p : Int × Int) : D := .tup [.int p.1, .int p.2]
def mergeD (l : List (Int × Int)) : List (Key × D) := l.foldl (fun acc p => putD acc (.inl p.1) (.int p.2)) []
def gDictP : List D → (D → Prop) → Prop := fun ds k => ∃ l : List (Int × Int), ds = [.lst (l.map prD)] ∧ k (.dic (mergeD l))
theorem isA_prs {z : Zn} {M : AP} {H : Hp} : ∀ {l : List (Int × Int)} {vs : List V}, IsA z M H vs (l.map prD) → ∃ ps : List Addr, vs = ps.map V.ref ∧ ps.length = l.length ∧ ∀ (j : Nat) (a : Addr) (p : Int × Int), ps[j]? = some a → l[j]? = some p → H a = some (.tup [.int p.1, .int p.2])
  | [], _, h => by cases h; exact ⟨[], rfl, rfl, fun j a p q => by cases q⟩
  | (a, b) :: l, _, h => by
    cases h with
    | cons h t =>
      obtain ⟨ps, e1, e2, e3⟩ := isA_prs t
      cases h with
      | tup h1 h2 h3 =>
        cases h3 with
        | cons u h3 => cases h3 with
          | cons w h3 =>
            cases h3; cases u; cases w
            refine ⟨_ :: ps, by rw [e1]; rfl, by simp [e2], fun j c p q r => ?_⟩
            cases j with
            | zero => cases q; cases r; exact h1
            | succ j => exact e3 j c p q r
theorem paired_prs {K : PySem.W.Frag} {H : Hp} : ∀ {l : List (Int × Int)} {ps : List Addr}, ps.length = l.length → (∀ (j : Nat) (a : Addr) (p : Int × Int), ps[j]? = some a → l[j]? = some p → H a = some (.tup [.int p.1, .int p.2])) → Paired (fun p (kv : Key × V) => SqT K H p [kV kv.1, kv.2]) ps (l.map fun p => ((.inl p.1 : Key), V.int p.2))
  | [], [], _, _ => .nil
  | [], _ :: _, h, _ => by cases h
  | _ :: _, [], h, _ => by cases h
  | p :: l, a :: ps, h, g => .cons (SqT.of (g 0 a p rfl rfl)) (paired_prs (Nat.succ.inj h) fun j b q e1 e2 => g (j + 1) b q e1 e2)
theorem isK_merge {z : Zn} {M : AP} {H : Hp} : ∀ (l : List (Int × Int)) {vs : List (Key × V)} {ds : List (Key × D)}, IsK z M H vs ds → IsK z M H ((l.map fun p => ((.inl p.1 : Key), V.int p.2)).foldl (fun acc kv => putK acc kv.1 kv.2) vs) (l.foldl (fun acc p => putD acc (.inl p.1) (.int p.2)) ds)
  | [], _, _, h => h
  | p :: l, _, _, h => isK_merge l (h.put (.int p.2))
theorem cd_dictP {C : Cx} {l : Bool} : CallD l .f (fun xs H Q => ∃ (a : Addr) (ps : List Addr) (kvs : List (Key × V)), xs = [.ref a] ∧ SqL C.K H a (ps.map V.ref) ∧ Paired (fun p (kv : Key × V) => SqT C.K H p [kV kv.1, kv.2]) ps kvs ∧
    ∀ p, H p = none → Q (.ref p) (upd H p (.dK (mergeK [] kvs)))) gDictP := fun z X H0 H σ env vs ds Q k o h c hp => by
  obtain ⟨l, rfl, hk⟩ := hp
  obtain ⟨v, rfl, hv⟩ := h.one
  cases hv with
  | lst h1 h2 h3 =>
    obtain ⟨ps, rfl, e2, e3⟩ := isA_prs h3
    refine ⟨_, ps, l.map fun p => ((.inl p.1 : Key), V.int p.2), rfl, SqL.of h1, paired_prs e2 e3, fun p hpn => ?_⟩
    refine c (.dic (mergeD l)) _ _ ((Evo.refl _ _).new hpn) ⟨p, rfl, hpn, _, upd_same, ?_⟩ hk
    exact isK_merge l .nil
theorem gDictP_i {l : List (Int × Int)} {k : D → Prop} (h : k (.dic (mergeD l))) : gDictP [.lst (l.map prD)] k := ⟨l, rfl, h⟩
end Pu

namespace Pu
open PySem PySem.Spec PyProof.Rows L2
/-! t[::-1] of any tuple, as in PuH, for laws that show nothing -/
section
theorem places_rev0 (n : Nat) : Builtin.Slice.slicePlaces ((n : Int) - 1) (-1) (-1) = n := by
  by_cases hn : 1 ≤ n
  · exact Ew.places_rev n hn
  · obtain rfl : n = 0 := by omega
    rfl
variable {prog : Program} {w : World} {A : Around} {E : Value → Shared → Prop} {s : Shared}
theorem applied_rev0 {sl : Addr} {tk : Tok} {n : Nat} {Q : Int × Int × Nat → Shared → Prop} (hs : s.heap.IsSliceOf sl .none .none (.int (-1) tk))
    (h : Q ((n : Int) - 1, -1, n) s) : wpAny (model prog w) A (Builtin.Slice.sliceApplied (.ref sl) (pure (n : Int))) Q E s := by
  obtain ⟨os, hos, hcs, hds⟩ := id hs
  unfold Builtin.Slice.sliceApplied Builtin.Slice.sliceFields
  refine wpAny_bind (wpAny_bind (wpAny_field hos hds (x := .none) rfl (wpAny_bind (wpAny_field hos hds (x := .none) rfl (wpAny_bind (wpAny_field hos hds (x := .int (-1) tk) rfl (wpAny_pure ?_)))))))
  refine wpAny_bind (HT.slicePart_ (.int (-1) tk) ?_)
  show wpAny _ _ (if ((-1 : Int) == 0) = true then _ else _) _ _ s
  rw [if_neg (by decide)]
  refine wpAny_bind (HT.slicePart_ .none (wpAny_bind (HT.slicePart_ .none (wpAny_bind (wpAny_pure ?_)))))
  show wpAny _ _ (pure ((n : Int) - 1, (-1 : Int), Builtin.Slice.slicePlaces ((n : Int) - 1) (-1) (-1))) _ _ s
  rw [places_rev0 n]
  exact wpAny_pure h
theorem getItem_rev0 {t sl : Addr} {items : Array Value} {tk : Tok} {Q : Value → Shared → Prop} (ht : IsTup s.heap t items) (hs : s.heap.IsSliceOf sl .none .none (.int (-1) tk)) (hz : items.size ≤ sizeLine)
    (h : Q (.ref s.heap.objs.size) { s with heap := s.heap.push { cls := .type "tuple", data := .seq items.toList.reverse.toArray } }) : wpAny (model prog w) A (getItem (.ref t) (.ref sl)) Q E s := by
  have htake : sizeOk (.seq items.toList.reverse.toArray) := by
    show items.toList.reverse.toArray.size ≤ sizeLine
    rw [List.size_toArray, List.length_reverse, Array.length_toList]
    exact hz
  obtain ⟨os, hos, hcs, hds⟩ := id hs
  have hTs : s.TypeIs (.ref sl) "slice" := ⟨os, hos, hcs⟩
  unfold getItem
  try with_reducible refine wpAny_holding ?_
  first | refine wpAny_bind (wpAny_pure ?_) | skip
  refine wpAny_bind (wpAny_sequenceKey ht.typeIs (by decide) ?_)
  refine wpAny_bind (wpAny_callSpecial?_slot (name := Str.ofString "__getitem__") ht.typeIs PyProof.Rows.slot_tuple_getitem
    (wpAny_call_entry PyProof.Rows.slot_tuple_getitem ht.typeIs entry_tuple_getitem ?_ (args_tuple_getitem _ _)))
  show wpAny _ _ (Builtin.Tuple.tupleItemsOf (.ref t) >>= _) _ _ s
  refine wpAny_bind (tupleItemsOf_ ht ?_)
  refine wpAny_bind (wpAny_typeOf hTs ?_)
  rw [if_pos (by decide)]
  refine wpAny_bind (applied_rev0 hs ?_)
  show wpAny _ _ (if ((((items.size : Nat) : Int) - 1 == 0) && ((-1 : Int) == 1) && (items.size == items.size)) = true then _ else _) _ _ s
  rw [if_neg (by rw [show ((-1 : Int) == 1) = false from rfl, Bool.and_false, Bool.false_and]; exact Bool.false_ne_true), Ew.pick_rev]
  first
    | exact wpAny_bind (m := Builtin.Tuple.tupleExact _) (wpAny_newObj_type (wpAny_pure ⟨_, rfl, wpAny_pure h⟩) htake)
    | exact wpAny_bind (m := Builtin.Tuple.tupleExact _) (wpAny_newObj_type (wpAny_bind (wpAny_pure (wpAny_pure ⟨_, rfl, wpAny_pure h⟩))) htake)
    | exact wpAny_bind (wpAny_bind (m := Builtin.Tuple.tupleExact _) (wpAny_newObj_type (wpAny_pure (wpAny_pure ⟨_, rfl, wpAny_pure h⟩)) htake))
def tRev0 (K : PySem.W.Frag) (te : TE) : TE := fun σ H Q => te σ H fun v H1 => ∃ a xs, v = .ref a ∧ SqT K H1 a xs ∧ ∀ p, H1 p = none → Q (.ref p) (upd H1 p (.tup xs.reverse))
theorem pe_rev0 {X : Cx} {e : Expr} {te : TE} {k : Nat} {p1 p2 p3 pos : Pos} (he : PE X e te) : PE X (.Subscript e (.Slice none none (some (.UnaryOp .USub (.Constant (.int 1) k p1) p2)) p3) pos) (tRev0 X.K te) := by
  refine ⟨fun pins s σ H Q I h => ?_⟩
  refine Subscript_ (thn (he.run pins s σ H _ I h) fun v s1 ⟨x, H1, I1, r1, q1⟩ => ?_)
  obtain ⟨a, xs, ex, hx, q⟩ := q1
  subst ex
  cases r1
  have hst : PO X (some (.UnaryOp .USub (.Constant (.int 1) k p1) p2)) (tPart (tUn (rU fun i => .int (-i)) (tC (.int 1)))) := po_some (pe_un un_neg pe_int)
  refine wpAny_Slice (thn (po_none.run pins s1 σ H1 (fun o H2 => o = none ∧ H2 = H1) I1 ⟨rfl, rfl⟩) fun vl s2 ⟨l, H2, I2, pl, el, e2⟩ => ?_)
  subst el e2
  refine thn (po_none.run pins s2 σ H2 (fun o H3 => o = none ∧ H3 = H2) I2 ⟨rfl, rfl⟩) fun vu s3 ⟨u, H3, I3, pu, eu, e3⟩ => ?_
  subst eu e3
  refine thn (hst.run pins s3 σ H3 (fun o H4 => o = some (-1) ∧ H4 = H3) I3 ⟨1, rfl, -1, rfl, rfl, rfl⟩) fun vs s4 ⟨o, H4, I4, ps, eo, e4⟩ => ?_
  subst eo e4
  cases pl
  cases pu
  cases ps with
  | int _ tk =>
    have I5 : Inv X pins σ H4 { s4 with heap := s4.heap.push { cls := .type "slice", data := .fields #[.none, .none, .int (-1) tk] } } := I4.kept (t' := s4.toks) fun b ob q => Heap.get?_push_of_some _ q
    obtain ⟨its, r, ht, hz⟩ := I5.tuple hx
    have hlen := r.length
    show wpAny (model X.prog X.w) X.A (subscriptTail e (.Slice none none (some (.UnaryOp .USub (.Constant (.int 1) k p1) p2)) p3) (.ref a) (.ref s4.heap.objs.size)) (EP X pins σ Q) X.xe { s4 with heap := s4.heap.push { cls := .type "slice", data := .fields #[.none, .none, .int (-1) tk] } }
    refine tail_any (ops := [.ref a, .ref s4.heap.objs.size]) ht.typeIs (PyProof.Rows.slot_tuple_getitem.lookup) ?_ (by with_unfolding_all rfl)
    refine getItem_rev0 ht (Heap.IsSliceOf.new _ .none .none (.int (-1) tk)) (by rw [List.size_toArray]; omega) ?_
    exact ⟨.ref _, _, I5.laid (t' := s4.toks) (o := .tup xs.reverse) (fun b ob q => Heap.get?_push_of_some _ q) (Nat.le_refl _) ⟨by rw [List.length_reverse]; exact hz, _, r.reverse, IsTup.new _ _⟩, rfl, q _ (I5.hok.fresh (Nat.le_refl _))⟩
end
def dRev0 : D → (D → Prop) → Prop := fun d k => match d with
  | .tup xs => k (.tup xs.reverse)
  | _ => False
section
variable [Tbs] {C : Cx} {e : Expr} {p : PX}
theorem e_rev0 {kk : Nat} {p1 p2 p3 pos : Pos} (h : E .c C e p) : E .e C (.Subscript e (.Slice none none (some (.UnaryOp .USub (.Constant (.int 1) kk p1) p2)) p3) pos) (eUn dRev0 p) := by
  obtain ⟨t, h1, h2⟩ := h
  refine ⟨_, pe_rev0 h1, fun z X H0 H σ env Q k o c hp => h2 z X H0 H σ env _ _ o (fun d v H1 e1 r1 hx => ?_) hp⟩
  cases d with
  | tup xs =>
    obtain ⟨a, vs, rfl, q1, q2, n⟩ := r1.conT
    exact ⟨a, vs, rfl, SqT.of q1, fun q hq => c _ _ _ (e1.new hq) ((Rel.newT (e1.fresh hq) hq q2.reverse).fe o) hx⟩
  | _ => exact (show False from hx).elim
end
theorem dRev0_i {xs : List D} {k : D → Prop} (h : k (.tup xs.reverse)) : dRev0 (.tup xs) k := h
end Pu

namespace Ew
open PySem PySem.Spec PyProof.Rows L2 Pu
variable [Tbs]
def wp__law_draw : List D → (D → Prop) → Prop := fun ds k => match ds with
  | [.deck 8, .int m] => (0 < m ∧ m < 1073741824) ∧ ∀ t : Int, 0 ≤ t → t < m → k (.int t)
  | _ => False
def P_chain : PSt := (sSeq (sOwn 3 (eLst (aCons (eV 2) aNil)))
    (sSeq (sFor (Pu.iEnumS (eV 1) (eV 0)) (gtTup 2 (gtCons (gtName 4) (gtCons (gtName 5) gtNil)))
    (sIf (tOf (eOp (dIn false) (eOp dIx (eO 3) (eUn dNeg (eC (.int 1)))) (eV 5))) (sAppend 3 (eV 4)) sNext))
    (sFrz 3 (sRet (eUn dTuple (eV 3))))))
def wp_chain : List D → (D → Prop) → Prop := wpOf false 6 P_chain
def P_ahead : PSt := (sSeq (sSet 4 (eCall (fun ds k => ds.length = 3 ∧ wp_chain ds k) (aCons (eV 0) (aCons (eV 1) (aCons (eV 3) aNil)))))
    (sRet (eUn dTuple (eLc [5] (iSeq (eCall (fun ds k => ds.length = 3 ∧ wp_chain ds k) (aCons (eV 0) (aCons (eV 1) (aCons (eV 2) aNil))))) (gtName 5) (tOf (eOp (dIn true) (eV 5) (eV 4))) (eV 5)))))
def wp_ahead : List D → (D → Prop) → Prop := wpOf false 6 P_ahead
def P_common_factor : PSt := (sSeq (sWhile (tOf (eOp dNe (eV 1) (eC (.int 0))))
    (sPar 0 1 (aCons (eV 1) (aCons (eOp dModN (eV 0) (eV 1)) aNil))))
    (sRet (eCall gAbs (aCons (eV 0) aNil))))
def wp_common_factor : List D → (D → Prop) → Prop := wpOf false 2 P_common_factor
def P_lowest : PSt := (sSeq (sSet 2 (eV 0))
    (sSeq (sFor (iSeq (eV 1)) (gtName 3)
    (sSet 2 (eCall (fun ds k => ds.length = 2 ∧ wp_common_factor ds k) (aCons (eV 2) (aCons (eV 3) aNil)))))
    (sRet (eTup (aCons (eOp dDivW (eV 0) (eV 2)) (aCons (eUn dTuple (eLc [3] (iSeq (eV 1)) (gtName 3) (fun _ k => k true) (eOp dDivW (eV 3) (eV 2)))) aNil))))))
def wp_lowest : List D → (D → Prop) → Prop := wpOf false 4 P_lowest
def P_steps : PSt := (sRet (eOp dAdd (eCall gAbs (aCons (eOp dSub (eOp dIx (eV 0) (eC (.int 0))) (eOp dIx (eV 1) (eC (.int 0)))) aNil)) (eCall gAbs (aCons (eOp dSub (eOp dIx (eV 0) (eC (.int 1))) (eOp dIx (eV 1) (eC (.int 1)))) aNil))))
def wp_steps : List D → (D → Prop) → Prop := wpOf false 2 P_steps
def P_is_whole : PSt := (sRet (eAnd (eCall gIsi (aCons (eV 0) (aCons (eC (.ty "int")) aNil))) (eUn dNot (eCall gIsi (aCons (eV 0) (aCons (eC (.ty "bool")) aNil))))))
def wp_is_whole : List D → (D → Prop) → Prop := wpOf false 1 P_is_whole
def P_are_wholes : PSt := (sSeq (sIf (tOrP (tNotP (tOf (eCall gIsi (aCons (eV 0) (aCons (eC (.ty "tuple")) aNil))))) (tOf (eOp dNe (eCall gLen (aCons (eV 0) aNil)) (eV 1)))) (sRet (eC (.bl false))) sNext)
    (sRet (eAsk true [2] (iSeq (eV 0)) (gtName 2) (eCall (fun ds k => ds.length = 1 ∧ wp_is_whole ds k) (aCons (eV 2) aNil)))))
def wp_are_wholes : List D → (D → Prop) → Prop := wpOf false 3 P_are_wholes
def P_is_row : PSt := (sSeq (sIf (tOrP (tNotP (tOf (eCall gIsi (aCons (eV 2) (aCons (eC (.ty "tuple")) aNil))))) (tNotP (tOf (eCall (fun ds k => ds.length = 2 ∧ wp_are_wholes ds k) (aCons (eSl (eV 2) (oPart (eC (.int 1))) oNo) (aCons (eC (.int 3)) aNil)))))) (sRet (eC (.bl false))) sNext)
    (sSeq (sAsg (eV 2) (gtTup 4 (gtCons (gtName 3) (gtCons (gtName 4) (gtCons (gtName 5) (gtCons (gtName 6) gtNil))))))
    (sSeq (sIf (tOrP (tNotP (tOf (eChain dLe dLt (eC (.int 0)) (eV 4) (eV 0)))) (tOrP (tNotP (tOf (eChain dLe dLt (eC (.int 0)) (eV 5) (eV 0)))) (tOf (eOp dLt (eV 6) (eC (.int 1)))))) (sRet (eC (.bl false))) sNext)
    (sSeq (sIf (tOf (eOp dEq (eV 3) (eC (.str (Str.ofString "far"))))) (sRet (eOp dLt (eV 4) (eV 5))) sNext)
    (sRet (eAnd (eOp dEq (eV 3) (eC (.str (Str.ofString "gap")))) (eAnd (eOp (dIs true) (eV 1) (eC .non)) (eOp dNe (eV 4) (eV 5)))))))))
def wp_is_row : List D → (D → Prop) → Prop := wpOf false 7 P_is_row
def P_has_form : PSt := (sSeq (sIf (tOrP (tNotP (tOf (eCall gIsi (aCons (eV 2) (aCons (eC (.ty "tuple")) aNil))))) (tOf (eOp dNe (eCall gLen (aCons (eV 2) aNil)) (eC (.int 2))))) (sRet (eC (.bl false))) sNext)
    (sSeq (sAsg (eV 2) (gtTup 2 (gtCons (gtName 3) (gtCons (gtName 4) gtNil))))
    (sSeq (sIf (tOrP (tNotP (tOf (eCall (fun ds k => ds.length = 1 ∧ wp_is_whole ds k) (aCons (eV 3) aNil)))) (tOrP (tOf (eOp dLt (eV 3) (eC (.int 1)))) (tNotP (tOf (eCall gIsi (aCons (eV 4) (aCons (eC (.ty "tuple")) aNil))))))) (sRet (eC (.bl false))) sNext)
    (sRet (eAsk true [5] (iSeq (eV 4)) (gtName 5) (eCall (fun ds k => ds.length = 3 ∧ wp_is_row ds k) (aCons (eV 0) (aCons (eV 1) (aCons (eV 5) aNil)))))))))
def wp_has_form : List D → (D → Prop) → Prop := wpOf false 6 P_has_form
def P_borne_by : PSt := (sSeq (sAsg (eV 2) (gtTup 4 (gtCons (gtName 3) (gtCons (gtName 4) (gtCons (gtName 5) (gtCons (gtName 6) gtNil))))))
    (sSeq (sSet 7 (eIf (tOf (eOp dEq (eV 3) (eC (.str (Str.ofString "far"))))) (eV 6) (eUn dNeg (eV 6))))
    (sRet (eOp dAdd (eLc [8] (iSeq (eCall (fun ds k => ds.length = 4 ∧ wp_ahead ds k) (aCons (eV 0) (aCons (eV 1) (aCons (eV 4) (aCons (eV 5) aNil)))))) (gtName 8) (fun _ k => k true) (eTup (aCons (eV 8) (aCons (eV 7) aNil)))) (eLc [8] (iSeq (eCall (fun ds k => ds.length = 4 ∧ wp_ahead ds k) (aCons (eV 0) (aCons (eV 1) (aCons (eV 5) (aCons (eV 4) aNil)))))) (gtName 8) (fun _ k => k true) (eTup (aCons (eV 8) (aCons (eV 6) aNil))))))))
def wp_borne_by : List D → (D → Prop) → Prop := wpOf false 9 P_borne_by
def P_all_borne : PSt := (sSeq (sOwn 3 (eOp dRep (eLst (aCons (eC (.int 0)) aNil)) (eOp dSub (eOp dMul (eC (.int 2)) (eV 0)) (eC (.int 2)))))
    (sSeq (sFor (iSeq (eV 2)) (gtName 4)
    (sFor (iSeq (eCall (fun ds k => ds.length = 3 ∧ wp_borne_by ds k) (aCons (eV 0) (aCons (eV 1) (aCons (eV 4) aNil))))) (gtTup 2 (gtCons (gtName 5) (gtCons (gtName 6) gtNil)))
    (sAugI 3 (eV 5) (eV 6))))
    (sRetO 3)))
def wp_all_borne : List D → (D → Prop) → Prop := wpOf false 7 P_all_borne
def P_worth_of : PSt := (sSeq (sAsg (eV 2) (gtTup 4 (gtCons (gtName 3) (gtCons (gtName 4) (gtCons (gtName 5) (gtCons (gtName 6) gtNil))))))
    (sSeq (sIf (tOf (eOp dEq (eV 3) (eC (.str (Str.ofString "far"))))) (sRet (eOp dMul (eV 6) (eCall (fun ds k => ds.length = 2 ∧ wp_steps ds k) (aCons (eSl (eOp dIx (eV 0) (eV 4)) oNo (oPart (eC (.int 2)))) (aCons (eSl (eOp dIx (eV 0) (eV 5)) oNo (oPart (eC (.int 2)))) aNil))))) sNext)
    (sRet (eOp dMul (eUn dNeg (eV 6)) (eOp dSub (eOp dAdd (eV 1) (eOp dIx (eOp dIx (eV 0) (eV 5)) (eC (.int 2)))) (eOp dIx (eOp dIx (eV 0) (eV 4)) (eC (.int 2))))))))
def wp_worth_of : List D → (D → Prop) → Prop := wpOf false 7 P_worth_of
def P_times_shown : PSt := (sSeq (sIf (tNotP (tOf (eCall (fun ds k => ds.length = 3 ∧ wp_has_form ds k) (aCons (eCall gLen (aCons (eV 0) aNil)) (aCons (eV 2) (aCons (eV 3) aNil)))))) (sRet (eC .non)) sNext)
    (sSeq (sAsg (eV 3) (gtTup 2 (gtCons (gtName 4) (gtCons (gtName 5) gtNil))))
    (sSeq (sIf (tOf (eAsk false [6] (iSeq (eCall (fun ds k => ds.length = 3 ∧ wp_all_borne ds k) (aCons (eCall gLen (aCons (eV 0) aNil)) (aCons (eV 1) (aCons (eV 5) aNil))))) (gtName 6) (eOp dGt (eV 6) (eV 4)))) (sRet (eC .non)) sNext)
    (sSeq (sAsg (eCall (fun ds k => ds.length = 2 ∧ wp_lowest ds k) (aCons (eV 4) (aCons (eTup (aCons (eCall gSum (aCons (eLc [9] (iSeq (eV 5)) (gtName 9) (fun _ k => k true) (eCall (fun ds k => ds.length = 3 ∧ wp_worth_of ds k) (aCons (eV 0) (aCons (eV 2) (aCons (eV 9) aNil))))) aNil)) aNil)) aNil))) (gtTup 2 (gtCons (gtName 7) (gtCons (gtName 8) gtNil))))
    (sRet (eTup (aCons (eOp dIx (eV 8) (eC (.int 0))) (aCons (eV 7) aNil))))))))
def wp_times_shown : List D → (D → Prop) → Prop := wpOf false 10 P_times_shown
def P__law_number : PSt := (sSeq (sIf (tOf (eOp dEq (eV 1) (eC (.int 0)))) (sRet (eCall (fun ds k => ds.length = 2 ∧ wp__law_draw ds k) (aCons (eV 0) (aCons (eC (.int 7)) aNil)))) sNext)
    (sSeq (sIf (tOf (eOp dEq (eV 1) (eC (.int 1)))) (sRet (eOp dIx (eLst (aCons (eC (.int 1000000)) (aCons (eOp dSub (eC (.int 1000000)) (eC (.int 1))) (aCons (eUn dNeg (eC (.int 1000000))) (aCons (eOp dSub (eC (.int 1)) (eC (.int 1000000))) (aCons (eC (.int 0)) aNil)))))) (eCall (fun ds k => ds.length = 2 ∧ wp__law_draw ds k) (aCons (eV 0) (aCons (eC (.int 5)) aNil))))) sNext)
    (sRet (eOp dSub (eCall (fun ds k => ds.length = 2 ∧ wp__law_draw ds k) (aCons (eV 0) (aCons (eOp dAdd (eOp dMul (eC (.int 2)) (eC (.int 1000000))) (eC (.int 1))) aNil))) (eC (.int 1000000))))))
def wp__law_number : List D → (D → Prop) → Prop := wpOf false 2 P__law_number
def P__law_start : PSt := (sSeq (sIf (tOf (eOp dLt (eV 1) (eC (.int 2)))) (sRet (eC (.int 0))) sNext)
    (sSeq (sIf (tOf (eOp dEq (eV 1) (eC (.int 2)))) (sRet (eCall (fun ds k => ds.length = 2 ∧ wp__law_draw ds k) (aCons (eV 0) (aCons (eC (.int 6)) aNil)))) sNext)
    (sRet (eOp dIx (eLst (aCons (eC (.int 0)) (aCons (eC (.int 1000000)) (aCons (eCall (fun ds k => ds.length = 2 ∧ wp__law_draw ds k) (aCons (eV 0) (aCons (eOp dAdd (eC (.int 1000000)) (eC (.int 1))) aNil))) aNil)))) (eCall (fun ds k => ds.length = 2 ∧ wp__law_draw ds k) (aCons (eV 0) (aCons (eC (.int 3)) aNil)))))))
def wp__law_start : List D → (D → Prop) → Prop := wpOf false 2 P__law_start
def P__law_ends : PSt := (sSeq (sSet 2 (eCall gInt (aCons (eOp dEq (eCall (fun ds k => ds.length = 2 ∧ wp__law_draw ds k) (aCons (eV 0) (aCons (eC (.int 8)) aNil))) (eC (.int 5))) aNil)))
    (sSeq (sSet 3 (eOp dAdd (eC (.int 1)) (eCall (fun ds k => ds.length = 2 ∧ wp__law_draw ds k) (aCons (eV 0) (aCons (eOp dIx (eLst (aCons (eC (.int 6)) (aCons (eV 1) aNil))) (eV 2)) aNil)))))
    (sSeq (sSet 3 (eOp dIx (eLst (aCons (eV 3) (aCons (eV 1) aNil))) (eOp dMul (eV 2) (eCall gInt (aCons (eOp dEq (eCall (fun ds k => ds.length = 2 ∧ wp__law_draw ds k) (aCons (eV 0) (aCons (eC (.int 2)) aNil))) (eC (.int 1))) aNil)))))
    (sSeq (sSet 4 (eOp dIx (eLst (aCons (eC (.int 0)) (aCons (eC (.int 0)) (aCons (eC (.int 1)) (aCons (eC (.int 2)) aNil))))) (eCall (fun ds k => ds.length = 2 ∧ wp__law_draw ds k) (aCons (eV 0) (aCons (eC (.int 4)) aNil)))))
    (sSeq (sSet 5 (eCall (fun ds k => ds.length = 2 ∧ wp__law_draw ds k) (aCons (eV 0) (aCons (eC (.int 6)) aNil))))
    (sSeq (sSet 6 (eCall (fun ds k => ds.length = 2 ∧ wp__law_draw ds k) (aCons (eV 0) (aCons (eC (.int 4)) aNil))))
    (sSeq (sOwn 7 (eLst aNil))
    (sSeq (sForC (iRange1 (aCons (eV 3) aNil)) (gtName 8)
    (sSeq (sSet 9 (eCall (fun ds k => ds.length = 2 ∧ wp__law_draw ds k) (aCons (eV 0) (aCons (eC (.int 4)) aNil))))
    (sSeq (sSet 10 (eCall (fun ds k => ds.length = 2 ∧ wp__law_number ds k) (aCons (eV 0) (aCons (eV 4) aNil))))
    (sSeq (sSet 11 (eOp dIx (eLst (aCons (eCall (fun ds k => ds.length = 2 ∧ wp__law_number ds k) (aCons (eV 0) (aCons (eV 4) aNil))) (aCons (eC (.int 3)) (aCons (eOp dSub (eC (.int 0)) (eV 10)) aNil)))) (eOp dIx (eLst (aCons (eC (.int 0)) (aCons (eC (.int 0)) (aCons (eC (.int 0)) (aCons (eC (.int 0)) (aCons (eC (.int 1)) (aCons (eC (.int 2)) aNil))))))) (eV 5))))
    (sSeq (sIf (tAndP (tOf (eOp dEq (eV 9) (eC (.int 1)))) (tOf (eOp dNe (eO 7) (eLst aNil)))) (sAsg (eSl (eOp dIx (eO 7) (eCall (fun ds k => ds.length = 2 ∧ wp__law_draw ds k) (aCons (eV 0) (aCons (eCall gLen (aCons (eO 7) aNil)) aNil)))) oNo (oPart (eC (.int 2)))) (gtTup 2 (gtCons (gtName 10) (gtCons (gtName 11) gtNil)))) sNext)
    (sAppend 7 (eTup (aCons (eV 10) (aCons (eV 11) (aCons (eCall (fun ds k => ds.length = 2 ∧ wp__law_start ds k) (aCons (eV 0) (aCons (eV 6) aNil))) (aCons (eCall (fun ds k => ds.length = 2 ∧ wp__law_draw ds k) (aCons (eV 0) (aCons (eOp dAdd (eC (.int 1000000)) (eC (.int 1))) aNil))) aNil)))))))))))
    (sFrz 7 (sRet (eUn dTuple (eV 7))))))))))))
def wp__law_ends : List D → (D → Prop) → Prop := wpOf false 12 P__law_ends
def P__law_joining : PSt := (sSeq (sOwn 2 (eRg1 .lst (eV 1)))
    (sSeq (sOwn 3 (eLst aNil))
    (sSeq (sSet 4 (eOp dEq (eCall (fun ds k => ds.length = 2 ∧ wp__law_draw ds k) (aCons (eV 0) (aCons (eC (.int 8)) aNil))) (eC (.int 3))))
    (sSeq (sForC (iRange1 (aCons (eOp dSub (eV 1) (eC (.int 1))) aNil)) (gtName 5)
    (sSeq (sSet 6 (eCall (fun ds k => ds.length = 2 ∧ wp__law_draw ds k) (aCons (eV 0) (aCons (eC (.int 2)) aNil))))
    (sSeq (sPopAt 7 2 (eOp dIx (eLst (aCons (eCall (fun ds k => ds.length = 2 ∧ wp__law_draw ds k) (aCons (eV 0) (aCons (eCall gLen (aCons (eO 2) aNil)) aNil))) (aCons (eOp dSub (eCall gLen (aCons (eO 2) aNil)) (eC (.int 1))) aNil))) (eCall gInt (aCons (eV 4) aNil))))
    (sSeq (sPopAt 8 2 (eCall (fun ds k => ds.length = 2 ∧ wp__law_draw ds k) (aCons (eV 0) (aCons (eCall gLen (aCons (eO 2) aNil)) aNil))))
    (sSeq (sAppend 3 (eOp dIx (eLst (aCons (eTup (aCons (eV 7) (aCons (eV 8) aNil))) (aCons (eTup (aCons (eV 8) (aCons (eV 7) aNil))) aNil))) (eV 6)))
    (sAppend 2 (eOp dAdd (eV 1) (eV 5))))))))
    (sFrz 2 (sFrz 3 (sRet (eUn dTuple (eV 3)))))))))
def wp__law_joining : List D → (D → Prop) → Prop := wpOf false 9 P__law_joining
def P__law_apart : PSt := (sRet (eOp dAdd (eCall gAbs (aCons (eOp dSub (eOp dIx (eV 0) (eC (.int 0))) (eOp dIx (eV 1) (eC (.int 0)))) aNil)) (eCall gAbs (aCons (eOp dSub (eOp dIx (eV 0) (eC (.int 1))) (eOp dIx (eV 1) (eC (.int 1)))) aNil))))
def wp__law_apart : List D → (D → Prop) → Prop := wpOf false 2 P__law_apart
def P__law_above : PSt := (sSeq (sOwn 2 (eOp dRep (eLst (aCons (eC .non) aNil)) (eOp dSub (eOp dMul (eC (.int 2)) (eV 0)) (eC (.int 1)))))
    (sSeq (sFor (iRange1 (aCons (eCall gLen (aCons (eV 1) aNil)) aNil)) (gtName 3)
    (sFor (iSeq (eOp dIx (eV 1) (eV 3))) (gtName 4)
    (sPut 2 (eV 4) (eOp dAdd (eV 0) (eV 3)))))
    (sRetO 2)))
def wp__law_above : List D → (D → Prop) → Prop := wpOf false 5 P__law_above
def P__law_side : PSt := (sSeq (sOwn 3 (eLst (aCons (eV 2) aNil)))
    (sSeq (sWhile (tOf (eOp (dIs true) (eOp dIx (eV 0) (eOp dIx (eO 3) (eUn dNeg (eC (.int 1))))) (eC .non)))
    (sAppend 3 (eOp dIx (eV 0) (eOp dIx (eO 3) (eUn dNeg (eC (.int 1)))))))
    (sFrz 3 (sSeq (sOwn 4 (eLst aNil))
    (sSeq (sWhile (tOf (eOp (dIn true) (eV 1) (eV 3)))
    (sSeq (sAppend 4 (eV 1))
    (sSet 1 (eOp dIx (eV 0) (eV 1)))))
    (sRetO 4))))))
def wp__law_side : List D → (D → Prop) → Prop := wpOf false 5 P__law_side
def P__law_is_from : PSt := (sRet (eAnd (eCall gIsi (aCons (eV 0) (aCons (eC (.ty "int")) aNil))) (eAnd (eUn dNot (eCall gIsi (aCons (eV 0) (aCons (eC (.ty "bool")) aNil)))) (eOp dGe (eV 0) (eV 1)))))
def wp__law_is_from : List D → (D → Prop) → Prop := wpOf false 2 P__law_is_from
def P__law_is_row : PSt := (sSeq (sIf (tOrP (tNotP (tOf (eCall gIsi (aCons (eV 2) (aCons (eC (.ty "tuple")) aNil))))) (tOrP (tOf (eOp dNe (eCall gLen (aCons (eV 2) aNil)) (eC (.int 4)))) (tNotP (tOf (eCall gIsi (aCons (eOp dIx (eV 2) (eC (.int 0))) (aCons (eC (.ty "str")) aNil))))))) (sRet (eC (.bl false))) sNext)
    (sSeq (sIf (tOrP (tNotP (tOf (eCall (fun ds k => ds.length = 2 ∧ wp__law_is_from ds k) (aCons (eOp dIx (eV 2) (eC (.int 1))) (aCons (eC (.int 0)) aNil))))) (tOrP (tNotP (tOf (eCall (fun ds k => ds.length = 2 ∧ wp__law_is_from ds k) (aCons (eOp dIx (eV 2) (eC (.int 2))) (aCons (eC (.int 0)) aNil))))) (tNotP (tOf (eCall (fun ds k => ds.length = 2 ∧ wp__law_is_from ds k) (aCons (eOp dIx (eV 2) (eC (.int 3))) (aCons (eC (.int 1)) aNil))))))) (sRet (eC (.bl false))) sNext)
    (sSeq (sIf (tOrP (tOf (eOp dGe (eOp dIx (eV 2) (eC (.int 1))) (eV 0))) (tOrP (tOf (eOp dGe (eOp dIx (eV 2) (eC (.int 2))) (eV 0))) (tOf (eOp dEq (eOp dIx (eV 2) (eC (.int 1))) (eOp dIx (eV 2) (eC (.int 2))))))) (sRet (eC (.bl false))) sNext)
    (sRet (eOr (eAnd (eOp dEq (eOp dIx (eV 2) (eC (.int 0))) (eC (.str (Str.ofString "far")))) (eOp dLt (eOp dIx (eV 2) (eC (.int 1))) (eOp dIx (eV 2) (eC (.int 2))))) (eAnd (eOp dEq (eOp dIx (eV 2) (eC (.int 0))) (eC (.str (Str.ofString "gap")))) (eOp (dIs true) (eV 1) (eC .non))))))))
def wp__law_is_row : List D → (D → Prop) → Prop := wpOf false 3 P__law_is_row
def P__law_bears : PSt := (sSeq (sSet 3 (eCall (fun ds k => ds.length = 2 ∧ wp__law_above ds k) (aCons (eV 0) (aCons (eV 1) aNil))))
    (sSeq (sOwn 4 (eOp dRep (eLst (aCons (eC (.int 0)) aNil)) (eOp dSub (eOp dMul (eC (.int 2)) (eV 0)) (eC (.int 2)))))
    (sSeq (sFor (iSeq (eV 2)) (gtTup 4 (gtCons (gtName 5) (gtCons (gtName 6) (gtCons (gtName 7) (gtCons (gtName 8) gtNil)))))
    (sSeq (sFor (iSeq (eCall (fun ds k => ds.length = 3 ∧ wp__law_side ds k) (aCons (eV 3) (aCons (eV 6) (aCons (eV 7) aNil))))) (gtName 9)
    (sPut 4 (eV 9) (eOp dAdd (eOp dIx (eO 4) (eV 9)) (eOp dIx (eLst (aCons (eV 8) (aCons (eOp dSub (eC (.int 0)) (eV 8)) aNil))) (eCall gInt (aCons (eOp dEq (eV 5) (eC (.str (Str.ofString "gap")))) aNil))))))
    (sFor (iSeq (eCall (fun ds k => ds.length = 3 ∧ wp__law_side ds k) (aCons (eV 3) (aCons (eV 7) (aCons (eV 6) aNil))))) (gtName 9)
    (sPut 4 (eV 9) (eOp dAdd (eOp dIx (eO 4) (eV 9)) (eV 8))))))
    (sRetO 4))))
def wp__law_bears : List D → (D → Prop) → Prop := wpOf false 10 P__law_bears
def P__law_lowest : PSt := (sSeq (sPar 2 3 (aCons (eCall gAbs (aCons (eV 0) aNil)) (aCons (eV 1) aNil)))
    (sSeq (sWhile (tOf (eOp dGt (eV 3) (eC (.int 0))))
    (sPar 2 3 (aCons (eV 3) (aCons (eOp dMod (eV 2) (eV 3)) aNil))))
    (sRet (eTup (aCons (eOp dDivW (eV 0) (eV 2)) (aCons (eOp dDivW (eV 1) (eV 2)) aNil))))))
def wp__law_lowest : List D → (D → Prop) → Prop := wpOf false 4 P__law_lowest
def P__law_due : PSt := (sSeq (sIf (tOrP (tNotP (tOf (eCall gIsi (aCons (eV 3) (aCons (eC (.ty "tuple")) aNil))))) (tOrP (tOf (eOp dNe (eCall gLen (aCons (eV 3) aNil)) (eC (.int 2)))) (tNotP (tOf (eCall (fun ds k => ds.length = 2 ∧ wp__law_is_from ds k) (aCons (eOp dIx (eV 3) (eC (.int 0))) (aCons (eC (.int 1)) aNil))))))) (sRet (eC .non)) sNext)
    (sSeq (sIf (tNotP (tOf (eCall gIsi (aCons (eOp dIx (eV 3) (eC (.int 1))) (aCons (eC (.ty "tuple")) aNil))))) (sRet (eC .non)) sNext)
    (sSeq (sIf (tOf (eOp dNe (eLc [4] (iSeq (eOp dIx (eV 3) (eC (.int 1)))) (gtName 4) (tNotP (tOf (eCall (fun ds k => ds.length = 3 ∧ wp__law_is_row ds k) (aCons (eCall gLen (aCons (eV 0) aNil)) (aCons (eV 2) (aCons (eV 4) aNil)))))) (eV 4)) (eLst aNil))) (sRet (eC .non)) sNext)
    (sSeq (sIf (tOf (eOp dNe (eLc [5] (iSeq (eCall (fun ds k => ds.length = 3 ∧ wp__law_bears ds k) (aCons (eCall gLen (aCons (eV 0) aNil)) (aCons (eV 1) (aCons (eOp dIx (eV 3) (eC (.int 1))) aNil))))) (gtName 5) (tOf (eOp dGt (eV 5) (eOp dIx (eV 3) (eC (.int 0))))) (eV 5)) (eLst aNil))) (sRet (eC .non)) sNext)
    (sSeq (sSet 6 (eC (.int 0)))
    (sSeq (sFor (iSeq (eOp dIx (eV 3) (eC (.int 1)))) (gtTup 4 (gtCons (gtName 7) (gtCons (gtName 5) (gtCons (gtName 8) (gtCons (gtName 9) gtNil)))))
    (sIf (tOf (eOp dEq (eV 7) (eC (.str (Str.ofString "far"))))) (sSet 6 (eOp dAdd (eV 6) (eOp dMul (eV 9) (eCall (fun ds k => ds.length = 2 ∧ wp__law_apart ds k) (aCons (eOp dIx (eV 0) (eV 5)) (aCons (eOp dIx (eV 0) (eV 8)) aNil)))))) (sSeq (sSet 10 (eOp dSub (eOp dIx (eOp dIx (eV 0) (eV 8)) (eC (.int 2))) (eOp dIx (eOp dIx (eV 0) (eV 5)) (eC (.int 2)))))
    (sSet 6 (eOp dSub (eV 6) (eOp dMul (eV 9) (eOp dAdd (eV 2) (eV 10))))))))
    (sRet (eCall (fun ds k => ds.length = 2 ∧ wp__law_lowest ds k) (aCons (eV 6) (aCons (eOp dIx (eV 3) (eC (.int 0))) aNil))))))))))
def wp__law_due : List D → (D → Prop) → Prop := wpOf false 11 P__law_due
def P__law_told : PSt := (sSeq (sSet 5 (eCall (fun ds k => ds.length = 4 ∧ wp_times_shown ds k) (aCons (eV 0) (aCons (eV 1) (aCons (eV 2) (aCons (eV 3) aNil))))))
    (sSeq (sIf (tOf (eOp (dIs false) (eV 4) (eC .non))) (sRet (eOp (dIs false) (eV 5) (eC .non))) sNext)
    (sSeq (sIf (tOrP (tNotP (tOf (eCall gIsi (aCons (eV 5) (aCons (eC (.ty "tuple")) aNil))))) (tOf (eOp dNe (eCall gLen (aCons (eV 5) aNil)) (eC (.int 2))))) (sRet (eC (.bl false))) sNext)
    (sSeq (sSet 6 (eLc [7, 8] (iZipP (eV 5) (eV 4)) (gtTup 2 (gtCons (gtName 7) (gtCons (gtName 8) gtNil))) (fun _ k => k true) (eCall (fun ds k => ds.length = 2 ∧ wp__law_is_from ds k) (aCons (eV 7) (aCons (eV 8) aNil)))))
    (sRet (eAnd (eOp dEq (eV 6) (eLst (aCons (eC (.bl true)) (aCons (eC (.bl true)) aNil)))) (eOp dEq (eV 5) (eV 4))))))))
def wp__law_told : List D → (D → Prop) → Prop := wpOf false 9 P__law_told
def P__law_gap : PSt := (sSeq (sSet 1 (eCall (fun ds k => ds.length = 2 ∧ wp__law_draw ds k) (aCons (eV 0) (aCons (eC (.int 6)) aNil))))
    (sRet (eOp dIx (eLst (aCons (eC .non) (aCons (eC (.int 0)) (aCons (eC (.int 1)) (aCons (eCall (fun ds k => ds.length = 2 ∧ wp__law_draw ds k) (aCons (eV 0) (aCons (eC (.int 12)) aNil))) (aCons (eC (.int 10000000)) (aCons (eCall (fun ds k => ds.length = 2 ∧ wp__law_draw ds k) (aCons (eV 0) (aCons (eC (.int 1000000)) aNil))) aNil))))))) (eV 1))))
def wp__law_gap : List D → (D → Prop) → Prop := wpOf false 2 P__law_gap
def P__law_times : PSt := (sSeq (sIf (tOf (eOp dEq (eV 1) (eC (.int 0)))) (sRet (eOp dAdd (eC (.int 1)) (eCall (fun ds k => ds.length = 2 ∧ wp__law_draw ds k) (aCons (eV 0) (aCons (eC (.int 5)) aNil))))) sNext)
    (sRet (eOp dIx (eLst (aCons (eC (.int 1)) (aCons (eC (.int 1000000)) (aCons (eOp dAdd (eC (.int 1)) (eCall (fun ds k => ds.length = 2 ∧ wp__law_draw ds k) (aCons (eV 0) (aCons (eC (.int 1000000)) aNil)))) aNil)))) (eCall (fun ds k => ds.length = 2 ∧ wp__law_draw ds k) (aCons (eV 0) (aCons (eC (.int 3)) aNil))))))
def wp__law_times : List D → (D → Prop) → Prop := wpOf false 2 P__law_times
def P__law_rows : PSt := (sSeq (sSet 3 (eOp dIx (eLst (aCons (eC (.int 7)) (aCons (eC (.int 7)) (aCons (eC (.int 7)) (aCons (eC (.int 17)) aNil))))) (eCall (fun ds k => ds.length = 2 ∧ wp__law_draw ds k) (aCons (eV 0) (aCons (eC (.int 4)) aNil)))))
    (sSeq (sSet 4 (eOp dDiv (eCall (fun ds k => ds.length = 2 ∧ wp__law_draw ds k) (aCons (eV 0) (aCons (eC (.int 3)) aNil))) (eC (.int 2))))
    (sSeq (sOwn 5 (eLst aNil))
    (sSeq (sForC (iRange1 (aCons (eOp dMul (eCall (fun ds k => ds.length = 2 ∧ wp__law_draw ds k) (aCons (eV 0) (aCons (eV 3) aNil))) (eCall gInt (aCons (eOp dGt (eV 1) (eC (.int 1))) aNil))) aNil)) (gtName 6)
    (sSeq (sSet 7 (eOp dIx (eLst (aCons (eC (.str (Str.ofString "far"))) (aCons (eC (.str (Str.ofString "gap"))) aNil))) (eOp dMul (eCall (fun ds k => ds.length = 2 ∧ wp__law_draw ds k) (aCons (eV 0) (aCons (eC (.int 2)) aNil))) (eCall gInt (aCons (eOp (dIs true) (eV 2) (eC .non)) aNil)))))
    (sSeq (sSet 8 (eCall (fun ds k => ds.length = 2 ∧ wp__law_draw ds k) (aCons (eV 0) (aCons (eV 1) aNil))))
    (sSeq (sSet 9 (eOp dMod (eOp dAdd (eOp dAdd (eV 8) (eC (.int 1))) (eCall (fun ds k => ds.length = 2 ∧ wp__law_draw ds k) (aCons (eV 0) (aCons (eOp dSub (eV 1) (eC (.int 1))) aNil)))) (eV 1)))
    (sSeq (sIf (tOf (eOp dEq (eV 7) (eC (.str (Str.ofString "far"))))) (sAsg (eCall gSorted (aCons (eLst (aCons (eV 8) (aCons (eV 9) aNil))) aNil)) (gtLst 2 (gtCons (gtName 8) (gtCons (gtName 9) gtNil)))) sNext)
    (sAppend 5 (eTup (aCons (eV 7) (aCons (eV 8) (aCons (eV 9) (aCons (eCall (fun ds k => ds.length = 2 ∧ wp__law_times ds k) (aCons (eV 0) (aCons (eV 4) aNil))) aNil)))))))))))
    (sFrz 5 (sRet (eUn dTuple (eV 5))))))))
def wp__law_rows : List D → (D → Prop) → Prop := wpOf false 10 P__law_rows
def P__law_order : PSt := (sSeq (sOwn 2 (eRg1 .lst (eV 1)))
    (sRetM (mLcC [3] (iRange1 (aCons (eV 1) aNil)) (gtName 3) (mPop 2 (eCall (fun ds k => ds.length = 2 ∧ wp__law_draw ds k) (aCons (eV 0) (aCons (eCall gLen (aCons (eO 2) aNil)) aNil)))))))
def wp__law_order : List D → (D → Prop) → Prop := wpOf false 4 P__law_order
def P__law_numbered : PSt := (sSeq (sSet 4 (eCall gDictP (aCons (eLc [5, 6] (iEnum0 (eV 3)) (gtTup 2 (gtCons (gtName 5) (gtCons (gtName 6) gtNil))) (fun _ k => k true) (eTup (aCons (eV 6) (aCons (eV 5) aNil)))) aNil)))
    (sSeq (sSet 7 (eUn dTuple (eLc [9] (iSeq (eV 1)) (gtName 9) (fun _ k => k true) (eUn dTuple (eLc [8] (iSeq (eV 9)) (gtName 8) (fun _ k => k true) (eDget2 (eV 4) (eV 8) (eV 8)))))))
    (sSeq (sOwn 10 (eLst aNil))
    (sSeq (sFor (iSeq (eV 2)) (gtTup 4 (gtCons (gtName 11) (gtCons (gtName 6) (gtCons (gtName 12) (gtCons (gtName 13) gtNil)))))
    (sSeq (sPar 6 12 (aCons (eOp dDget (eV 4) (eV 6)) (aCons (eOp dDget (eV 4) (eV 12)) aNil)))
    (sSeq (sIf (tOf (eOp dEq (eV 11) (eC (.str (Str.ofString "far"))))) (sPar 6 12 (aCons (eCall gMinN (aCons (eV 6) (aCons (eV 12) aNil))) (aCons (eCall gMaxN (aCons (eV 6) (aCons (eV 12) aNil))) aNil))) sNext)
    (sAppend 10 (eTup (aCons (eV 11) (aCons (eV 6) (aCons (eV 12) (aCons (eV 13) aNil)))))))))
    (sFrz 10 (sRet (eTup (aCons (eUn dTuple (eLc [6] (iSeq (eV 3)) (gtName 6) (fun _ k => k true) (eOp dIx (eV 0) (eV 6)))) (aCons (eV 7) (aCons (eUn dTuple (eV 10)) aNil))))))))))
def wp__law_numbered : List D → (D → Prop) → Prop := wpOf false 14 P__law_numbered
def P__law_parted : PSt := (sSeq (sOwn 1 (eLst aNil))
    (sSeq (sFor (iSeq (eV 0)) (gtName 2)
    (sSeq (sIf (tOf (eOp dGt (eOp dIx (eV 2) (eC (.int 3))) (eC (.int 1)))) (sAppend 1 (eOp dAdd (eSl (eV 2) oNo (oPart (eC (.int 3)))) (eTup (aCons (eOp dDiv (eOp dIx (eV 2) (eC (.int 3))) (eC (.int 2))) aNil)))) sNext)
    (sAppend 1 (eOp dAdd (eSl (eV 2) oNo (oPart (eC (.int 3)))) (eTup (aCons (eOp dSub (eOp dIx (eV 2) (eC (.int 3))) (eOp dDiv (eOp dIx (eV 2) (eC (.int 3))) (eC (.int 2)))) aNil))))))
    (sFrz 1 (sRet (eUn dTuple (eV 1))))))
def wp__law_parted : List D → (D → Prop) → Prop := wpOf false 3 P__law_parted
def P_law : PSt := (sSeq (sSet 3 (eOp dAdd (eC (.int 2)) (eCall (fun ds k => ds.length = 2 ∧ wp__law_draw ds k) (aCons (eV 2) (aCons (eC (.int 8)) aNil)))))
    (sSeq (sSet 4 (eCall (fun ds k => ds.length = 1 ∧ wp__law_gap ds k) (aCons (eV 2) aNil)))
    (sSeq (sSet 5 (eCall (fun ds k => ds.length = 2 ∧ wp__law_ends ds k) (aCons (eV 2) (aCons (eC (.int 24)) aNil))))
    (sSeq (sSet 6 (eCall (fun ds k => ds.length = 2 ∧ wp__law_joining ds k) (aCons (eV 2) (aCons (eCall gLen (aCons (eV 5) aNil)) aNil))))
    (sSeq (sSet 7 (eCall (fun ds k => ds.length = 3 ∧ wp__law_rows ds k) (aCons (eV 2) (aCons (eCall gLen (aCons (eV 5) aNil)) (aCons (eV 4) aNil)))))
    (sSeq (sSet 8 (eCall (fun ds k => ds.length = 2 ∧ wp__law_order ds k) (aCons (eV 2) (aCons (eCall gLen (aCons (eV 5) aNil)) aNil))))
    (sSeq (sSet 9 (eCall gMaxL (aCons (eOp dAdd (eLst (aCons (eC (.int 0)) aNil)) (eCall (fun ds k => ds.length = 3 ∧ wp__law_bears ds k) (aCons (eCall gLen (aCons (eV 5) aNil)) (aCons (eV 6) (aCons (eV 7) aNil))))) aNil)))
    (sSeq (sSet 10 (eCall gMaxN (aCons (eC (.int 1)) (aCons (eV 9) aNil))))
    (sSeq (sSet 11 (eUn dTuple (eLc [12] (iSeq (eV 6)) (gtName 12) (fun _ k => k true) (eUn dRev0 (eV 12)))))
    (sSeq (sSet 13 (eCall (fun ds k => ds.length = 4 ∧ wp__law_numbered ds k) (aCons (eV 5) (aCons (eV 6) (aCons (eV 7) (aCons (eV 8) aNil))))))
    (sSeq (sSet 14 (eUn dTuple (eLc [12] (iSeq (eV 7)) (gtName 12) (fun _ k => k true) (eOp dAdd (eSl (eV 12) oNo (oPart (eC (.int 3)))) (eTup (aCons (eOp dMul (eOp dIx (eV 12) (eC (.int 3))) (eV 3)) aNil))))))
    (sSeq (sOwn 15 (eLst (aCons (eTup (aCons (eV 5) (aCons (eV 6) (aCons (eV 10) (aCons (eV 7) aNil))))) (aCons (eTup (aCons (eV 5) (aCons (eV 6) (aCons (eV 10) (aCons (eUn dRev0 (eV 7)) aNil))))) (aCons (eTup (aCons (eV 5) (aCons (eV 11) (aCons (eV 10) (aCons (eV 7) aNil))))) aNil)))))
    (sSeq (sOwn 15 (eOp dAddF (eO 15) (eLst (aCons (eTup (aCons (eV 5) (aCons (eV 6) (aCons (eV 10) (aCons (eCall (fun ds k => ds.length = 1 ∧ wp__law_parted ds k) (aCons (eV 7) aNil)) aNil))))) (aCons (eTup (aCons (eV 5) (aCons (eV 6) (aCons (eOp dMul (eV 10) (eV 3)) (aCons (eV 14) aNil))))) aNil)))))
    (sSeq (sAppend 15 (eOp dAdd (eSl (eV 13) oNo (oPart (eC (.int 2)))) (eTup (aCons (eV 10) (aCons (eOp dIx (eV 13) (eC (.int 2))) aNil)))))
    (sFrz 15 (sSeq (sSet 16 (eCall (fun ds k => ds.length = 4 ∧ wp__law_due ds k) (aCons (eV 5) (aCons (eV 6) (aCons (eV 4) (aCons (eTup (aCons (eV 10) (aCons (eV 7) aNil))) aNil))))))
    (sForC (iSeq (eV 15)) (gtTup 4 (gtCons (gtName 17) (gtCons (gtName 18) (gtCons (gtName 19) (gtCons (gtName 20) gtNil)))))
    (sSeq (sIf (tOrP (tOf (eOp (dIs false) (eV 16) (eC .non))) (tNotP (tOf (eCall (fun ds k => ds.length = 5 ∧ wp__law_told ds k) (aCons (eV 17) (aCons (eV 18) (aCons (eV 4) (aCons (eTup (aCons (eV 19) (aCons (eV 20) aNil))) (aCons (eV 16) aNil))))))))) (sRet (eC (.bl false))) sNext)
    (sIf (tAndP (tOf (eOp dGt (eV 9) (eC (.int 1)))) (tOf (eOp (dIs true) (eCall (fun ds k => ds.length = 4 ∧ wp_times_shown ds k) (aCons (eV 17) (aCons (eV 18) (aCons (eV 4) (aCons (eTup (aCons (eOp dSub (eV 19) (eC (.int 1))) (aCons (eV 20) aNil))) aNil))))) (eC .non)))) (sRet (eC (.bl false))) sNext)))))))))))))))))))
end Ew
namespace Ew
open PySem PySem.Spec PyProof.Rows L2 Pu
variable [Tbs]
section
local macro_rules | `(tactic| walk_at "pscall") => `(tactic| fail)
local macro_rules | `(tactic| walk_at "psside") => `(tactic| first
  | exact Or.inl ⟨by decide, by decide⟩
  | exact Or.inr ⟨by decide, by decide⟩
  | exact ⟨by decide, by decide, by decide⟩
  | exact ⟨by decide, by decide⟩
  | decide
  | omega
  | (unfold CMul; omega)
  | (unfold CDiv; omega))
local macro_rules | `(tactic| walk_at "ps") => `(tactic| first
  | with_reducible refine nx_i ?_
  | with_reducible refine rt_i ?_
  | with_reducible refine blK_i ?_
  | with_reducible refine sSeq_set ?_
  | with_reducible refine sSeq_setM ?_
  | with_reducible refine sSetM_i ?_
  | ((with_reducible refine' sDput_i ?ps1 ?_); (case ps1 => exact rfl))
  | ((with_reducible refine' eO_d ?ps1 ?_); (case ps1 => exact rfl))
  | with_reducible refine dDin_i ?_
  | with_reducible refine mE_i ?_
  | with_reducible refine mLst_i ?_
  | with_reducible refine mTup_i ?_
  | with_reducible refine mCons_i ?_
  | with_reducible refine mNil_i ?_
  | ((with_reducible refine' mPop_i ?ps1 ?_); (case ps1 => exact rfl))
  | ((with_reducible refine' mPop0_i ?ps1 ?_); (case ps1 => exact rfl))
  | with_reducible refine sSeq_ifr ?_
  | with_reducible refine sSeq_asg ?_
  | with_reducible refine sSeq_own ?_
  | with_reducible refine sSeq_app ?_
  | with_reducible refine sSeq_for ?_
  | with_reducible refine sSeq_par ?_
  | with_reducible refine sSeq_drop ?_
  | with_reducible refine sSeq_put ?_
  | with_reducible refine sSeq_pop ?_
  | with_reducible refine sSeq_ifn ?_
  | ((with_reducible refine' eV_i ?ps1 ?_); (case ps1 => exact rfl))
  | with_reducible refine eOp_i ?_
  | with_reducible refine eC_i ?_
  | ((with_reducible refine' dIx_t ?ps1 ?_); (case ps1 => exact rfl))
  | with_reducible refine dI0_i ?_
  | with_reducible refine dAdd_i ?_
  | with_reducible refine aCons_i ?_
  | with_reducible refine dEq_int ?_
  | with_reducible refine dNe_int ?_
  | with_reducible refine aNil_i ?_
  | with_reducible refine eCall_i ?_
  | walk_at "pscall"
  | ((with_reducible refine' and_rfl ?ps1 ?_); (case ps1 => exact rfl))
  | with_reducible refine sSet_i ?_
  | with_reducible refine sNext_i ?_
  | with_reducible refine sRet_i ?_
  | with_reducible refine eTup_i ?_
  | ((with_reducible refine' and_le ?ps1 ?_); (case ps1 => exact rfl))
  | with_reducible refine tOf_i ?_
  | with_reducible refine sIf_i ?_
  | with_reducible refine tAndP_i ?_
  | with_reducible refine tOrP_i ?_
  | with_reducible refine tNotP_i ?_
  | with_reducible refine gMax_2 ?_
  | with_reducible refine gMin_2 ?_
  | with_reducible refine gMax_3 ?_
  | with_reducible refine gMin_3 ?_
  | with_reducible refine gMax_4 ?_
  | with_reducible refine gMin_4 ?_
  | with_reducible refine gMax_5 ?_
  | with_reducible refine gAbs_i ?_
  | with_reducible refine gLen_t ?_
  | with_reducible refine gLen_l ?_
  | with_reducible refine gInt_i ?_
  | with_reducible refine gInt_b ?_
  | ((with_reducible refine' gIsi_i ?ps1 ?ps2 ?_); (case ps1 => exact rfl); (case ps2 => exact rfl))
  | with_reducible refine sAsg_i ?_
  | ((with_reducible refine' gtTup_i ?ps1 ?_); (case ps1 => exact rfl))
  | with_reducible refine gtCons_i ?_
  | with_reducible refine gtNil_i ?_
  | with_reducible refine gtName_i ?_
  | with_reducible refine sPar_i ?_
  | with_reducible refine prK_i ?_
  | with_reducible refine inK_i ?_
  | with_reducible refine sqK_t ?_
  | with_reducible refine sqK_l ?_
  | with_reducible refine bk_i ?_
  | with_reducible refine ct_i ?_
  | with_reducible refine eUn_i ?_
  | with_reducible refine dNeg_i ?_
  | with_reducible refine dNot_i ?_
  | with_reducible refine eAnd_i ?_
  | with_reducible refine eOr_i ?_
  | with_reducible refine eChain_i ?_
  | with_reducible refine eIf_i ?_
  | ((with_reducible refine' dIx_l ?ps1 ?_); (case ps1 => exact rfl))
  | with_reducible refine eLst_i ?_
  | with_reducible refine dTuple_l ?_
  | with_reducible refine dTuple_t ?_
  | with_reducible refine dList_l ?_
  | with_reducible refine dList_t ?_
  | ((with_reducible refine' eO_i ?ps1 ?_); (case ps1 => exact rfl))
  | with_reducible refine sOwn_i ?_
  | ((with_reducible refine' and_lt ?ps1 ?_); (case ps1 => exact rfl))
  | ((with_reducible refine' sAppend_i ?ps1 ?_); (case ps1 => exact rfl))
  | ((with_reducible refine' sFrz_i ?ps1 ?_); (case ps1 => exact rfl))
  | ((with_reducible refine' sRetO_i ?ps1 ?_); (case ps1 => exact rfl))
  | with_reducible refine sRetN_i ?_
  | with_reducible refine sDrop_i ?_
  | with_reducible refine sFor_i ?_
  | with_reducible refine iRange1_i ?_
  | with_reducible refine iRange2_i ?_
  | with_reducible refine iSeq_i ?_
  | with_reducible refine iEnumS_i ?_
  | with_reducible refine iEnum0_i ?_
  | with_reducible refine en0K_t ?_
  | with_reducible refine en0K_l ?_
  | with_reducible refine iRev1_i ?_
  | with_reducible refine sSeq_ins ?_
  | with_reducible refine sSeq_aug ?_
  | ((with_reducible refine' sAug_i ?ps1 ?_); (case ps1 => exact rfl))
  | ((with_reducible refine' sInsert_i ?ps1 ?_); (case ps1 => exact rfl))
  | ((with_reducible refine' sPopAt_i ?ps1 ?_); (case ps1 => exact rfl))
  | with_reducible refine eSl_i ?_
  | with_reducible refine eLc_i ?_
  | with_reducible refine eLc2_i ?_
  | with_reducible refine oNo_i ?_
  | with_reducible refine oPart_i ?_
  | with_reducible refine dSl_t ?_
  | with_reducible refine dSl_l ?_
  | with_reducible refine dRevL_i ?_
  | with_reducible refine eRg1_i ?_
  | with_reducible refine bCase_t ?_
  | with_reducible refine bCase_f ?_
  | with_reducible refine ite_t ?_
  | with_reducible refine ite_f ?_
  | with_reducible refine ite_nt ?_
  | with_reducible refine ite_nf ?_
  | ((with_reducible refine' dII_i ?ps1 ?_); (case ps1 => walk_at "psside")))

local macro_rules | `(tactic| walk_at "psenv") => `(tactic| simp only [List.map_cons, List.map_nil, List.cons_append, List.nil_append, List.length_cons, List.length_nil, Nat.reduceAdd, Nat.reduceSub, List.replicate])
theorem rangeD_at {lo : Int} {n i : Nat} {d : D} (h : (rangeD lo n)[i]? = some d) : d = .int (lo + (i : Nat)) ∧ i < n := by
  have hl := (List.getElem?_eq_some_iff.mp h).1
  have hi : i < n := by simpa [rangeD] using hl
  refine ⟨?_, hi⟩
  simpa [rangeD, hi, List.getElem?_map, List.getElem?_range] using h.symm
theorem rangeD_len {lo : Int} {n : Nat} : (rangeD lo n).length = n := by simp [rangeD]
structure Rw where
  (far : Bool) (a b t : Int)
def wS (f : Bool) : Str := if f then Str.ofString "far" else Str.ofString "gap"
abbrev rwD (r : Rw) : D := .tup [.str (wS r.far), .int r.a, .int r.b, .int r.t]
structure OkR (n : Nat) (r : Rw) : Prop where
  a0 : 0 ≤ r.a
  a1 : r.a < n
  b0 : 0 ≤ r.b
  b1 : r.b < n
  ne : r.a ≠ r.b
  t0 : 1 ≤ r.t
  t1 : r.t ≤ 1000000000000000
theorem wS_ok (f : Bool) : PyData.strOk (wS f) = true := by cases f <;> decide +kernel
theorem wS_far (f : Bool) : decide (wS f = Str.ofString "far") = f := by cases f <;> decide +kernel
theorem dEq_str {a b : Str} {c : Bool} {k : D → Prop} (ha : PyData.strOk a = true) (hb : PyData.strOk b = true) (hc : decide (a = b) = c) (h : k (.bl c)) : dEq (.str a) (.str b) k := by
  refine dEq_i (by simp only [pln]; exact ha) (by simp only [pln]; exact hb) fun e he => ?_
  rw [show e = c from ?_]
  · exact h
  · rw [D.str.injEq] at he
    rw [← hc]
    cases e with
    | true => exact (decide_eq_true (he.mp rfl)).symm
    | false => exact (decide_eq_false fun q => Bool.noConfusion (he.mpr q)).symm
theorem dEq_far {f : Bool} {k : D → Prop} (h : k (.bl f)) : dEq (.str (wS f)) (.str (Str.ofString "far")) k := dEq_str (wS_ok f) (by decide +kernel) (wS_far f) h
def okG (g : Option Int) (r : Rw) : Bool := if r.far then decide (r.a < r.b) else g.isSome
def gD : Option Int → D
  | none => .non
  | some g => .int g
theorem dIs_gD {g : Option Int} {k : D → Prop} (h : k (.bl g.isSome)) : dIs true (gD g) .non k := by
  cases g with
  | none => exact h
  | some g => exact h
theorem draw_i {m : Int} {k : D → Prop} (m0 : 0 < m) (m1 : m < 1073741824) (h : ∀ t : Int, 0 ≤ t → t < m → k (.int t)) : wp__law_draw [.deck 8, .int m] k := ⟨⟨m0, m1⟩, h⟩
theorem sSeq_forC {it : PIt} {g : PGt} {b Q : PSt} {env : List SV} {K : PK'} (h : it env fun ds => ds.length ≤ 100000 ∧ forP g b ds env { K with nx := fun env' => Q env' K }) : sSeq (sForC it g b) Q env K := h
theorem ltimes_i {way : Int} {k : D → Prop} (h : ∀ t : Int, 1 ≤ t → t ≤ 1000000 → k (.int t)) : wp__law_times [.deck 8, .int way] k := by
  unfold wp__law_times wpOf
  walk_at "psenv"
  unfold P__law_times
  repeat walk_at "ps"
  refine ite_d (fun _ => ?_) (fun _ => ?_)
  · repeat walk_at "ps"
    refine draw_i (by decide) (by decide) fun t t0 t1 => ?_
    repeat walk_at "ps"
    exact h _ (by omega) (by omega)
  repeat walk_at "ps"
  refine draw_i (by decide) (by decide) fun t t0 t1 => ?_
  repeat walk_at "ps"
  refine draw_i (by decide) (by decide) fun u u0 u1 => dIx_in u0 u1 fun d hd => ?_
  simp only [List.mem_cons, List.not_mem_nil, or_false] at hd
  rcases hd with rfl | rfl | rfl
  · exact h _ (by decide) (by decide)
  · exact h _ (by decide) (by decide)
  · exact h _ (by omega) (by omega)
theorem wrap_mod {a d n : Int} (a0 : 0 ≤ a) (a1 : a < n) (d0 : 0 ≤ d) (d1 : d < n - 1) : (a + 1 + d) % n = (if a + 1 + d < n then a + 1 + d else a + 1 + d - n) := by
  split
  · exact Int.emod_eq_of_lt (by omega) (by omega)
  · rw [← Int.sub_emod_right]
    exact Int.emod_eq_of_lt (by omega) (by omega)
theorem srt2 {a b : Int} {ms : List Int} (hp : ms.Perm [a, b]) (hs : ms.Pairwise (· ≤ ·)) (ne : a ≠ b) : ∃ x y : Int, ms = [x, y] ∧ x < y ∧ ((x = a ∧ y = b) ∨ (x = b ∧ y = a)) := by
  have hl := hp.length_eq
  match ms, hl, hp, hs with
  | [x, y], _, hp, hs =>
    have h1 : x ≤ y := (List.pairwise_cons.mp hs).1 y (by simp)
    have hx := (hp.mem_iff (a := x)).mp (by simp)
    have hy := (hp.mem_iff (a := y)).mp (by simp)
    have ha := (hp.mem_iff (a := a)).mpr (by simp)
    have hb := (hp.mem_iff (a := b)).mpr (by simp)
    simp only [List.mem_cons, List.not_mem_nil, or_false] at hx hy ha hb
    refine ⟨x, y, rfl, by omega, by omega⟩
theorem rows_i {n : Nat} {g : Option Int} {k : D → Prop} (n0 : 1 ≤ n) (n1 : n ≤ 24) (h : ∀ R : List Rw, R.length ≤ 16 → (∀ r ∈ R, OkR n r ∧ r.t ≤ 1000000 ∧ okG g r = true) → (n = 1 → R = []) → k (.tup (R.map rwD))) : wp__law_rows [.deck 8, .int n, gD g] k := by
  unfold wp__law_rows wpOf
  walk_at "psenv"
  unfold P__law_rows
  repeat walk_at "ps"
  refine draw_i (by decide) (by decide) fun mo mo0 mo1 => dIx_in mo0 mo1 fun d hd => ?_
  have hd : ∃ c : Int, d = .int c ∧ 0 < c ∧ c ≤ 17 := by
    simp only [List.mem_cons, List.not_mem_nil, or_false] at hd
    rcases hd with rfl | rfl | rfl | rfl <;> exact ⟨_, rfl, by decide, by decide⟩
  obtain ⟨c, rfl, c0, c1⟩ := hd
  repeat walk_at "ps"
  refine draw_i (by decide) (by decide) fun way w0 w1 => ?_
  repeat walk_at "ps"
  refine sSeq_forC ?_
  repeat walk_at "ps"
  refine draw_i c0 (by omega) fun m m0 m1 => ?_
  repeat walk_at "ps"
  have hi : ∃ q : Int, (if decide ((n : Int) > 1) = true then (1 : Int) else 0) = q ∧ ((n = 1 ∧ q = 0) ∨ (1 < n ∧ q = 1)) := by
    refine ⟨_, rfl, ?_⟩
    by_cases hn : (n : Int) > 1
    · exact .inr ⟨by omega, by rw [decide_eq_true hn]; rfl⟩
    · exact .inl ⟨by omega, by rw [decide_eq_false hn]; rfl⟩
  obtain ⟨q, hq, hn⟩ := hi
  rw [hq]
  have hmq : 0 ≤ m * q ∧ m * q ≤ 16 ∧ (n = 1 → m * q = 0) := by
    rcases hn with ⟨h1, rfl⟩ | ⟨h1, rfl⟩
    · rw [Int.mul_zero]; omega
    · rw [Int.mul_one]; omega
  generalize m * q = mq at hmq ⊢
  refine rgK1_i (by omega) (by omega) ⟨by rw [rangeD_len]; omega, ?_⟩
  refine forP_i (fun i env => ∃ (R : List Rw) (v6 v7 v8 v9 : SV), env = [SV.val (.deck 8), SV.val (.int n), SV.val (gD g), SV.val (.int c), SV.val (.int (way / 2)), SV.own (.lst (R.map rwD)), v6, v7, v8, v9] ∧ R.length = i ∧ ∀ r ∈ R, OkR n r ∧ r.t ≤ 1000000 ∧ okG g r = true) _ 0 ⟨[], _, _, _, _, rfl, rfl, by simp⟩ ?_ ?_
  · rintro i d env hd ⟨R, v6, v7, v8, v9, rfl, hl, hR⟩ N hN
    obtain ⟨rfl, hi⟩ := rangeD_at hd
    have n2 : 1 < n := by
      by_cases w : n = 1
      · have := hmq.2.2 w; omega
      · omega
    repeat walk_at "ps"
    refine draw_i (by decide) (by decide) fun u u0 u1 => ?_
    repeat walk_at "ps"
    refine dIs_gD ?_
    repeat walk_at "ps"
    have hw : ∃ f : Bool, (u * (if g.isSome = true then (1 : Int) else 0) = if f = true then 0 else 1) ∧ (f = false → g.isSome = true) := by
      by_cases w : u * (if g.isSome = true then (1 : Int) else 0) = 0
      · exact ⟨true, w, fun q => nomatch q⟩
      · cases hg : g.isSome with
        | false => rw [hg] at w; simp at w
        | true =>
          rw [hg, if_pos rfl, Int.mul_one] at w
          exact ⟨false, by rw [if_pos rfl, Int.mul_one, if_neg Bool.false_ne_true]; omega, fun _ => rfl⟩
    obtain ⟨f, hf, hfg⟩ := hw
    rw [hf]
    have e1 : ∀ k : D → Prop, k (.str (wS f)) → dIx (.lst [.str (Str.ofString "far"), .str (Str.ofString "gap")]) (.int (if f = true then 0 else 1)) k := fun k hk => by
      cases f with
      | true => exact dIx_l rfl hk
      | false => exact dIx_l rfl hk
    refine e1 _ ?_
    repeat walk_at "ps"
    refine draw_i (by omega) (by omega) fun a a0 a1 => ?_
    repeat walk_at "ps"
    refine draw_i (by omega) (by omega) fun dd d0 d1 => ?_
    repeat walk_at "ps"
    rw [wrap_mod a0 a1 d0 d1]
    have hb : ∃ b : Int, (if a + 1 + dd < n then a + 1 + dd else a + 1 + dd - n) = b ∧ 0 ≤ b ∧ b < n ∧ a ≠ b := ⟨_, rfl, by split <;> omega, by split <;> omega, by split <;> omega⟩
    obtain ⟨b, hb, b0, b1, ne⟩ := hb
    rw [hb]
    repeat walk_at "ps"
    refine sSeq_mid (fun env => ∃ (x y : Int), (0 ≤ x ∧ x < n ∧ 0 ≤ y ∧ y < n ∧ x ≠ y ∧ (f = true → x < y)) ∧ env = [SV.val (.deck 8), SV.val (.int n), SV.val (gD g), SV.val (.int c), SV.val (.int (way / 2)), SV.own (.lst (R.map rwD)), SV.val (.int (0 + (i : Nat))), SV.val (.str (wS f)), SV.val (.int x), SV.val (.int y)]) ?_ ?_
    · intro N' hN'
      repeat walk_at "ps"
      refine dEq_far ?_
      cases f with
      | true =>
        repeat walk_at "ps"
        refine gSorted_i (ns := [a, b]) rfl fun ms hp hs => ?_
        obtain ⟨x, y, rfl, hxy, hc⟩ := srt2 hp hs ne
        refine gtLst_i (ds := [.int x, .int y]) rfl ?_
        repeat walk_at "ps"
        exact hN' _ ⟨x, y, ⟨by omega, by omega, by omega, by omega, by omega, fun _ => hxy⟩, rfl⟩
      | false =>
        repeat walk_at "ps"
        exact hN' _ ⟨a, b, ⟨a0, a1, b0, b1, ne, fun q => nomatch q⟩, rfl⟩
    · rintro env ⟨x, y, ⟨x0, x1, y0, y1, xy, hfx⟩, rfl⟩
      repeat walk_at "ps"
      refine ltimes_i fun t t0 t1 => ?_
      repeat walk_at "ps"
      refine ⟨by rw [List.length_map]; omega, hN _ ⟨R ++ [⟨f, x, y, t⟩], _, _, _, _, by rw [List.map_append]; rfl, by simp [hl], fun r hr => ?_⟩⟩
      rcases List.mem_append.mp hr with q | q
      · exact hR r q
      · rw [List.mem_singleton.mp q]
        refine ⟨⟨x0, x1, y0, y1, xy, t0, by show t ≤ _; omega⟩, t1, ?_⟩
        unfold okG
        cases f with
        | true => exact decide_eq_true (hfx rfl)
        | false => exact hfg rfl
  · rintro env ⟨R, v6, v7, v8, v9, rfl, hl, hR⟩
    rw [rangeD_len] at hl
    repeat walk_at "ps"
    exact h R (by omega) hR fun w => by
      have := hmq.2.2 w
      exact List.eq_nil_of_length_eq_zero (by omega)
def OkGp (g : Option Int) : Prop := ∀ x, g = some x → 0 ≤ x ∧ x ≤ 10000000
theorem gap_i {k : D → Prop} (h : ∀ g, OkGp g → k (gD g)) : wp__law_gap [.deck 8] k := by
  unfold wp__law_gap wpOf
  walk_at "psenv"
  unfold P__law_gap
  repeat walk_at "ps"
  refine draw_i (by decide) (by decide) fun w w0 w1 => ?_
  repeat walk_at "ps"
  refine draw_i (by decide) (by decide) fun a a0 a1 => ?_
  repeat walk_at "ps"
  refine draw_i (by decide) (by decide) fun b b0 b1 => ?_
  repeat walk_at "ps"
  refine dIx_in w0 w1 fun d hd => ?_
  simp only [List.mem_cons, List.not_mem_nil, or_false] at hd
  rcases hd with rfl | rfl | rfl | rfl | rfl | rfl
  · exact h none fun x q => nomatch q
  · exact h (some 0) fun x q => by cases q; omega
  · exact h (some 1) fun x q => by cases q; omega
  · exact h (some a) fun x q => by cases q; omega
  · exact h (some 10000000) fun x q => by cases q; omega
  · exact h (some b) fun x q => by cases q; omega
structure En where
  (x y s l : Int)
abbrev enD (e : En) : D := .tup [.int e.x, .int e.y, .int e.s, .int e.l]
def OkI (x : Int) : Prop := -1000000 ≤ x ∧ x ≤ 1000000
def OkE (e : En) : Prop := OkI e.x ∧ OkI e.y ∧ 0 ≤ e.s ∧ e.s ≤ 1000000 ∧ 0 ≤ e.l ∧ e.l ≤ 1000000
theorem plnInt2 {e : En} {n : Nat} : pln (n + 1) (enD e) = true := by simp [pln, plnA]
theorem plnEn {n : Nat} (es : List En) : plnA (n + 1) (es.map enD) = true := by
  rw [plnA_iff]
  intro x hx
  obtain ⟨e, _, rfl⟩ := List.mem_map.mp hx
  exact plnInt2
theorem number_i {way : Int} {k : D → Prop} (h : ∀ t, OkI t → k (.int t)) : wp__law_number [.deck 8, .int way] k := by
  unfold wp__law_number wpOf
  walk_at "psenv"
  unfold P__law_number
  repeat walk_at "ps"
  refine ite_d (fun _ => ?_) (fun _ => ?_)
  · repeat walk_at "ps"
    exact draw_i (by decide) (by decide) fun t t0 t1 => h t ⟨by omega, by omega⟩
  repeat walk_at "ps"
  refine ite_d (fun _ => ?_) (fun _ => ?_)
  · repeat walk_at "ps"
    refine draw_i (by decide) (by decide) fun t t0 t1 => dIx_in t0 t1 fun d hd => ?_
    simp only [List.mem_cons, List.not_mem_nil, or_false] at hd
    rcases hd with rfl | rfl | rfl | rfl | rfl <;> exact h _ ⟨by decide, by decide⟩
  · repeat walk_at "ps"
    refine draw_i (by decide) (by decide) fun t t0 t1 => ?_
    repeat walk_at "ps"
    exact h _ ⟨by omega, by omega⟩
theorem start_i {way : Int} {k : D → Prop} (h : ∀ t, 0 ≤ t → t ≤ 1000000 → k (.int t)) : wp__law_start [.deck 8, .int way] k := by
  unfold wp__law_start wpOf
  walk_at "psenv"
  unfold P__law_start
  repeat walk_at "ps"
  refine ite_d (fun _ => ?_) (fun _ => ?_)
  · repeat walk_at "ps"
    exact h _ (by decide) (by decide)
  repeat walk_at "ps"
  refine ite_d (fun _ => ?_) (fun _ => ?_)
  · repeat walk_at "ps"
    exact draw_i (by decide) (by decide) fun t t0 t1 => h t (by omega) (by omega)
  repeat walk_at "ps"
  refine draw_i (by decide) (by decide) fun t t0 t1 => ?_
  repeat walk_at "ps"
  refine draw_i (by decide) (by decide) fun u u0 u1 => dIx_in u0 u1 fun d hd => ?_
  simp only [List.mem_cons, List.not_mem_nil, or_false] at hd
  rcases hd with rfl | rfl | rfl
  · exact h _ (by decide) (by decide)
  · exact h _ (by decide) (by decide)
  · exact h _ (by omega) (by omega)
theorem ends24_i {k : D → Prop} (h : ∀ es : List En, 1 ≤ es.length → es.length ≤ 24 → (∀ e ∈ es, OkE e) → k (.tup (es.map enD))) : wp__law_ends [.deck 8, .int 24] k := by
  unfold wp__law_ends wpOf
  walk_at "psenv"
  unfold P__law_ends
  repeat walk_at "ps"
  refine draw_i (by decide) (by decide) fun t t0 t1 => ?_
  repeat walk_at "ps"
  have hg : ∃ g : Int, (if decide (t = 5) = true then (1 : Int) else 0) = g ∧ (g = 0 ∨ g = 1) := ⟨_, rfl, by split <;> simp⟩
  obtain ⟨g, hg, g01⟩ := hg
  rw [hg]
  refine dIx_in (by omega) (by show g < 2; omega) fun d hd => ?_
  have hd : ∃ c : Int, d = .int c ∧ 0 < c ∧ c ≤ 24 := by
    simp only [List.mem_cons, List.not_mem_nil, or_false] at hd
    rcases hd with rfl | rfl
    · exact ⟨_, rfl, by decide, by decide⟩
    · exact ⟨_, rfl, by decide, by decide⟩
  obtain ⟨mo, rfl, mo0, mo1⟩ := hd
  repeat walk_at "ps"
  refine draw_i mo0 (by omega) fun m m0 m1 => ?_
  repeat walk_at "ps"
  refine draw_i (by decide) (by decide) fun u u0 u1 => ?_
  repeat walk_at "ps"
  have hf : ∃ f : Int, (if decide (u = 1) = true then (1 : Int) else 0) = f ∧ (f = 0 ∨ f = 1) := ⟨_, rfl, by split <;> simp⟩
  obtain ⟨f, hf, f01⟩ := hf
  rw [hf]
  have hgf : g * f = 0 ∨ g * f = 1 := by
    rcases g01 with rfl | rfl <;> rcases f01 with rfl | rfl <;> simp
  refine dIx_in (by omega) (by show g * f < 2; omega) fun d hd => ?_
  have hd : ∃ n : Int, d = .int n ∧ 1 ≤ n ∧ n ≤ 24 := by
    simp only [List.mem_cons, List.not_mem_nil, or_false] at hd
    rcases hd with rfl | rfl
    · exact ⟨_, rfl, by omega, by omega⟩
    · exact ⟨_, rfl, by decide, by decide⟩
  obtain ⟨n, rfl, n0, n1⟩ := hd
  repeat walk_at "ps"
  refine draw_i (by decide) (by decide) fun w w0 w1 => dIx_in w0 w1 fun d hd => ?_
  have hd : ∃ w : Int, d = .int w := by
    simp only [List.mem_cons, List.not_mem_nil, or_false] at hd
    rcases hd with rfl | rfl | rfl | rfl <;> exact ⟨_, rfl⟩
  obtain ⟨w, rfl⟩ := hd
  repeat walk_at "ps"
  refine draw_i (by decide) (by decide) fun ln l0 l1 => ?_
  repeat walk_at "ps"
  refine draw_i (by decide) (by decide) fun st st0 st1 => ?_
  repeat walk_at "ps"
  refine sSeq_forC ?_
  repeat walk_at "ps"
  refine rgK1_i (by omega) (by omega) ⟨by rw [rangeD_len]; omega, ?_⟩
  refine forP_i (fun i env => ∃ (es : List En) (v8 v9 v10 v11 : SV), env = [SV.val (.deck 8), SV.val (.int 24), SV.val (.int g), SV.val (.int n), SV.val (.int w), SV.val (.int ln), SV.val (.int st), SV.own (.lst (es.map enD)), v8, v9, v10, v11] ∧ es.length = i ∧ ∀ e ∈ es, OkE e) _ 0 ⟨[], _, _, _, _, rfl, rfl, by simp⟩ ?_ ?_
  · rintro i d env hd ⟨es, v8, v9, v10, v11, rfl, hl, ho⟩ N hN
    obtain ⟨rfl, hi⟩ := rangeD_at hd
    repeat walk_at "ps"
    refine draw_i (by decide) (by decide) fun ag a0 a1 => ?_
    repeat walk_at "ps"
    refine number_i fun px hpx => ?_
    repeat walk_at "ps"
    refine number_i fun py hpy => ?_
    repeat walk_at "ps"
    refine dIx_in l0 l1 fun d hd => ?_
    have hd : ∃ q : Int, d = .int q ∧ 0 ≤ q ∧ q < 3 := by
      simp only [List.mem_cons, List.not_mem_nil, or_false] at hd
      rcases hd with rfl | rfl | rfl | rfl | rfl | rfl <;> exact ⟨_, rfl, by decide, by decide⟩
    obtain ⟨q, rfl, q0, q1⟩ := hd
    refine dIx_in q0 q1 fun d hd => ?_
    have hd : ∃ y : Int, d = .int y ∧ OkI y := by
      unfold OkI at hpx ⊢
      simp only [List.mem_cons, List.not_mem_nil, or_false] at hd
      rcases hd with rfl | rfl | rfl
      · exact ⟨_, rfl, hpy⟩
      · exact ⟨_, rfl, by decide, by decide⟩
      · exact ⟨_, rfl, by omega, by omega⟩
    obtain ⟨py, rfl, hpy⟩ := hd
    repeat walk_at "ps"
    refine sSeq_mid (fun env => ∃ (px py : Int), OkI px ∧ OkI py ∧ env = [SV.val (.deck 8), SV.val (.int 24), SV.val (.int g), SV.val (.int n), SV.val (.int w), SV.val (.int ln), SV.val (.int st), SV.own (.lst (es.map enD)), SV.val (.int (0 + (i : Nat))), SV.val (.int ag), SV.val (.int px), SV.val (.int py)]) ?_ ?_
    · intro N' hN'
      have skip : N' [SV.val (.deck 8), SV.val (.int 24), SV.val (.int g), SV.val (.int n), SV.val (.int w), SV.val (.int ln), SV.val (.int st), SV.own (.lst (es.map enD)), SV.val (.int (0 + (i : Nat))), SV.val (.int ag), SV.val (.int px), SV.val (.int py)] := hN' _ ⟨px, py, hpx, hpy, rfl⟩
      repeat walk_at "ps"
      refine ite_d (fun _ => ?_) (fun _ => skip)
      repeat walk_at "ps"
      refine dNe_nil (plnEn es) ?_
      repeat walk_at "ps"
      refine ite_n (fun hne => ?_) (fun _ => skip)
      have hpos : 0 < es.length := List.length_pos_iff.mpr fun q => hne (by rw [q]; rfl)
      repeat walk_at "ps"
      refine draw_i (by rw [List.length_map]; omega) (by rw [List.length_map]; omega) fun j j0 j1 => ?_
      refine dIx_in j0 j1 fun d hd => ?_
      obtain ⟨e, he, rfl⟩ := List.mem_map.mp hd
      repeat walk_at "ps"
      exact hN' _ ⟨e.x, e.y, (ho e he).1, (ho e he).2.1, rfl⟩
    · rintro env ⟨px, py, hpx, hpy, rfl⟩
      repeat walk_at "ps"
      refine start_i fun s s0 s1 => ?_
      repeat walk_at "ps"
      refine draw_i (by decide) (by decide) fun l l0 l1 => ?_
      repeat walk_at "ps"
      refine ⟨by rw [List.length_map]; omega, hN _ ⟨es ++ [⟨px, py, s, l⟩], _, _, _, _, by rw [List.map_append]; rfl, by simp [hl], fun e he => ?_⟩⟩
      rcases List.mem_append.mp he with q | q
      · exact ho e q
      · rw [List.mem_singleton.mp q]
        exact ⟨hpx, hpy, s0, s1, l0, by show l ≤ 1000000; omega⟩
  · rintro env ⟨es, v8, v9, v10, v11, rfl, hl, ho⟩
    rw [rangeD_len] at hl
    repeat walk_at "ps"
    exact h es (by omega) (by omega) ho
abbrev Jn := List (Int × Int)
def rgI (n : Nat) : List Int := (List.range n).map fun i : Nat => ((i : Nat) : Int)
theorem rgI_succ (n : Nat) : rgI (n + 1) = rgI n ++ [(n : Int)] := by
  unfold rgI
  rw [List.range_succ, List.map_append]
  rfl
def sds (J : Jn) : List Int := J.flatMap fun r => [r.1, r.2]
def at? {α : Type} (L : List (List α)) (i : Int) : List α := (L[i.toNat]?).getD []
def ext {α : Type} (L : List (List α)) : Jn → List (List α)
  | [] => L
  | r :: J => ext (L ++ [at? L r.1 ++ at? L r.2]) J
def JV : Nat → Jn → Prop
  | _, [] => True
  | n, r :: J => (0 ≤ r.1 ∧ r.1 < n ∧ 0 ≤ r.2 ∧ r.2 < n) ∧ JV (n + 1) J
/-- a joining of n ends, each knot but the last one in just one row -/
structure JOk (n : Nat) (J : Jn) : Prop where
  v : JV n J
  len : J.length + 1 = n
  use : (sds J ++ [(n : Int) + J.length - 1]).Perm (rgI (n + J.length))
  all : ∀ {α : Type} (L : List (List α)), L.length = n → (at? (ext L J) ((n : Int) + J.length - 1)).Perm L.flatten
  few : ∀ {α : Type} (L : List (List α)), L.length = n → ∀ i, (at? (ext L J) i).length ≤ L.flatten.length
abbrev jD (r : Int × Int) : D := .tup [.int r.1, .int r.2]
structure JInv (n i : Nat) (W : List Int) (J : Jn) : Prop where
  wl : W.length + i = n
  jl : J.length = i
  v : JV n J
  use : (sds J ++ W).Perm (rgI (n + i))
  few : ∀ {α : Type} (L : List (List α)), L.length = n → ∀ i, (at? (ext L J) i).length ≤ L.flatten.length
  all : ∀ {α : Type} (L : List (List α)), L.length = n → (W.flatMap fun w => at? (ext L J) w).Perm L.flatten
theorem ext_len {α : Type} : ∀ (J : Jn) (L : List (List α)), (ext L J).length = L.length + J.length
  | [], L => rfl
  | r :: J, L => by unfold ext; rw [ext_len J]; simp; omega
theorem ext_snoc {α : Type} : ∀ (J : Jn) (L : List (List α)) (r : Int × Int), ext L (J ++ [r]) = ext L J ++ [at? (ext L J) r.1 ++ at? (ext L J) r.2]
  | [], L, r => rfl
  | q :: J, L, r => by
    show ext (L ++ [at? L q.1 ++ at? L q.2]) (J ++ [r]) = _
    rw [ext_snoc J]
    rfl
theorem jv_snoc : ∀ (J : Jn) (n : Nat) (r : Int × Int), JV n J → 0 ≤ r.1 → r.1 < (n + J.length : Nat) → 0 ≤ r.2 → r.2 < (n + J.length : Nat) → JV n (J ++ [r])
  | [], n, r, _, h1, h2, h3, h4 => ⟨⟨h1, by simpa using h2, h3, by simpa using h4⟩, trivial⟩
  | q :: J, n, r, hv, h1, h2, h3, h4 => ⟨hv.1, jv_snoc J (n + 1) r hv.2 h1 (by simp at h2 ⊢; omega) h3 (by simp at h4 ⊢; omega)⟩
theorem rgI_mem {n : Nat} {w : Int} : w ∈ rgI n ↔ 0 ≤ w ∧ w < n := by
  unfold rgI
  rw [List.mem_map]
  constructor
  · rintro ⟨i, hi, rfl⟩
    have := List.mem_range.mp hi
    omega
  · rintro ⟨h0, h1⟩
    exact ⟨w.toNat, List.mem_range.mpr (by omega), by omega⟩
theorem JInv.bnd {n i : Nat} {W : List Int} {J : Jn} (h : JInv n i W J) {w : Int} (hw : w ∈ W) : 0 ≤ w ∧ w < (n + i : Nat) := rgI_mem.mp (h.use.mem_iff.mp (List.mem_append_right _ hw))
theorem mem_sds {J : Jn} {x : Int} : x ∈ sds J ↔ ∃ (i : Nat) (r : Int × Int), J[i]? = some r ∧ (x = r.1 ∨ x = r.2) := by
  unfold sds
  rw [List.mem_flatMap]
  constructor
  · rintro ⟨r, hr, hx⟩
    obtain ⟨i, hi⟩ := List.getElem?_of_mem hr
    exact ⟨i, r, hi, by simpa using hx⟩
  · rintro ⟨i, r, hi, hx⟩
    exact ⟨r, List.mem_of_getElem? hi, by simpa using hx⟩
structure Abv (n m : Nat) (J : Jn) (A : List D) : Prop where
  len : A.length = m
  hit : ∀ (i : Nat) (r : Int × Int), J[i]? = some r → A[r.1.toNat]? = some (.int ((n + i : Nat) : Int)) ∧ A[r.2.toNat]? = some (.int ((n + i : Nat) : Int))
  off : ∀ x : Nat, x < m → ((x : Nat) : Int) ∉ sds J → A[x]? = some .non
theorem Abv.step {n m : Nat} {J : Jn} {A : List D} {r : Int × Int} (h : Abv n m J A) (hn : (sds (J ++ [r])).Nodup) (h0 : ∀ x ∈ sds (J ++ [r]), 0 ≤ x ∧ x < m) : Abv n m (J ++ [r]) ((A.set r.1.toNat (.int ((n + J.length : Nat) : Int))).set r.2.toNat (.int ((n + J.length : Nat) : Int))) := by
  have hl := h.len
  have e : sds (J ++ [r]) = sds J ++ [r.1, r.2] := by simp [sds]
  rw [e] at hn h0
  have b1 := h0 r.1 (by simp)
  have b2 := h0 r.2 (by simp)
  have nj := (List.nodup_append.mp hn).2.2
  have n1 : r.1 ∉ sds J := fun q => nj _ q _ List.mem_cons_self rfl
  have n2 : r.2 ∉ sds J := fun q => nj _ q _ (List.mem_cons_of_mem _ List.mem_cons_self) rfl
  refine ⟨by simp [hl], fun i r' hr => ?_, fun x hx hs => ?_⟩
  · by_cases hi : i < J.length
    · rw [List.getElem?_append_left hi] at hr
      have m1 : r'.1 ∈ sds J := mem_sds.mpr ⟨i, r', hr, .inl rfl⟩
      have m2 : r'.2 ∈ sds J := mem_sds.mpr ⟨i, r', hr, .inr rfl⟩
      have c1 := h0 r'.1 (List.mem_append_left _ m1)
      have c2 := h0 r'.2 (List.mem_append_left _ m2)
      have ne : ∀ a b : Int, 0 ≤ a → 0 ≤ b → a ∈ sds J → b ∉ sds J → b.toNat ≠ a.toNat := fun a b a0 b0 ha hb q => hb (by rw [show b = a by omega]; exact ha)
      obtain ⟨q1, q2⟩ := h.hit i r' hr
      rw [List.getElem?_set_ne (ne _ _ c1.1 b2.1 m1 n2), List.getElem?_set_ne (ne _ _ c1.1 b1.1 m1 n1), List.getElem?_set_ne (ne _ _ c2.1 b2.1 m2 n2), List.getElem?_set_ne (ne _ _ c2.1 b1.1 m2 n1)]
      exact ⟨q1, q2⟩
    · rw [List.getElem?_append_right (by omega)] at hr
      have hi0 : i = J.length := by
        have := (List.getElem?_eq_some_iff.mp hr).1
        simp at this
        omega
      rw [hi0, Nat.sub_self] at hr
      cases hr
      rw [hi0]
      constructor
      · by_cases q : r.2.toNat = r.1.toNat
        · rw [q, List.getElem?_set_self (by simp; omega)]
        · rw [List.getElem?_set_ne q, List.getElem?_set_self (by omega)]
      · rw [List.getElem?_set_self (by simp; omega)]
  · rw [e] at hs
    simp only [List.mem_append, List.mem_cons, List.not_mem_nil, or_false, not_or] at hs
    rw [List.getElem?_set_ne (by omega), List.getElem?_set_ne (by omega)]
    exact h.off x hx hs.1
theorem JInv.step {n i : Nat} {W W2 W' : List Int} {J : Jn} {x y : Int} {r : Int × Int} (h : JInv n i W J) (hx : W.Perm (x :: y :: W2)) (hr : r = (x, y) ∨ r = (y, x)) (hW' : W'.Perm (((n + i : Nat) : Int) :: W2)) : JInv n (i + 1) W' (J ++ [r]) := by
  have bx := h.bnd (hx.mem_iff.mpr List.mem_cons_self)
  have by' := h.bnd (hx.mem_iff.mpr (List.mem_cons_of_mem _ List.mem_cons_self))
  have hr1 : 0 ≤ r.1 ∧ r.1 < (n + i : Nat) ∧ 0 ≤ r.2 ∧ r.2 < (n + i : Nat) := by
    rcases hr with rfl | rfl
    · exact ⟨bx.1, bx.2, by'.1, by'.2⟩
    · exact ⟨by'.1, by'.2, bx.1, bx.2⟩
  have hjl := h.jl
  have hw2 : ∀ w ∈ W2, 0 ≤ w ∧ w < (n + i : Nat) := fun w q => h.bnd (hx.mem_iff.mpr (List.mem_cons_of_mem _ (List.mem_cons_of_mem _ q)))
  have p1 : ∀ {α : Type} (L : List (List α)), (W.flatMap fun w => at? (ext L J) w).Perm (at? (ext L J) x ++ (at? (ext L J) y ++ W2.flatMap fun w => at? (ext L J) w)) := fun L => by
    refine (List.Perm.flatMap_right _ hx).trans ?_
    rw [List.flatMap_cons, List.flatMap_cons]
  refine ⟨?_, by simp [hjl], jv_snoc J n r h.v hr1.1 (by rw [hjl]; exact hr1.2.1) hr1.2.2.1 (by rw [hjl]; exact hr1.2.2.2), ?_, fun {α} L hL j => ?_, fun {α} L hL => ?_⟩
  · have l1 := hx.length_eq
    have l2 := hW'.length_eq
    have l3 := h.wl
    simp only [List.length_cons] at l1 l2
    omega
  · have e : sds (J ++ [r]) = sds J ++ [r.1, r.2] := by simp [sds]
    rw [e, show n + (i + 1) = (n + i) + 1 by omega, rgI_succ]
    have q1 : (sds J ++ [r.1, r.2] ++ W').Perm (sds J ++ (x :: y :: W2) ++ [((n + i : Nat) : Int)]) := by
      rw [List.append_assoc, List.append_assoc]
      refine List.Perm.append_left _ ?_
      have q2 : ([r.1, r.2] : List Int).Perm [x, y] := by
        rcases hr with rfl | rfl
        · exact List.Perm.refl _
        · exact List.Perm.swap _ _ _
      refine (List.Perm.append q2 hW').trans ?_
      show (x :: y :: ((n + i : Nat) : Int) :: W2).Perm (x :: y :: (W2 ++ [((n + i : Nat) : Int)]))
      exact ((List.perm_append_singleton _ _).symm.cons y).cons x
    refine q1.trans (List.Perm.append_right _ ?_)
    exact (List.Perm.append_left _ hx.symm).trans h.use
  · have p2 := (p1 L).length_eq
    rw [(h.all L hL).length_eq, List.length_append, List.length_append] at p2
    rw [ext_snoc]
    unfold at?
    by_cases q : j.toNat < (ext L J).length
    · rw [List.getElem?_append_left q]
      exact h.few L hL j
    · rw [List.getElem?_append_right (Nat.not_lt.mp q)]
      cases w : j.toNat - (ext L J).length with
      | zero =>
        show (at? (ext L J) r.1 ++ at? (ext L J) r.2).length ≤ _
        rw [List.length_append]
        rcases hr with rfl | rfl
        · show (at? (ext L J) x).length + (at? (ext L J) y).length ≤ _
          omega
        · show (at? (ext L J) y).length + (at? (ext L J) x).length ≤ _
          omega
      | succ w => simp
  · have el : (ext L J).length = n + i := by rw [ext_len, hL, hjl]
    have o : ∀ w : Int, 0 ≤ w → w < (n + i : Nat) → at? (ext L (J ++ [r])) w = at? (ext L J) w := fun w w0 w1 => by
      rw [ext_snoc]
      unfold at?
      rw [List.getElem?_append_left (by omega)]
    have nw : at? (ext L (J ++ [r])) ((n + i : Nat) : Int) = at? (ext L J) r.1 ++ at? (ext L J) r.2 := by
      rw [ext_snoc]
      unfold at?
      rw [Int.toNat_natCast, ← el]
      simp
    refine (List.Perm.flatMap_right _ hW').trans ?_
    rw [List.flatMap_cons, nw]
    have e2 : (W2.flatMap fun w => at? (ext L (J ++ [r])) w) = W2.flatMap fun w => at? (ext L J) w := by
      rw [List.flatMap_def, List.flatMap_def]
      congr 1
      exact List.map_congr_left fun w q => o w (hw2 w q).1 (hw2 w q).2
    rw [e2]
    refine List.Perm.trans ?_ (h.all L hL)
    refine List.Perm.trans ?_ (p1 L).symm
    rcases hr with rfl | rfl
    · rw [List.append_assoc]
    · rw [← List.append_assoc]
      exact List.Perm.append_right _ List.perm_append_comm
theorem perm_er {α : Type} : ∀ {W : List α} {i : Nat} {x : α}, W[i]? = some x → W.Perm (x :: W.eraseIdx i)
  | [], i, x, h => by simp at h
  | w :: W, 0, x, h => by simp at h; subst h; exact List.Perm.refl _
  | w :: W, i + 1, x, h => by
    have := perm_er (W := W) (i := i) (x := x) (by simpa using h)
    exact (this.cons w).trans (List.Perm.swap x w _)
theorem er_map {α β : Type} (f : α → β) : ∀ (W : List α) (i : Nat), (W.map f).eraseIdx i = (W.eraseIdx i).map f
  | [], i => by simp
  | w :: W, 0 => by simp
  | w :: W, i + 1 => by simp [er_map f W i]
theorem len_fl {α : Type} : ∀ {L : List (List α)} {l : List α}, l ∈ L → l.length ≤ L.flatten.length
  | a :: L, l, h => by
    rw [List.flatten_cons, List.length_append]
    rcases List.mem_cons.mp h with q | q
    · rw [q]; omega
    · have := len_fl q; omega
theorem at_len {α : Type} {L : List (List α)} {i : Int} : (at? L i).length ≤ L.flatten.length := by
  unfold at?
  cases q : L[i.toNat]? with
  | none => simp
  | some l => exact len_fl (List.mem_of_getElem? q)
theorem rgI_len (n : Nat) : (rgI n).length = n := by simp [rgI]
theorem JInv.start (n : Nat) : JInv n 0 (rgI n) [] := by
  refine ⟨by rw [rgI_len]; rfl, rfl, trivial, List.Perm.refl _, fun L _ i => at_len, ?_⟩
  intro α L hL
  have : (rgI n).flatMap (fun w => at? (ext L []) w) = L.flatten := by
    unfold rgI
    rw [List.flatMap_map, ← hL]
    show (List.range L.length).flatMap (fun i => at? L ((i : Nat) : Int)) = _
    have e : L = (List.range L.length).map fun i => at? L ((i : Nat) : Int) := by
      apply List.ext_getElem?
      intro i
      by_cases hi : i < L.length
      · rw [List.getElem?_map, List.getElem?_range hi]
        show _ = some (at? L (i : Int))
        unfold at?
        rw [Int.toNat_natCast, List.getElem?_eq_getElem hi]
        rfl
      · rw [List.getElem?_eq_none (by omega), List.getElem?_eq_none (by simp; omega)]
    rw [List.flatMap_def, ← e]
  rw [this]
theorem JInv.done {n i : Nat} {w : Int} {J : Jn} (h : JInv n i [w] J) (hw : w = (n : Int) + i - 1) : JOk n J := by
  have h1 := h.wl
  have h2 := h.jl
  simp only [List.length_singleton] at h1
  subst h2
  subst hw
  refine ⟨h.v, by omega, h.use, fun {α} L hL => ?_, h.few⟩
  have := h.all L hL
  rw [List.flatMap_cons, List.flatMap_nil, List.append_nil] at this
  exact this
theorem seqIx {i : Int} {n : Nat} (h0 : 0 ≤ i) (h1 : i < n) : seqIndex? i n = some i.toNat := by
  unfold seqIndex?
  simp
  omega
theorem joining_i {n : Nat} {k : D → Prop} (n0 : 1 ≤ n) (n1 : n ≤ 24) (h : ∀ J, JOk n J → k (.tup (J.map jD))) : wp__law_joining [.deck 8, .int n] k := by
  unfold wp__law_joining wpOf
  walk_at "psenv"
  unfold P__law_joining
  repeat walk_at "ps"
  refine dRg_i (by omega) ?_
  repeat walk_at "ps"
  refine draw_i (by decide) (by decide) fun t t0 t1 => ?_
  repeat walk_at "ps"
  refine sSeq_forC ?_
  repeat walk_at "ps"
  refine rgK1_i (by omega) (by omega) ⟨by rw [rangeD_len]; omega, ?_⟩
  generalize decide (t = 3) = bb
  have hr : rangeD 0 ((n : Int) - 0).toNat = (rgI n).map D.int := by
    unfold rangeD rgI
    rw [List.map_map, show ((n : Int) - 0).toNat = n by omega]
    apply List.map_congr_left
    intro i _
    show D.int (0 + (i : Int)) = D.int (i : Int)
    rw [Int.zero_add]
  rw [hr]
  refine forP_i (fun i env => ∃ (W : List Int) (J : Jn) (v5 v6 v7 v8 : SV), env = [SV.val (.deck 8), SV.val (.int n), SV.own (.lst (W.map D.int)), SV.own (.lst (J.map jD)), SV.val (.bl bb), v5, v6, v7, v8] ∧ JInv n i W J ∧ W.getLast? = some ((n : Int) + i - 1)) _ 0 ⟨rgI n, [], _, _, _, _, rfl, JInv.start n, ?_⟩ ?_ ?_
  · obtain ⟨m, rfl⟩ : ∃ m, n = m + 1 := ⟨n - 1, by omega⟩
    rw [rgI_succ, List.getLast?_append]
    simp
  · rintro i d env hd ⟨W, J, v5, v6, v7, v8, rfl, hI, hla⟩ N hN
    obtain ⟨rfl, hi⟩ := rangeD_at hd
    have hW := hI.wl
    have hJ := hI.jl
    have hW2 : 2 ≤ W.length := by omega
    repeat walk_at "ps"
    refine draw_i (by decide) (by decide) fun tu tu0 tu1 => ?_
    repeat walk_at "ps"
    rw [List.length_map]
    refine draw_i (by omega) (by omega) fun a0 a00 a01 => ?_
    repeat walk_at "ps"
    have sel : ∀ (a0 b0 : Int) (m : Nat), 0 ≤ a0 → a0 < m → 0 ≤ b0 → b0 < m → ∀ d ∈ [D.int a0, D.int b0], ∃ a : Int, d = .int a ∧ 0 ≤ a ∧ a < m := fun a0 b0 m q0 q1 q2 q3 d hd => by
      simp only [List.mem_cons, List.not_mem_nil, or_false] at hd
      rcases hd with rfl | rfl
      · exact ⟨a0, rfl, q0, q1⟩
      · exact ⟨b0, rfl, q2, q3⟩
    refine dIx_in (by split <;> decide) (by cases bb <;> simp) fun d hd => ?_
    obtain ⟨a, rfl, ha0, ha1⟩ := sel a0 _ W.length a00 a01 (by rw [List.length_map]; omega) (by rw [List.length_map]; omega) d hd
    repeat walk_at "ps"
    have hal : a.toNat < W.length := by omega
    refine ⟨by omega, a.toNat, .int W[a.toNat], seqIx ha0 ha1, by rw [List.getElem?_map, List.getElem?_eq_getElem hal]; rfl, ?_⟩
    repeat walk_at "ps"
    have hx := perm_er (List.getElem?_eq_getElem hal)
    have hW1 : (W.eraseIdx a.toNat).length = W.length - 1 := by rw [List.length_eraseIdx_of_lt hal]
    have hm1 : ((W.map D.int).eraseIdx a.toNat) = (W.eraseIdx a.toNat).map D.int := er_map _ _ _
    generalize W[a.toNat] = x at *
    rw [hm1]
    generalize W.eraseIdx a.toNat = W1 at *
    rw [List.length_map]
    refine draw_i (by omega) (by omega) fun b hb0 hb1 => ?_
    repeat walk_at "ps"
    have hbl : b.toNat < W1.length := by omega
    refine ⟨by omega, b.toNat, .int W1[b.toNat], seqIx hb0 hb1, by rw [List.getElem?_map, List.getElem?_eq_getElem hbl]; rfl, ?_⟩
    have hy := perm_er (List.getElem?_eq_getElem hbl)
    have hW3 : (W1.eraseIdx b.toNat).length = W1.length - 1 := by rw [List.length_eraseIdx_of_lt hbl]
    have hm2 : ((W1.map D.int).eraseIdx b.toNat) = (W1.eraseIdx b.toNat).map D.int := er_map _ _ _
    generalize W1[b.toNat] = y at *
    rw [hm2]
    generalize W1.eraseIdx b.toNat = W2 at *
    have hxy : W.Perm (x :: y :: W2) := hx.trans (hy.cons x)
    have fin : ∀ r : Int × Int, (r = (x, y) ∨ r = (y, x)) → ∀ v5 v6 v7 v8, N [SV.val (.deck 8), SV.val (.int n), SV.own (.lst ((W2 ++ [(n : Int) + i]).map D.int)), SV.own (.lst ((J ++ [r]).map jD)), SV.val (.bl bb), v5, v6, v7, v8] := by
      intro r hr v5 v6 v7 v8
      refine hN _ ⟨_, _, _, _, _, _, rfl, ?_, ?_⟩
      · rw [Nat.zero_add] at hI ⊢
        exact hI.step hxy hr (List.perm_append_singleton _ _)
      · rw [List.getLast?_append]
        simp
        omega
    repeat walk_at "ps"
    have : tu = 0 ∨ tu = 1 := by omega
    rcases this with rfl | rfl
    · repeat walk_at "ps"
      refine ⟨by rw [List.length_map]; omega, ?_⟩
      repeat walk_at "ps"
      refine ⟨by rw [List.length_map]; omega, ?_⟩
      have := fin (x, y) (.inl rfl)
      rw [List.map_append, List.map_append] at this
      rw [Int.zero_add]
      exact this _ _ _ _
    · repeat walk_at "ps"
      refine ⟨by rw [List.length_map]; omega, ?_⟩
      repeat walk_at "ps"
      refine ⟨by rw [List.length_map]; omega, ?_⟩
      have := fin (y, x) (.inr rfl)
      rw [List.map_append, List.map_append] at this
      rw [Int.zero_add]
      exact this _ _ _ _
  · rintro env ⟨W, J, v5, v6, v7, v8, rfl, hI, hla⟩
    rw [rangeD_len] at *
    have hW := hI.wl
    repeat walk_at "ps"
    obtain ⟨w, rfl⟩ : ∃ w, W = [w] := List.length_eq_one_iff.mp (by omega)
    refine h J (hI.done ?_)
    simpa using hla
def up : Nat → Jn → Int → List Int
  | _, [], x => [x]
  | m, r :: J, x => if x = r.1 ∨ x = r.2 then x :: up (m + 1) J m else up (m + 1) J x
/-- the knots of a's chain ahead of where it meets b's -/
def side (n : Nat) (J : Jn) (a b : Int) : List Int := (up n J a).filter fun w => !decide (w ∈ up n J b)
theorem sPut_i {i : Nat} {pi pe : PX} {env : List SV} {xs : List D} {K : PK'} (e : env[i]? = some (.own (.lst xs))) (h : pe env fun y => pi env fun d => inK d fun n => ∃ jj, ixN xs.length n = some jj ∧ K.nx (env.set i (.own (.lst (xs.set jj y))))) : sPut i pi pe env K := by
  unfold sPut
  rw [e]
  exact h
theorem at_nat {α : Type} {xs : List α} {i : Int} {d : α} (h0 : 0 ≤ i) (h : xs[i.toNat]? = some d) : atI xs i = some d := by
  have hl : i.toNat < xs.length := (List.getElem?_eq_some_iff.mp h).1
  unfold atI ixN
  rw [if_pos h0, if_pos (by omega)]
  exact h
theorem rgI_nd (n : Nat) : (rgI n).Nodup := by
  induction n with
  | zero => exact List.nodup_nil
  | succ n ih =>
    rw [rgI_succ, List.nodup_append]
    refine ⟨ih, by simp, fun a ha b hb => ?_⟩
    have := rgI_mem.mp ha
    rw [List.mem_singleton.mp hb]
    omega
theorem JOk.nd {n : Nat} {J : Jn} (h : JOk n J) : (sds J).Nodup := by
  have : (sds J ++ [(n : Int) + J.length - 1]).Nodup := h.use.symm.nodup (rgI_nd _)
  exact (List.nodup_append.mp this).1
theorem sds_bnd {n : Nat} {J : Jn} (h : JOk n J) : ∀ x ∈ sds J, 0 ≤ x ∧ x < (n + J.length : Nat) := fun x hx => rgI_mem.mp (h.use.mem_iff.mp (List.mem_append_left _ hx))
theorem sds_take {J : Jn} (i : Nat) : (sds (J.take i)).Sublist (sds J) := by
  have : sds J = sds (J.take i) ++ sds (J.drop i) := by
    unfold sds
    rw [← List.flatMap_append, List.take_append_drop]
  rw [this]
  exact List.sublist_append_left _ _
theorem rep_non (m : Nat) : (List.replicate m [D.non]).flatten = List.replicate m D.non := by
  induction m with
  | zero => rfl
  | succ m ih => rw [List.replicate_succ, List.flatten_cons, ih]; rfl
theorem above_i {n : Nat} {J : Jn} {k : D → Prop} (n1 : n ≤ 24) (hJ : JOk n J) (h : ∀ A, Abv n (n + J.length) J A → k (.lst A)) : wp__law_above [.int n, .tup (J.map jD)] k := by
  have hl := hJ.len
  unfold wp__law_above wpOf
  walk_at "psenv"
  unfold P__law_above
  repeat walk_at "ps"
  have et : (2 * (n : Int) - 1).toNat = n + J.length := by omega
  refine ⟨by omega, by rw [et]; show 1 * _ ≤ _; omega, by omega, ?_⟩
  rw [et, rep_non]
  repeat walk_at "ps"
  rw [List.length_map]
  refine rgK1_i (by omega) (by omega) ?_
  refine forP_i (fun i env => ∃ (A : List D) (v3 v4 : SV), env = [SV.val (.int n), SV.val (.tup (J.map jD)), SV.own (.lst A), v3, v4] ∧ Abv n (n + J.length) (J.take i) A) _ 0 ⟨_, _, _, rfl, ?_⟩ ?_ ?_
  · refine ⟨by simp, fun i r q => by simp at q, fun x hx _ => ?_⟩
    rw [List.getElem?_replicate, if_pos hx]
  · rintro i d env hd ⟨A, v3, v4, rfl, hA⟩ N hN
    obtain ⟨rfl, hi'⟩ := rangeD_at hd
    have hi : i < J.length := by omega
    obtain ⟨r, hr⟩ : ∃ r, J[i]? = some r := ⟨J[i], List.getElem?_eq_getElem hi⟩
    rw [Nat.zero_add] at hA hN
    have et : J.take (i + 1) = J.take i ++ [r] := by rw [List.take_add_one, hr]; rfl
    have hs := hA.step (r := r) (by rw [← et]; exact (sds_take (i + 1)).nodup hJ.nd) (by rw [← et]; exact fun x hx => sds_bnd hJ x ((sds_take (i + 1)).subset hx))
    rw [← et, List.length_take, Nat.min_eq_left (by omega)] at hs
    have hal := hA.len
    have b1 := sds_bnd hJ r.1 (mem_sds.mpr ⟨i, r, hr, .inl rfl⟩)
    have b2 := sds_bnd hJ r.2 (mem_sds.mpr ⟨i, r, hr, .inr rfl⟩)
    have ix : ∀ (A : List D) (x : Int), 0 ≤ x → x < A.length → ixN A.length x = some x.toNat := fun A x x0 x1 => by
      unfold ixN
      rw [if_pos x0, if_pos x1]
    repeat walk_at "ps"
    refine dIx_t (d := jD r) (at_nat (by omega) (by rw [List.getElem?_map, show ((0 : Int) + (i : Nat)).toNat = i by omega, hr]; rfl)) ?_
    repeat walk_at "ps"
    show forP _ _ [.int r.1, .int r.2] _ _
    unfold forP
    repeat walk_at "ps"
    refine sPut_i (xs := A) rfl ?_
    repeat walk_at "ps"
    refine ⟨_, ix _ _ b1.1 (by omega), ?_⟩
    unfold forP
    repeat walk_at "ps"
    refine sPut_i rfl ?_
    repeat walk_at "ps"
    refine ⟨_, ix _ _ b2.1 (by rw [List.length_set]; omega), ?_⟩
    unfold forP
    have e : (n : Int) + (0 + (i : Nat)) = ((n + i : Nat) : Int) := by omega
    dsimp only
    rw [e]
    exact hN _ ⟨_, _, _, rfl, hs⟩
  · rintro env ⟨A, v3, v4, rfl, hA⟩
    rw [rangeD_len, show ((J.length : Nat) : Int).toNat = J.length by omega, Nat.zero_add, List.take_length] at hA
    repeat walk_at "ps"
    exact h A hA
theorem up_len : ∀ (J : Jn) (m : Nat) (x : Int), (up m J x).length ≤ J.length + 1
  | [], _, _ => Nat.le_refl _
  | r :: J, m, x => by
    unfold up
    split
    · have := up_len J (m + 1) m
      simp only [List.length_cons] at this ⊢
      omega
    · have := up_len J (m + 1) x
      simp only [List.length_cons] at this ⊢
      omega
theorem side_len {n : Nat} {J : Jn} {a b : Int} : (side n J a b).length ≤ J.length + 1 := by
  unfold side
  exact Nat.le_trans (List.length_filter_le _ _) (up_len J n a)
theorem up_end : ∀ (J : Jn) (m : Nat) (x : Int), x ∉ sds J → up m J x = [x]
  | [], _, _, _ => rfl
  | r :: J, m, x, h => by
    have hx : x ≠ r.1 ∧ x ≠ r.2 ∧ x ∉ sds J := by
      have : x ∉ r.1 :: r.2 :: sds J := h
      simp only [List.mem_cons, not_or] at this
      exact this
    unfold up
    rw [if_neg (by rintro (q | q); exact hx.1 q; exact hx.2.1 q)]
    exact up_end J (m + 1) x hx.2.2
theorem up_cons (m : Nat) (r : Int × Int) (J : Jn) (x : Int) : up m (r :: J) x = if x = r.1 ∨ x = r.2 then x :: up (m + 1) J m else up (m + 1) J x := rfl
theorem up_next : ∀ (J : Jn) (m i : Nat) (r : Int × Int) (x : Int), (sds J).Nodup → JV m J → J[i]? = some r → (x = r.1 ∨ x = r.2) → up m J x = x :: up m J ((m + i : Nat) : Int)
  | r0 :: J, m, 0, r, x, hn, hv, hr, hx => by
    cases hr
    obtain ⟨⟨h1, h2, h3, h4⟩, _⟩ := hv
    rw [up_cons, if_pos hx, up_cons, if_neg (by rw [Nat.add_zero]; rintro (q | q) <;> omega)]
    rfl
  | r0 :: J, m, i + 1, r, x, hn, hv, hr, hx => by
    have hn' : (r0.1 :: r0.2 :: sds J).Nodup := hn
    obtain ⟨n1, n2⟩ := List.nodup_cons.mp hn'
    obtain ⟨n3, n4⟩ := List.nodup_cons.mp n2
    obtain ⟨⟨h1, h2, h3, h4⟩, hv'⟩ := hv
    have hxs : x ∈ sds J := mem_sds.mpr ⟨i, r, by simpa using hr, hx⟩
    have x1 : ¬ (x = r0.1 ∨ x = r0.2) := by
      rintro (q | q)
      · exact n1 (by rw [← q]; exact List.mem_cons_of_mem _ hxs)
      · exact n3 (by rw [← q]; exact hxs)
    rw [up_cons, if_neg x1, up_next J (m + 1) i r x n4 hv' (by simpa using hr) hx, up_cons, if_neg (by rintro (q | q) <;> omega), show m + 1 + i = m + (i + 1) by omega]
theorem up_ne : ∀ (J : Jn) (m : Nat) (x : Int), up m J x ≠ []
  | [], _, _ => by simp [up]
  | r :: J, m, x => by
    rw [up_cons]
    split
    · simp
    · exact up_ne J (m + 1) x
theorem last_app {α : Type} (f : α → D) (xs : List α) (x : α) : atI ((xs ++ [x]).map f) (-1) = some (f x) := by
  unfold atI ixN
  rw [if_neg (by decide), if_pos (by simp; omega)]
  show ((xs ++ [x]).map f)[(-1 + (((xs ++ [x]).map f).length : Int)).toNat]? = _
  rw [List.length_map, List.length_append, List.length_singleton, show (-1 + ((xs.length + 1 : Nat) : Int)).toNat = xs.length by omega, List.getElem?_map]
  simp
theorem last_own {pre : List Int} {y : Int} : atI ((pre ++ [y]).map D.int) (-1) = some (.int y) := last_app D.int pre y
theorem dIs_ni {a : Int} {k : D → Prop} (h : k (.bl true)) : dIs true (.int a) .non k := h
theorem dIs_nn' {k : D → Prop} (h : k (.bl false)) : dIs true .non .non k := h
theorem whileN_i {c : PTs'} {body : PSt} {k : PK'} {n : Nat} {env : List SV} (h : c env fun b => if b = true then body env { nx := whileN c body k n, rt := k.rt, bk := k.nx, ct := whileN c body k n } else k.nx env) : whileN c body k (n + 1) env := h
theorem there_loop {A : List D} {n : Nat} {J : Jn} {K : PK'} {v1 v2 v4 : SV} {L : List Int} (hJ : JOk n J) (hA : Abv n (n + J.length) J A) (hL : L.length ≤ 1000) (hk : K.nx [SV.val (.lst A), v1, v2, SV.own (.lst (L.map D.int)), v4]) : ∀ (m : Nat) (pre : List Int) (y : Int), (up n J y).length = m → 0 ≤ y → y < (n + J.length : Nat) → L = pre ++ up n J y →
    whileN (tOf (eOp (dIs true) (eOp dIx (eV 0) (eOp dIx (eO 3) (eUn dNeg (eC (.int 1))))) (eC .non))) (sAppend 3 (eOp dIx (eV 0) (eOp dIx (eO 3) (eUn dNeg (eC (.int 1)))))) K m [SV.val (.lst A), v1, v2, SV.own (.lst ((pre ++ [y]).map D.int)), v4]
  | 0, pre, y, hm, y0, y1, e => absurd (List.eq_nil_of_length_eq_zero hm) (up_ne J n y)
  | m + 1, pre, y, hm, y0, y1, e => by
    have hal := hA.len
    refine whileN_i ?_
    repeat walk_at "ps"
    refine dIx_l last_own ?_
    by_cases q : y ∈ sds J
    · obtain ⟨i, r, hr, hy⟩ := mem_sds.mp q
      have hi : i < J.length := (List.getElem?_eq_some_iff.mp hr).1
      have hu := up_next J n i r y hJ.nd hJ.v hr hy
      have hat : A[y.toNat]? = some (.int ((n + i : Nat) : Int)) := by
        rcases hy with e | e
        · rw [e]; exact (hA.hit i r hr).1
        · rw [e]; exact (hA.hit i r hr).2
      have hp : pre.length + (up n J y).length = L.length := by rw [e, List.length_append]
      refine dIx_l (at_nat y0 hat) ?_
      repeat walk_at "ps"
      refine dIs_ni ?_
      repeat walk_at "ps"
      refine dIx_l last_own ?_
      refine dIx_l (at_nat y0 hat) ?_
      repeat walk_at "ps"
      rw [hu] at hm e
      have hm' : (up n J ((n + i : Nat) : Int)).length = m := by simpa using hm
      refine ⟨by rw [List.length_map, List.length_append, List.length_singleton]; omega, ?_⟩
      have := there_loop hJ hA hL hk m (pre ++ [y]) ((n + i : Nat) : Int) hm' (by omega) (by omega) (by rw [e, List.append_assoc]; rfl)
      rw [List.map_append] at this
      exact this
    · have hat := hA.off y.toNat (by omega) (by rw [show ((y.toNat : Nat) : Int) = y by omega]; exact q)
      have hu := up_end J n y q
      refine dIx_l (at_nat y0 hat) ?_
      repeat walk_at "ps"
      refine dIs_nn' ?_
      rw [hu] at e
      rw [← e]
      exact hk
theorem up_trans {n : Nat} {J : Jn} (hJ : JOk n J) : ∀ (m : Nat) (x w z : Int), (up n J x).length = m → w ∈ up n J x → z ∈ up n J w → z ∈ up n J x
  | 0, x, w, z, hm, _, _ => absurd (List.eq_nil_of_length_eq_zero hm) (up_ne J n x)
  | m + 1, x, w, z, hm, hw, hz => by
    by_cases q : x ∈ sds J
    · obtain ⟨i, r, hr, hy⟩ := mem_sds.mp q
      have e := up_next J n i r x hJ.nd hJ.v hr hy
      rw [e] at hm hw
      rcases List.mem_cons.mp hw with q | q
      · rw [← q]; exact hz
      · rw [e]
        exact List.mem_cons_of_mem _ (up_trans hJ m _ w z (by simpa using hm) q hz)
    · have e := up_end J n x q
      rw [e] at hw
      rw [← List.mem_singleton.mp hw]
      exact hz
theorem side_nil {n : Nat} {J : Jn} (hJ : JOk n J) {y b : Int} (h : y ∈ up n J b) : side n J y b = [] := by
  unfold side
  refine List.filter_eq_nil_iff.mpr fun w hw => ?_
  rw [decide_eq_true (up_trans hJ _ b y w rfl h hw)]
  simp
theorem side_cons {n : Nat} {J : Jn} {y j b : Int} (h : y ∉ up n J b) (hu : up n J y = y :: up n J j) : side n J y b = y :: side n J j b := by
  unfold side
  rw [hu, List.filter_cons_of_pos (by simpa using h)]
theorem root_only {n : Nat} {J : Jn} (h : JOk n J) {x : Int} (x0 : 0 ≤ x) (x1 : x < (n + J.length : Nat)) (hx : x ∉ sds J) : x = (n : Int) + J.length - 1 := by
  have := h.use.mem_iff.mpr (rgI_mem.mpr ⟨x0, x1⟩)
  rcases List.mem_append.mp this with q | q
  · exact absurd q hx
  · exact List.mem_singleton.mp q
theorem up_last {n : Nat} {J : Jn} (hJ : JOk n J) : ∀ (k : Nat) (x : Int), (up n J x).length = k → 0 ≤ x → x < (n + J.length : Nat) → (up n J x).getLast? = some ((n : Int) + J.length - 1)
  | 0, x, hm, _, _ => absurd (List.eq_nil_of_length_eq_zero hm) (up_ne J n x)
  | k + 1, x, hm, x0, x1 => by
    by_cases q : x ∈ sds J
    · obtain ⟨i, r, hr, hy⟩ := mem_sds.mp q
      have hi : i < J.length := (List.getElem?_eq_some_iff.mp hr).1
      have e := up_next J n i r x hJ.nd hJ.v hr hy
      rw [e] at hm ⊢
      have ih := up_last hJ k ((n + i : Nat) : Int) (by simpa using hm) (by omega) (by omega)
      rw [List.getLast?_cons, ih]
      rfl
    · rw [up_end J n x q, root_only hJ x0 x1 q]
      rfl
theorem dIn_lt {x : Int} {ns : List Int} {k : D → Prop} (h : k (.bl (!decide (x ∈ ns)))) : dIn true (.int x) (.lst (ns.map D.int)) k := ⟨x, _, ns, rfl, rfl, intsD_map _, h⟩
theorem side_loop {A : List D} {n : Nat} {J : Jn} {K : PK'} {b : Int} {v2 : SV} {L : List Int} (hJ : JOk n J) (hA : Abv n (n + J.length) J A) (b0 : 0 ≤ b) (b1 : b < (n + J.length : Nat)) (hL : L.length ≤ 1000) (hk : ∀ y, K.nx [SV.val (.lst A), SV.val (.int y), v2, SV.val (.lst ((up n J b).map D.int)), SV.own (.lst (L.map D.int))]) : ∀ (m : Nat) (acc : List Int) (y : Int), (side n J y b).length = m → 0 ≤ y → y < (n + J.length : Nat) → L = acc ++ side n J y b →
    whileN (tOf (eOp (dIn true) (eV 1) (eV 3))) (sSeq (sAppend 4 (eV 1)) (sSet 1 (eOp dIx (eV 0) (eV 1)))) K (m + 1) [SV.val (.lst A), SV.val (.int y), v2, SV.val (.lst ((up n J b).map D.int)), SV.own (.lst (acc.map D.int))]
  | m, acc, y, hm, y0, y1, e => by
    have hal := hA.len
    refine whileN_i ?_
    repeat walk_at "ps"
    refine dIn_lt ?_
    repeat walk_at "ps"
    refine ite_n (fun q => ?_) (fun q => ?_)
    · have hs : y ∈ sds J := by
        by_cases w : y ∈ sds J
        · exact w
        · exact absurd (by rw [root_only hJ y0 y1 w]; exact List.mem_of_getLast? (up_last hJ _ b rfl b0 b1)) q
      obtain ⟨i, r, hr, hy⟩ := mem_sds.mp hs
      have hi : i < J.length := (List.getElem?_eq_some_iff.mp hr).1
      have hu := up_next J n i r y hJ.nd hJ.v hr hy
      have hat : A[y.toNat]? = some (.int ((n + i : Nat) : Int)) := by
        rcases hy with e | e
        · rw [e]; exact (hA.hit i r hr).1
        · rw [e]; exact (hA.hit i r hr).2
      have hc := side_cons q hu
      rw [hc] at hm e
      have hp : acc.length + (side n J ((n + i : Nat) : Int) b).length < L.length := by rw [e, List.length_append, List.length_cons]; omega
      obtain ⟨m, rfl⟩ : ∃ m', m = m' + 1 := ⟨m - 1, by rw [List.length_cons] at hm; omega⟩
      repeat walk_at "ps"
      refine ⟨by rw [List.length_map]; omega, ?_⟩
      repeat walk_at "ps"
      refine dIx_l (at_nat y0 hat) ?_
      have := side_loop (v2 := v2) hJ hA b0 b1 hL hk m (acc ++ [y]) ((n + i : Nat) : Int) (by simpa using hm) (by omega) (by omega) (by rw [e, List.append_assoc]; rfl)
      rw [List.map_append] at this
      exact this
    · rw [side_nil hJ q, List.append_nil] at e
      rw [← e]
      exact hk y
theorem lside_i {A : List D} {n : Nat} {J : Jn} {x y : Int} {k : D → Prop} (hn : n ≤ 24) (hJ : JOk n J) (hA : Abv n (n + J.length) J A) (x0 : 0 ≤ x) (x1 : x < (n + J.length : Nat)) (y0 : 0 ≤ y) (y1 : y < (n + J.length : Nat)) (h : k (.lst ((side n J x y).map D.int))) : wp__law_side [.lst A, .int x, .int y] k := by
  have hl := hJ.len
  have hu := up_len J n y
  have hs := side_len (n := n) (J := J) (a := x) (b := y)
  unfold wp__law_side wpOf
  walk_at "psenv"
  unfold P__law_side
  repeat walk_at "ps"
  refine sSeq_i ?_
  refine ⟨(up n J y).length, ?_⟩
  refine there_loop (L := up n J y) hJ hA (by omega) ?_ _ [] y rfl y0 y1 rfl
  repeat walk_at "ps"
  refine sSeq_i ?_
  refine ⟨(side n J x y).length + 1, ?_⟩
  refine side_loop (L := side n J x y) hJ hA y0 y1 (by omega) (fun z => ?_) _ [] x rfl x0 x1 rfl
  repeat walk_at "ps"
  exact h
theorem wS_gap (f : Bool) : decide (wS f = Str.ofString "gap") = !f := by cases f <;> decide +kernel
theorem dEq_gap {f : Bool} {k : D → Prop} (h : k (.bl (!f))) : dEq (.str (wS f)) (.str (Str.ofString "gap")) k := dEq_str (wS_ok f) (by decide +kernel) (wS_gap f) h
def at0 (l : List Int) (i : Int) : Int := (l[i.toNat]?).getD 0
def addP (l : List Int) (p : Int × Int) : List Int := l.set p.1.toNat (at0 l p.1 + p.2)
theorem addP_len {ps : List (Int × Int)} : ∀ {l : List Int}, (ps.foldl addP l).length = l.length := by
  induction ps with
  | nil => intro l; rfl
  | cons p ps ih => intro l; rw [List.foldl_cons, ih]; simp [addP]
def mine (r : Rw) : Int := if r.far then r.t else -r.t
def prs (n : Nat) (J : Jn) (r : Rw) : List (Int × Int) := (side n J r.a r.b).map (fun w => (w, mine r)) ++ (side n J r.b r.a).map fun w => (w, r.t)
def brs (n : Nat) (J : Jn) (R : List Rw) : List Int := (R.flatMap (prs n J)).foldl addP (List.replicate (2 * n - 2) 0)
theorem brs_len {n : Nat} {J : Jn} {R : List Rw} : (brs n J R).length = 2 * n - 2 := by
  unfold brs
  rw [addP_len, List.length_replicate]
theorem brs_step {n : Nat} {J : Jn} {R : List Rw} {i : Nat} {r : Rw} (h : R[i]? = some r) : brs n J (R.take (i + 1)) = (prs n J r).foldl addP (brs n J (R.take i)) := by
  have et : R.take (i + 1) = R.take i ++ [r] := by rw [List.take_add_one, h]; rfl
  unfold brs
  rw [et, List.flatMap_append, List.foldl_append]
  simp
theorem rep_int (m : Nat) : (List.replicate m [D.int 0]).flatten = (List.replicate m (0 : Int)).map D.int := by
  induction m with
  | zero => rfl
  | succ m ih => rw [List.replicate_succ, List.flatten_cons, ih]; rfl
theorem at0_some {l : List Int} {w : Int} (h0 : 0 ≤ w) (h1 : w < l.length) : l[w.toNat]? = some (at0 l w) := by
  have hl : w.toNat < l.length := by omega
  unfold at0
  rw [List.getElem?_eq_getElem hl]
  rfl
theorem addP_map {l : List Int} {w c : Int} : ((l.map D.int).set w.toNat (.int (at0 l w + c))) = (addP l (w, c)).map D.int := by
  unfold addP
  rw [List.map_set]
theorem up_lt : ∀ (J : Jn) (m : Nat) (x w : Int), w ∈ up m J x → w = x ∨ w < (m + J.length : Nat)
  | [], _, _, _, h => .inl (List.mem_singleton.mp h)
  | r :: J, m, x, w, h => by
    rw [up_cons] at h
    split at h
    · rcases List.mem_cons.mp h with q | q
      · exact .inl q
      · rcases up_lt J (m + 1) m w q with q | q
        · exact .inr (by simp; omega)
        · exact .inr (by simp at q ⊢; omega)
    · rcases up_lt J (m + 1) x w h with q | q
      · exact .inl q
      · exact .inr (by simp at q ⊢; omega)
theorem up_ge : ∀ (J : Jn) (m : Nat) (x w : Int), w ∈ up m J x → w = x ∨ (m : Int) ≤ w
  | [], _, _, _, h => .inl (List.mem_singleton.mp h)
  | r :: J, m, x, w, h => by
    unfold up at h
    split at h
    · rcases List.mem_cons.mp h with q | q
      · exact .inl q
      · rcases up_ge J (m + 1) m w q with q | q
        · exact .inr (by omega)
        · exact .inr (by omega)
    · rcases up_ge J (m + 1) x w h with q | q
      · exact .inl q
      · exact .inr (by omega)
theorem up_pos {J : Jn} {m : Nat} {x w : Int} (x0 : 0 ≤ x) (h : w ∈ up m J x) : 0 ≤ w := by
  rcases up_ge J m x w h with q | q <;> omega
theorem side_bnd {n : Nat} {J : Jn} (hJ : JOk n J) {a b k : Int} (a0 : 0 ≤ a) (a1 : a < (n + J.length : Nat)) (b0 : 0 ≤ b) (b1 : b < (n + J.length : Nat)) (h : k ∈ side n J a b) : 0 ≤ k ∧ k < (n : Int) + J.length - 1 := by
  obtain ⟨h1, h2⟩ := List.mem_filter.mp h
  have h3 : k ∉ up n J b := by simpa using h2
  have k0 := up_pos a0 h1
  have k1 : k < (n + J.length : Nat) := by rcases up_lt J n a k h1 with q | q <;> omega
  have : k ≠ (n : Int) + J.length - 1 := fun q => h3 (by rw [q]; exact List.mem_of_getLast? (up_last hJ _ b rfl b0 b1))
  omega
theorem prs_bnd {n : Nat} {J : Jn} {r : Rw} (hJ : JOk n J) (hr : OkR n r) : ∀ p ∈ prs n J r, 0 ≤ p.1 ∧ p.1 < (2 * n - 2 : Nat) := by
  have hl := hJ.len
  have := hr.a0; have := hr.a1; have := hr.b0; have := hr.b1
  intro p hp
  unfold prs at hp
  rcases List.mem_append.mp hp with q | q
  · obtain ⟨w, hw, rfl⟩ := List.mem_map.mp q
    have := side_bnd hJ (by omega) (by omega) (by omega) (by omega) hw
    exact ⟨this.1, by have := this.2; omega⟩
  · obtain ⟨w, hw, rfl⟩ := List.mem_map.mp q
    have := side_bnd hJ (by omega) (by omega) (by omega) (by omega) hw
    exact ⟨this.1, by have := this.2; omega⟩
theorem lbears_i {n : Nat} {J : Jn} {R : List Rw} {k : D → Prop} (n0 : 1 ≤ n) (hn : n ≤ 24) (hJ : JOk n J) (hR : ∀ r ∈ R, OkR n r) (h : k (.lst ((brs n J R).map D.int))) : wp__law_bears [.int n, .tup (J.map jD), .tup (R.map rwD)] k := by
  have hjl := hJ.len
  unfold wp__law_bears wpOf
  walk_at "psenv"
  unfold P__law_bears
  repeat walk_at "ps"
  refine above_i hn hJ fun A hA => ?_
  repeat walk_at "ps"
  have et : (2 * (n : Int) - 2).toNat = 2 * n - 2 := by omega
  refine ⟨by omega, by rw [et]; show 1 * _ ≤ _; omega, by omega, ?_⟩
  rw [et, rep_int]
  repeat walk_at "ps"
  refine forP_i (fun i env => ∃ (v5 v6 v7 v8 v9 : SV), env = [SV.val (.int n), SV.val (.tup (J.map jD)), SV.val (.tup (R.map rwD)), SV.val (.lst A), SV.own (.lst ((brs n J (R.take i)).map D.int)), v5, v6, v7, v8, v9]) _ 0 ⟨_, _, _, _, _, rfl⟩ ?_ ?_
  · rintro i d env hd ⟨v5, v6, v7, v8, v9, rfl⟩ N hN
    rw [List.getElem?_map] at hd
    cases hr : R[i]? with
    | none => rw [hr] at hd; cases hd
    | some r =>
      rw [hr] at hd
      cases hd
      rw [Nat.zero_add] at hN ⊢
      have hb := prs_bnd hJ (hR r (List.mem_of_getElem? hr))
      have ho := hR r (List.mem_of_getElem? hr)
      have := ho.a0; have := ho.a1; have := ho.b0; have := ho.b1
      have e0 : brs n J (R.take (i + 1)) = ((side n J r.b r.a).map fun w => (w, r.t)).foldl addP (((side n J r.a r.b).map fun w => (w, mine r)).foldl addP (brs n J (R.take i))) := by
        rw [brs_step hr]
        unfold prs
        rw [List.foldl_append]
      have b1 : ∀ w ∈ side n J r.a r.b, 0 ≤ w ∧ w < (2 * n - 2 : Nat) := fun w hw => hb (w, mine r) (by unfold prs; exact List.mem_append_left _ (List.mem_map.mpr ⟨w, hw, rfl⟩))
      have b2 : ∀ w ∈ side n J r.b r.a, 0 ≤ w ∧ w < (2 * n - 2 : Nat) := fun w hw => hb (w, r.t) (by unfold prs; exact List.mem_append_right _ (List.mem_map.mpr ⟨w, hw, rfl⟩))
      repeat walk_at "ps"
      refine lside_i hn hJ hA (by omega) (by omega) (by omega) (by omega) ?_
      repeat walk_at "ps"
      refine forP_i (fun j env => ∃ (v9 : SV), env = [SV.val (.int n), SV.val (.tup (J.map jD)), SV.val (.tup (R.map rwD)), SV.val (.lst A), SV.own (.lst (((((side n J r.a r.b).take j).map fun w => (w, mine r)).foldl addP (brs n J (R.take i))).map D.int)), SV.val (.str (wS r.far)), SV.val (.int r.a), SV.val (.int r.b), SV.val (.int r.t), v9]) _ 0 ⟨_, rfl⟩ ?_ ?_
      · rintro j d env hd ⟨v9, rfl⟩ N' hN'
        rw [List.getElem?_map] at hd
        cases hp : (side n J r.a r.b)[j]? with
        | none => rw [hp] at hd; cases hd
        | some w =>
          rw [hp] at hd
          cases hd
          rw [Nat.zero_add] at hN' ⊢
          have et : (side n J r.a r.b).take (j + 1) = (side n J r.a r.b).take j ++ [w] := by rw [List.take_add_one, hp]; rfl
          have h2 := b1 w (List.mem_of_getElem? hp)
          have hl : ((((side n J r.a r.b).take j).map fun w => (w, mine r)).foldl addP (brs n J (R.take i))).length = 2 * n - 2 := by rw [addP_len, brs_len]
          have go : N' [SV.val (.int n), SV.val (.tup (J.map jD)), SV.val (.tup (R.map rwD)), SV.val (.lst A), SV.own (.lst ((((((side n J r.a r.b).take j).map fun w => (w, mine r)).foldl addP (brs n J (R.take i))).map D.int).set w.toNat (.int (at0 ((((side n J r.a r.b).take j).map fun w => (w, mine r)).foldl addP (brs n J (R.take i))) w + mine r)))), SV.val (.str (wS r.far)), SV.val (.int r.a), SV.val (.int r.b), SV.val (.int r.t), SV.val (.int w)] := by
            refine hN' _ ⟨SV.val (.int w), ?_⟩
            rw [et, List.map_append, List.foldl_append, addP_map]
            rfl
          generalize ((((side n J r.a r.b).take j).map fun w => (w, mine r)).foldl addP (brs n J (R.take i))) = L at *
          have hix : ixN (L.map D.int).length w = some w.toNat := by unfold ixN; rw [if_pos h2.1, if_pos (by rw [List.length_map, hl]; exact h2.2)]
          have hat : atI (L.map D.int) w = some (.int (at0 L w)) := at_nat h2.1 (by rw [List.getElem?_map, at0_some h2.1 (by rw [hl]; exact h2.2)]; rfl)
          repeat walk_at "ps"
          refine sPut_i rfl ?_
          repeat walk_at "ps"
          refine dIx_l hat ?_
          repeat walk_at "ps"
          refine dEq_gap ?_
          repeat walk_at "ps"
          have e1 : ∀ k : D → Prop, k (.int (mine r)) → dIx (.lst [.int r.t, .int (0 - r.t)]) (.int (if (!r.far) = true then 1 else 0)) k := fun k hk => by
            unfold mine at hk
            cases hf : r.far with
            | true =>
              rw [hf] at hk
              exact dIx_l rfl hk
            | false =>
              rw [hf] at hk
              refine dIx_l (d := .int (0 - r.t)) rfl ?_
              rw [Int.zero_sub]
              exact hk
          refine e1 _ ?_
          repeat walk_at "ps"
          refine ⟨_, hix, ?_⟩
          exact go
      rintro env ⟨v9, rfl⟩
      rw [Nat.zero_add, List.length_map, List.take_length]
      repeat walk_at "ps"
      refine lside_i hn hJ hA (by omega) (by omega) (by omega) (by omega) ?_
      repeat walk_at "ps"
      generalize hL0 : (((side n J r.a r.b).map fun w => (w, mine r)).foldl addP (brs n J (R.take i))) = L0 at *
      have hl0 : L0.length = 2 * n - 2 := by rw [← hL0, addP_len, brs_len]
      refine forP_i (fun j env => ∃ (v9 : SV), env = [SV.val (.int n), SV.val (.tup (J.map jD)), SV.val (.tup (R.map rwD)), SV.val (.lst A), SV.own (.lst (((((side n J r.b r.a).take j).map fun w => (w, r.t)).foldl addP L0).map D.int)), SV.val (.str (wS r.far)), SV.val (.int r.a), SV.val (.int r.b), SV.val (.int r.t), v9]) _ 0 ⟨_, rfl⟩ ?_ ?_
      · rintro j d env hd ⟨v9, rfl⟩ N' hN'
        rw [List.getElem?_map] at hd
        cases hp : (side n J r.b r.a)[j]? with
        | none => rw [hp] at hd; cases hd
        | some w =>
          rw [hp] at hd
          cases hd
          rw [Nat.zero_add] at hN' ⊢
          have et : (side n J r.b r.a).take (j + 1) = (side n J r.b r.a).take j ++ [w] := by rw [List.take_add_one, hp]; rfl
          have h2 := b2 w (List.mem_of_getElem? hp)
          have hl : ((((side n J r.b r.a).take j).map fun w => (w, r.t)).foldl addP L0).length = 2 * n - 2 := by rw [addP_len, hl0]
          have go : N' [SV.val (.int n), SV.val (.tup (J.map jD)), SV.val (.tup (R.map rwD)), SV.val (.lst A), SV.own (.lst ((((((side n J r.b r.a).take j).map fun w => (w, r.t)).foldl addP L0).map D.int).set w.toNat (.int (at0 ((((side n J r.b r.a).take j).map fun w => (w, r.t)).foldl addP L0) w + r.t)))), SV.val (.str (wS r.far)), SV.val (.int r.a), SV.val (.int r.b), SV.val (.int r.t), SV.val (.int w)] := by
            refine hN' _ ⟨SV.val (.int w), ?_⟩
            rw [et, List.map_append, List.foldl_append, addP_map]
            rfl
          generalize ((((side n J r.b r.a).take j).map fun w => (w, r.t)).foldl addP L0) = L at *
          have hix : ixN (L.map D.int).length w = some w.toNat := by unfold ixN; rw [if_pos h2.1, if_pos (by rw [List.length_map, hl]; exact h2.2)]
          have hat : atI (L.map D.int) w = some (.int (at0 L w)) := at_nat h2.1 (by rw [List.getElem?_map, at0_some h2.1 (by rw [hl]; exact h2.2)]; rfl)
          repeat walk_at "ps"
          refine sPut_i rfl ?_
          repeat walk_at "ps"
          refine dIx_l hat ?_
          repeat walk_at "ps"
          refine ⟨_, hix, ?_⟩
          exact go
      rintro env ⟨v9, rfl⟩
      rw [Nat.zero_add, List.length_map, List.take_length, ← e0]
      exact hN _ ⟨_, _, _, _, _, rfl⟩
  · rintro env ⟨v5, v6, v7, v8, v9, rfl⟩
    rw [Nat.zero_add, List.length_map, List.take_length]
    repeat walk_at "ps"
    exact h
def eAt (E : List En) (i : Int) : En := (E[i.toNat]?).getD ⟨0, 0, 0, 0⟩
theorem eAt_some {E : List En} {i : Int} (h0 : 0 ≤ i) (h1 : i < E.length) : atI (E.map enD) i = some (enD (eAt E i)) := by
  have hl : i.toNat < E.length := by omega
  refine at_nat h0 ?_
  unfold eAt
  rw [List.getElem?_map, List.getElem?_eq_getElem hl]
  rfl
def ab1 (x : Int) : Int := max x (-x)
def farE (p q : En) : Int := ab1 (p.x - q.x) + ab1 (p.y - q.y)
def wor (E : List En) (g : Option Int) (r : Rw) : Int := if r.far then r.t * farE (eAt E r.a) (eAt E r.b) else -r.t * (g.getD 0 + (eAt E r.b).s - (eAt E r.a).s)
def topOf (E : List En) (g : Option Int) (R : List Rw) : Int := (R.map (wor E g)).sum
def tsD (E : List En) (n : Nat) (J : Jn) (g : Option Int) (R : List Rw) (bt : Int) : D :=
  if R.all (okG g) = true then (if (brs n J R).any (fun i => decide (i > bt)) = true then .non else .tup [.int (topOf E g R / Int.gcd bt (topOf E g R)), .int (bt / Int.gcd bt (topOf E g R))]) else .non
abbrev ppD (bt : Int) (R : List Rw) : D := .tup [.int bt, .tup (R.map rwD)]
theorem isfrom_i {a b : Int} {k : D → Prop} (h : k (.bl (decide (b ≤ a)))) : wp__law_is_from [.int a, .int b] k := by
  unfold wp__law_is_from wpOf
  walk_at "psenv"
  unfold P__law_is_from
  repeat walk_at "ps"
  exact h
theorem lisrow_i {n : Nat} {g : Option Int} {r : Rw} {k : D → Prop} (hr : OkR n r) (h : k (.bl (okG g r))) : wp__law_is_row [.int n, gD g, rwD r] k := by
  have h0 := hr.a0; have h1 := hr.a1; have h2 := hr.b0; have h3 := hr.b1; have h4 := hr.t0; have h5 := hr.ne
  unfold wp__law_is_row wpOf
  walk_at "psenv"
  unfold P__law_is_row
  repeat walk_at "ps"
  refine ite_n (fun q => absurd (show ((4 : Nat) : Int) = 4 from rfl) (by simpa using q)) (fun _ => ?_)
  repeat walk_at "ps"
  refine isfrom_i ?_
  rw [decide_eq_true h0]
  repeat walk_at "ps"
  refine isfrom_i ?_
  rw [decide_eq_true h2]
  repeat walk_at "ps"
  refine isfrom_i ?_
  rw [decide_eq_true h4]
  repeat walk_at "ps"
  refine ite_d (fun q => by omega) (fun _ => ?_)
  repeat walk_at "ps"
  refine ite_d (fun q => by omega) (fun _ => ?_)
  repeat walk_at "ps"
  refine ite_d (fun q => by omega) (fun _ => ?_)
  repeat walk_at "ps"
  refine dEq_far ?_
  unfold okG at h
  cases hf : r.far with
  | true =>
    rw [hf, if_pos rfl] at h
    repeat walk_at "ps"
    cases hd : decide (r.a < r.b) with
    | true =>
      rw [hd] at h
      repeat walk_at "ps"
      exact h
    | false =>
      rw [hd] at h
      repeat walk_at "ps"
      rw [← hf]
      refine dEq_gap ?_
      rw [hf]
      repeat walk_at "ps"
      exact h
  | false =>
    rw [hf, if_neg Bool.false_ne_true] at h
    repeat walk_at "ps"
    rw [← hf]
    refine dEq_gap ?_
    rw [hf]
    repeat walk_at "ps"
    exact dIs_gD h
theorem plnRw {m : Nat} (R : List Rw) : plnA (m + 1) (R.map rwD) = true := by
  rw [plnA_iff]
  intro x hx
  obtain ⟨r, _, rfl⟩ := List.mem_map.mp hx
  simp [pln, plnA, wS_ok]
theorem gcd_step {a b r q : Int} (h : a = b * q + r) : Int.gcd b r = Int.gcd a b := by
  apply Nat.dvd_antisymm
  · refine Int.dvd_gcd ?_ ?_
    · rw [h]
      exact Int.dvd_add (Int.dvd_trans (Int.gcd_dvd_left ..) (Int.dvd_mul_right _ _)) (Int.gcd_dvd_right ..)
    · exact Int.gcd_dvd_left ..
  · refine Int.dvd_gcd (Int.gcd_dvd_right ..) ?_
    have : r = a - b * q := by omega
    rw [this]
    exact Int.dvd_sub (Int.gcd_dvd_left ..) (Int.dvd_trans (Int.gcd_dvd_right ..) (Int.dvd_mul_right _ _))
theorem pgcd_loop {K : PK'} {g : Nat} {v0 v1 : SV} (hK : ∀ a : Int, 0 ≤ a → a.natAbs = g → K.nx [v0, v1, SV.val (.int a), SV.val (.int 0)]) : ∀ (m : Nat) (a b : Int), 0 ≤ a → 0 ≤ b → b.natAbs ≤ m → Int.gcd a b = g →
    whileN (tOf (eOp dGt (eV 3) (eC (.int 0)))) (sPar 2 3 (aCons (eV 3) (aCons (eOp dMod (eV 2) (eV 3)) aNil))) K (m + 1) [v0, v1, SV.val (.int a), SV.val (.int b)]
  | m, a, b, a0, b0, hm, hg => by
    refine whileN_i ?_
    repeat walk_at "ps"
    by_cases hb' : b > 0
    · rw [if_pos (decide_eq_true hb')]
      repeat walk_at "ps"
      have h3 : Int.gcd b (a % b) = g := by
        rw [← hg]
        exact gcd_step (q := a / b) (by have := Int.mul_ediv_add_emod a b; omega)
      have h4 := Int.emod_nonneg a (b := b) (by omega)
      have h5 := Int.emod_lt_of_pos a hb'
      obtain ⟨m, rfl⟩ : ∃ m', m = m' + 1 := ⟨m - 1, by omega⟩
      exact pgcd_loop hK m b (a % b) b0 h4 (by omega) h3
    · rw [if_neg (by simpa using hb')]
      obtain rfl : b = 0 := by omega
      exact hK a a0 (by rw [← hg, Int.gcd_zero_right])
theorem gcd_abs (T bt : Int) : Int.gcd (max T (-T)) bt = Int.gcd bt T := by
  rw [Int.gcd_comm]
  rcases Int.le_total 0 T with q | q
  · rw [show max T (-T) = T from by omega]
  · rw [show max T (-T) = -T from by omega, Int.gcd_neg]
theorem llowest_i {t b : Int} {k : D → Prop} (hb : 0 < b) (hb2 : b < 9223372036854775808) (h : k (.tup [.int (t / Int.gcd b t), .int (b / Int.gcd b t)])) : wp__law_lowest [.int t, .int b] k := by
  have g0 : (0 : Int) < Int.gcd b t := by
    have := Int.gcd_pos_of_ne_zero_left t (a := b) (by omega)
    omega
  have g1 : ((Int.gcd b t : Nat) : Int) ≤ b := Int.le_of_dvd hb (Int.gcd_dvd_left ..)
  unfold wp__law_lowest wpOf
  walk_at "psenv"
  unfold P__law_lowest
  repeat walk_at "ps"
  refine sSeq_i ⟨b.natAbs + 1, pgcd_loop (fun y y0 hy => ?_) _ _ b (by omega) (by omega) (Nat.le_refl _) rfl⟩
  rw [gcd_abs] at hy
  have hy1 : y = (Int.gcd b t : Nat) := by omega
  rw [hy1]
  repeat walk_at "ps"
  refine dDivW_i g0 (by omega) ?_
  repeat walk_at "ps"
  refine dDivW_i g0 (by omega) ?_
  repeat walk_at "ps"
  exact h
theorem top_step {E : List En} {g : Option Int} {R : List Rw} {i : Nat} {r : Rw} (h : R[i]? = some r) : topOf E g (R.take (i + 1)) = topOf E g (R.take i) + wor E g r := by
  have et : R.take (i + 1) = R.take i ++ [r] := by rw [List.take_add_one, h]; rfl
  unfold topOf
  rw [et]
  simp
theorem apart_i {E : List En} {a b : Int} {k : D → Prop} (h : k (.int (farE (eAt E a) (eAt E b)))) : wp__law_apart [enD (eAt E a), enD (eAt E b)] k := by
  unfold wp__law_apart wpOf
  walk_at "psenv"
  unfold P__law_apart
  repeat walk_at "ps"
  exact h
theorem plnI (ns : List Int) {n : Nat} : plnA (n + 1) (ns.map D.int) = true := by
  rw [plnA_iff]
  intro x hx
  obtain ⟨a, _, rfl⟩ := List.mem_map.mp hx
  rfl
theorem due_i {E : List En} {n : Nat} {J : Jn} {g : Option Int} {R : List Rw} {bt : Int} {k : D → Prop} (he : E.length = n) (n0 : 1 ≤ n) (hn : n ≤ 24) (hJ : JOk n J) (hR : ∀ r ∈ R, OkR n r) (hl : R.length ≤ 1000) (hb : 1 ≤ bt) (hb2 : bt < 9223372036854775808) (h : k (tsD E n J g R bt)) :
    wp__law_due [.tup (E.map enD), .tup (J.map jD), gD g, ppD bt R] k := by
  have elen : (((E.map enD).length : Nat) : Int) = (n : Int) := by rw [List.length_map, he]
  unfold wp__law_due wpOf
  walk_at "psenv"
  unfold P__law_due
  repeat walk_at "ps"
  refine ite_n (fun q => absurd (show ((2 : Nat) : Int) = 2 from rfl) (by simpa using q)) (fun _ => ?_)
  repeat walk_at "ps"
  refine isfrom_i ?_
  rw [decide_eq_true hb]
  repeat walk_at "ps"
  unfold tsD at h
  refine ⟨by simp [noOwn], lcP_flt rwD (fun r => !okG g r) rwD R (by omega) (fun r hr A B hA hB => ?_) ?_⟩
  · repeat walk_at "ps"
    rw [elen]
    refine lisrow_i (hR r hr) ?_
    cases ho : okG g r with
    | true =>
      repeat walk_at "ps"
      exact hB (by rw [ho]; rfl)
    | false =>
      repeat walk_at "ps"
      exact hA (by rw [ho]; rfl)
  repeat walk_at "ps"
  refine dNe_nil (plnRw _) ?_
  repeat walk_at "ps"
  refine ite_n (fun q => ?_) (fun q => ?_)
  · have ho : ¬ R.all (okG g) = true := fun w => q (by
      rw [List.map_eq_nil_iff]
      refine List.filter_eq_nil_iff.mpr fun r hr => ?_
      rw [List.all_eq_true.mp w r hr]
      exact Bool.false_ne_true)
    rw [if_neg ho] at h
    repeat walk_at "ps"
    exact h
  have ho : R.all (okG g) = true := by
    rw [List.map_eq_nil_iff] at q
    rw [List.all_eq_true]
    intro r hr
    have := List.filter_eq_nil_iff.mp q r hr
    simpa using this
  rw [if_pos ho] at h
  repeat walk_at "ps"
  rw [elen]
  refine lbears_i n0 hn hJ hR ?_
  have hbl := brs_len (n := n) (J := J) (R := R)
  repeat walk_at "ps"
  refine ⟨by simp [noOwn], lcP_flt D.int (fun i => decide (i > bt)) D.int (brs n J R) (by omega) (fun r hr A B hA hB => ?_) ?_⟩
  · repeat walk_at "ps"
    refine ite_d (fun q => ?_) (fun q => hB (decide_eq_false q))
    repeat walk_at "ps"
    exact hA (decide_eq_true q)
  repeat walk_at "ps"
  refine dNe_nil (plnI _) ?_
  repeat walk_at "ps"
  refine ite_n (fun q => ?_) (fun q => ?_)
  · have hs : (brs n J R).any (fun i => decide (i > bt)) = true := by
      rw [List.any_eq_true]
      rw [List.map_eq_nil_iff] at q
      obtain ⟨x, hx⟩ := List.exists_mem_of_ne_nil _ q
      exact ⟨x, (List.mem_filter.mp hx).1, (List.mem_filter.mp hx).2⟩
    rw [if_pos hs] at h
    repeat walk_at "ps"
    exact h
  have hs : ¬ (brs n J R).any (fun i => decide (i > bt)) = true := fun w => by
    rw [List.map_eq_nil_iff] at q
    obtain ⟨x, hx, hx2⟩ := List.any_eq_true.mp w
    exact List.not_mem_nil (q ▸ List.mem_filter.mpr ⟨hx, hx2⟩)
  rw [if_neg hs] at h
  repeat walk_at "ps"
  refine forP_i (fun i env => ∃ (v4 v5 v7 v8 v9 v10 : SV), env = [SV.val (.tup (E.map enD)), SV.val (.tup (J.map jD)), SV.val (gD g), SV.val (ppD bt R), v4, v5, SV.val (.int (topOf E g (R.take i))), v7, v8, v9, v10]) _ 0 ⟨_, _, _, _, _, _, rfl⟩ ?_ ?_
  · rintro i d env hd ⟨v4, v5, v7, v8, v9, v10, rfl⟩ N hN
    rw [List.getElem?_map] at hd
    cases hr : R[i]? with
    | none => rw [hr] at hd; cases hd
    | some r =>
      rw [hr] at hd
      cases hd
      rw [Nat.zero_add] at hN ⊢
      have hrR := List.mem_of_getElem? hr
      have ok := hR r hrR
      rw [← he] at ok
      have h0 := ok.a0; have h1 := ok.a1; have h2 := ok.b0; have h3 := ok.b1; have h4 := ok.t0; have h5 := ok.t1
      have ea := eAt_some h0 h1
      have eb := eAt_some h2 h3
      have hok := List.all_eq_true.mp ho r hrR
      have hst := top_step (E := E) (g := g) hr
      unfold wor at hst
      unfold okG at hok
      repeat walk_at "ps"
      refine dEq_far ?_
      cases hf : r.far with
      | true =>
        rw [hf, if_pos rfl] at hst
        repeat walk_at "ps"
        refine dIx_t ea ?_
        repeat walk_at "ps"
        refine dIx_t eb ?_
        repeat walk_at "ps"
        refine apart_i ?_
        repeat walk_at "ps"
        rw [← hst]
        exact hN _ ⟨_, _, _, _, _, _, rfl⟩
      | false =>
        rw [hf, if_neg Bool.false_ne_true] at hst hok
        cases g with
        | none => cases hok
        | some g =>
          have e : topOf E (some g) (R.take i) - r.t * (g + ((eAt E r.b).s - (eAt E r.a).s)) = topOf E (some g) (R.take (i + 1)) := by
            rw [hst, show (some g : Option Int).getD 0 = g from rfl, Int.neg_mul, show g + (eAt E r.b).s - (eAt E r.a).s = g + ((eAt E r.b).s - (eAt E r.a).s) by omega]
            omega
          unfold gD
          repeat walk_at "ps"
          refine dIx_t eb ?_
          repeat walk_at "ps"
          refine dIx_t ea ?_
          repeat walk_at "ps"
          rw [e]
          exact hN _ ⟨_, _, _, _, _, _, rfl⟩
  · rintro env ⟨v4, v5, v7, v8, v9, v10, rfl⟩
    rw [Nat.zero_add, List.length_map, List.take_length]
    repeat walk_at "ps"
    exact llowest_i (by omega) hb2 h
theorem dIn_tt {x : Int} {ns : List Int} {k : D → Prop} (h : k (.bl (!decide (x ∈ ns)))) : dIn true (.int x) (.tup (ns.map D.int)) k := ⟨x, _, ns, rfl, rfl, intsD_map _, h⟩
theorem dIn_t {x : Int} {ns : List Int} {k : D → Prop} (h : k (.bl (decide (x ∈ ns)))) : dIn false (.int x) (.tup (ns.map D.int)) k := ⟨x, _, ns, rfl, rfl, intsD_map _, h⟩
theorem chain_i {n : Nat} {J : Jn} {x : Int} {k : D → Prop} (hn : n ≤ 1000) (hJ : J.length ≤ 1000) (h : k (.tup ((up n J x).map D.int))) : wp_chain [.int n, .tup (J.map jD), .int x] k := by
  unfold wp_chain wpOf
  walk_at "psenv"
  unfold P_chain
  repeat walk_at "ps"
  refine enK_i ⟨by omega, by omega⟩ ?_
  refine forP_i (fun i env => ∃ (pre : List Int) (la : Int) (v4 v5 : SV), env = [SV.val (.int n), SV.val (.tup (J.map jD)), SV.val (.int x), SV.own (.lst ((pre ++ [la]).map D.int)), v4, v5] ∧ up n J x = pre ++ up (n + i) (J.drop i) la) _ 0 ⟨[], x, _, _, rfl, rfl⟩ ?_ ?_
  · rintro i d env hd ⟨pre, la, v4, v5, rfl, hu⟩ N hN
    obtain ⟨y, hy, rfl⟩ := enumD_get hd
    rw [List.getElem?_map] at hy
    cases hr : J[i]? with
    | none => rw [hr] at hy; cases hy
    | some r =>
      rw [hr] at hy
      cases hy
      have hi : i < J.length := (List.getElem?_eq_some_iff.mp hr).1
      have hd' : J.drop (0 + i) = r :: J.drop (0 + i + 1) := by
        rw [Nat.zero_add, List.drop_eq_getElem_cons hi]
        congr 1
        exact (List.getElem?_eq_some_iff.mp hr).2
      have hl := up_len J n x
      rw [hu, List.length_append] at hl
      rw [hd', up_cons] at hu
      repeat walk_at "ps"
      refine dIx_l (last_app D.int pre la) ?_
      repeat walk_at "ps"
      refine dIn_t (ns := [r.1, r.2]) ?_
      repeat walk_at "ps"
      refine ite_d (fun q => ?_) (fun q => ?_)
      · rw [if_pos (by simpa using q)] at hu
        repeat walk_at "ps"
        refine ⟨by simp; omega, ?_⟩
        refine hN _ ⟨pre ++ [la], ((n + (0 + i) : Nat) : Int), SV.val (.int ((n : Int) + (i : Nat))), SV.val (jD r), ?_, ?_⟩
        · have e : (n : Int) + (i : Nat) = ((n + (0 + i) : Nat) : Int) := by omega
          rw [← e]
          simp
        · rw [hu, List.append_assoc]
          rfl
      · rw [if_neg (by simpa using q)] at hu
        repeat walk_at "ps"
        exact hN _ ⟨pre, la, _, _, rfl, hu⟩
  · rintro env ⟨pre, la, v4, v5, rfl, hu⟩
    repeat walk_at "ps"
    have hl : (enumD (n : Int) (J.map jD)).length = J.length := by simp [enumD]
    rw [hl, Nat.zero_add, List.drop_length] at hu
    rw [show pre ++ [la] = up n J x from hu.symm]
    exact h
theorem ahead_i {n : Nat} {J : Jn} {x y : Int} {k : D → Prop} (hn : n ≤ 24) (hJ : JOk n J) (h : k (.tup ((side n J x y).map D.int))) : wp_ahead [.int n, .tup (J.map jD), .int x, .int y] k := by
  have hl := hJ.len
  unfold wp_ahead wpOf
  walk_at "psenv"
  unfold P_ahead
  repeat walk_at "ps"
  refine chain_i (by omega) (by omega) ?_
  repeat walk_at "ps"
  refine chain_i (by omega) (by omega) ?_
  have hu := up_len J n x
  repeat walk_at "ps"
  refine ⟨by simp [noOwn], ?_⟩
  refine lcP_flt D.int (fun w => !decide (w ∈ up n J y)) D.int (up n J x) (by omega) ?_ ?_
  · intro w hw A B hA hB
    repeat walk_at "ps"
    refine dIn_tt ?_
    repeat walk_at "ps"
    refine ite_n (fun q => ?_) (fun q => ?_)
    · repeat walk_at "ps"
      exact hA (by rw [decide_eq_false q]; rfl)
    · exact hB (by rw [decide_eq_true q]; rfl)
  repeat walk_at "ps"
  exact h
abbrev prD (p : Int × Int) : D := .tup [.int p.1, .int p.2]
theorem borne_i {n : Nat} {J : Jn} {r : Rw} {k : D → Prop} (hn : n ≤ 24) (hJ : JOk n J) (h : k (.lst ((prs n J r).map prD))) : wp_borne_by [.int n, .tup (J.map jD), rwD r] k := by
  have hl := hJ.len
  have s1 := side_len (n := n) (J := J) (a := r.a) (b := r.b)
  have s2 := side_len (n := n) (J := J) (a := r.b) (b := r.a)
  unfold wp_borne_by wpOf
  walk_at "psenv"
  unfold P_borne_by
  repeat walk_at "ps"
  refine dEq_far ?_
  repeat walk_at "ps"
  cases hf : r.far with
  | true =>
    repeat walk_at "ps"
    refine ahead_i hn hJ ?_
    repeat walk_at "ps"
    refine ⟨by simp [noOwn], lcP_m D.int (fun w => prD (w, r.t)) (side n J r.a r.b) (by omega) (fun w hw A B hA => ?_) ?_⟩
    · repeat walk_at "ps"
      exact hA
    repeat walk_at "ps"
    refine ahead_i hn hJ ?_
    repeat walk_at "ps"
    refine ⟨by simp [noOwn], lcP_m D.int (fun w => prD (w, r.t)) (side n J r.b r.a) (by omega) (fun w hw A B hA => ?_) ?_⟩
    · repeat walk_at "ps"
      exact hA
    repeat walk_at "ps"
    refine dAdd_l (by rw [List.length_map, List.length_map]; omega) ?_
    have e : (side n J r.a r.b).map (fun w => prD (w, r.t)) ++ (side n J r.b r.a).map (fun w => prD (w, r.t)) = (prs n J r).map prD := by
      unfold prs mine
      rw [hf, List.map_append, List.map_map, List.map_map]
      rfl
    rw [e]
    exact h
  | false =>
    repeat walk_at "ps"
    refine ahead_i hn hJ ?_
    repeat walk_at "ps"
    refine ⟨by simp [noOwn], lcP_m D.int (fun w => prD (w, -r.t)) (side n J r.a r.b) (by omega) (fun w hw A B hA => ?_) ?_⟩
    · repeat walk_at "ps"
      exact hA
    repeat walk_at "ps"
    refine ahead_i hn hJ ?_
    repeat walk_at "ps"
    refine ⟨by simp [noOwn], lcP_m D.int (fun w => prD (w, r.t)) (side n J r.b r.a) (by omega) (fun w hw A B hA => ?_) ?_⟩
    · repeat walk_at "ps"
      exact hA
    repeat walk_at "ps"
    refine dAdd_l (by rw [List.length_map, List.length_map]; omega) ?_
    have e : (side n J r.a r.b).map (fun w => prD (w, -r.t)) ++ (side n J r.b r.a).map (fun w => prD (w, r.t)) = (prs n J r).map prD := by
      unfold prs mine
      rw [hf, List.map_append, List.map_map, List.map_map]
      rfl
    rw [e]
    exact h
theorem sAugI_i {i : Nat} {pi pe : PX} {env : List SV} {K : PK'} {xs : List D} (e : env[i]? = some (.own (.lst xs))) (h : pi env fun d => match d with
    | .int n => ∃ jj a, ixN xs.length n = some jj ∧ xs[jj]? = some (.int a) ∧ pe env fun y => match y with
      | .int b => K.nx (env.set i (.own (.lst (xs.set jj (.int (a + b))))))
      | _ => False
    | _ => False) : sAugI i pi pe env K := by
  unfold sAugI
  rw [e]
  exact h
theorem sAugV_i {i j l : Nat} {env : List SV} {K : PK'} {xs : List D} {n a b : Int} {jj : Nat} (e : env[i]? = some (.own (.lst xs))) (hj : env[j]? = some (.val (.int n))) (hl : env[l]? = some (.val (.int b))) (hx : ixN xs.length n = some jj) (ha : xs[jj]? = some (.int a)) (h : K.nx (env.set i (.own (.lst (xs.set jj (.int (a + b))))))) : sAugI i (eV j) (eV l) env K := by
  refine sAugI_i e ?_
  refine eV_i hj ⟨jj, a, hx, ha, ?_⟩
  exact eV_i hl h
theorem borne_all {n : Nat} {J : Jn} {R : List Rw} {k : D → Prop} (n0 : 1 ≤ n) (hn : n ≤ 24) (hJ : JOk n J) (hR : ∀ r ∈ R, OkR n r) (h : k (.lst ((brs n J R).map D.int))) : wp_all_borne [.int n, .tup (J.map jD), .tup (R.map rwD)] k := by
  unfold wp_all_borne wpOf
  walk_at "psenv"
  unfold P_all_borne
  repeat walk_at "ps"
  have et : (2 * (n : Int) - 2).toNat = 2 * n - 2 := by omega
  refine ⟨by omega, by rw [et]; show 1 * _ ≤ _; omega, by omega, ?_⟩
  rw [et, rep_int]
  repeat walk_at "ps"
  refine forP_i (fun i env => ∃ (v4 v5 v6 : SV), env = [SV.val (.int n), SV.val (.tup (J.map jD)), SV.val (.tup (R.map rwD)), SV.own (.lst ((brs n J (R.take i)).map D.int)), v4, v5, v6]) _ 0 ⟨_, _, _, rfl⟩ ?_ ?_
  · rintro i d env hd ⟨v4, v5, v6, rfl⟩ N hN
    rw [List.getElem?_map] at hd
    cases hr : R[i]? with
    | none => rw [hr] at hd; cases hd
    | some r =>
      rw [hr] at hd
      cases hd
      rw [Nat.zero_add] at hN ⊢
      have hb := prs_bnd hJ (hR r (List.mem_of_getElem? hr))
      repeat walk_at "ps"
      refine borne_i hn hJ ?_
      repeat walk_at "ps"
      refine forP_i (fun j env => ∃ (v5 v6 : SV), env = [SV.val (.int n), SV.val (.tup (J.map jD)), SV.val (.tup (R.map rwD)), SV.own (.lst ((((prs n J r).take j).foldl addP (brs n J (R.take i))).map D.int)), SV.val (rwD r), v5, v6]) _ 0 ⟨_, _, rfl⟩ ?_ ?_
      · rintro j d env hd ⟨v5, v6, rfl⟩ N' hN'
        rw [List.getElem?_map] at hd
        cases hp : (prs n J r)[j]? with
        | none => rw [hp] at hd; cases hd
        | some p =>
          rw [hp] at hd
          cases hd
          rw [Nat.zero_add] at hN' ⊢
          have et : (prs n J r).take (j + 1) = (prs n J r).take j ++ [p] := by rw [List.take_add_one, hp]; rfl
          have h2 := hb p (List.mem_of_getElem? hp)
          have hl : (((prs n J r).take j).foldl addP (brs n J (R.take i))).length = 2 * n - 2 := by rw [addP_len, brs_len]
          repeat walk_at "ps"
          refine sAugV_i (jj := p.1.toNat) rfl rfl rfl (by unfold ixN; rw [if_pos h2.1, if_pos (by rw [List.length_map, hl]; exact h2.2)]) (by rw [List.getElem?_map, at0_some h2.1 (by rw [hl]; exact h2.2)]; rfl) ?_
          refine hN' _ ⟨SV.val (.int p.1), SV.val (.int p.2), ?_⟩
          rw [et, List.foldl_append]
          rw [addP_map]
          rfl
      · rintro env ⟨v5, v6, rfl⟩
        rw [Nat.zero_add, List.length_map, List.take_length]
        rw [← brs_step hr]
        exact hN _ ⟨_, _, _, rfl⟩
  · rintro env ⟨v4, v5, v6, rfl⟩
    rw [Nat.zero_add, List.length_map, List.take_length]
    repeat walk_at "ps"
    exact h
theorem whole_i {i : Int} {k : D → Prop} (h : k (.bl true)) : wp_is_whole [.int i] k := by
  unfold wp_is_whole wpOf
  walk_at "psenv"
  unfold P_is_whole
  repeat walk_at "ps"
  exact h
theorem wholes3 {a b c : Int} {k : D → Prop} (h : k (.bl true)) : wp_are_wholes [.tup [.int a, .int b, .int c], .int 3] k := by
  unfold wp_are_wholes wpOf
  walk_at "psenv"
  unfold P_are_wholes
  repeat walk_at "ps"
  refine ite_n (fun q => absurd (show ((3 : Nat) : Int) = 3 from rfl) (by simpa using q)) (fun _ => ?_)
  repeat walk_at "ps"
  refine ⟨by simp [noOwn], askP_i (fun i : Int => D.int i) (fun _ => true) [a, b, c] (fun i hi k' hk => ?_) ?_⟩
  · repeat walk_at "ps"
    exact whole_i hk
  · exact h
theorem isrow_i {n : Nat} {g : Option Int} {r : Rw} {k : D → Prop} (hr : OkR n r) (h : k (.bl (okG g r))) : wp_is_row [.int n, gD g, rwD r] k := by
  have h0 := hr.a0; have h1 := hr.a1; have h2 := hr.b0; have h3 := hr.b1; have h4 := hr.t0; have h5 := hr.ne
  unfold wp_is_row wpOf
  walk_at "psenv"
  unfold P_is_row
  repeat walk_at "ps"
  refine wholes3 ?_
  repeat walk_at "ps"
  refine bCase_d (fun _ => ?_) (fun q => absurd h0 q)
  repeat walk_at "ps"
  refine ite_n (fun q => absurd h1 q) (fun _ => ?_)
  repeat walk_at "ps"
  refine bCase_d (fun _ => ?_) (fun q => absurd h2 q)
  repeat walk_at "ps"
  refine ite_n (fun q => absurd h3 q) (fun _ => ?_)
  repeat walk_at "ps"
  refine ite_d (fun q => by omega) (fun _ => ?_)
  repeat walk_at "ps"
  refine dEq_far ?_
  unfold okG at h
  cases hf : r.far with
  | true =>
    rw [hf, if_pos rfl] at h
    repeat walk_at "ps"
    exact h
  | false =>
    rw [hf, if_neg Bool.false_ne_true] at h
    repeat walk_at "ps"
    rw [← hf]
    refine dEq_gap ?_
    rw [hf]
    refine bCase_t ?_
    repeat walk_at "ps"
    refine dIs_gD ?_
    cases hg : g.isSome with
    | false =>
      rw [hg] at h
      repeat walk_at "ps"
      exact h
    | true =>
      rw [hg] at h
      repeat walk_at "ps"
      rw [show (!decide (r.a = r.b)) = true from by rw [decide_eq_false h5]; rfl]
      exact h
theorem form_i {n : Nat} {g : Option Int} {R : List Rw} {b : Int} {k : D → Prop} (hR : ∀ r ∈ R, OkR n r) (hb : 1 ≤ b) (h : k (.bl (R.all (okG g)))) : wp_has_form [.int n, gD g, .tup [.int b, .tup (R.map rwD)]] k := by
  unfold wp_has_form wpOf
  walk_at "psenv"
  unfold P_has_form
  repeat walk_at "ps"
  refine ite_n (fun q => absurd (show ((2 : Nat) : Int) = 2 from rfl) (by simpa using q)) (fun _ => ?_)
  repeat walk_at "ps"
  refine whole_i ?_
  repeat walk_at "ps"
  refine ite_d (fun q => by omega) (fun _ => ?_)
  repeat walk_at "ps"
  refine ⟨by simp [noOwn], askP_i rwD (okG g) R (fun r hr k' hk => ?_) ?_⟩
  · repeat walk_at "ps"
    exact isrow_i (hR r hr) hk
  · exact h
theorem worth_i {E : List En} {g : Option Int} {r : Rw} {k : D → Prop} (hr : OkR E.length r) (hg : okG g r = true) (h : k (.int (wor E g r))) : wp_worth_of [.tup (E.map enD), gD g, rwD r] k := by
  have h0 := hr.a0; have h1 := hr.a1; have h2 := hr.b0; have h3 := hr.b1; have h4 := hr.t0; have h5 := hr.t1
  have ea := eAt_some h0 h1
  have eb := eAt_some h2 h3
  unfold wor at h
  unfold wp_worth_of wpOf
  walk_at "psenv"
  unfold P_worth_of
  repeat walk_at "ps"
  refine dEq_far ?_
  unfold okG at hg
  cases hf : r.far with
  | true =>
    rw [hf, if_pos rfl] at h
    repeat walk_at "ps"
    refine dIx_t ea ?_
    repeat walk_at "ps"
    refine dIx_t eb ?_
    repeat walk_at "ps"
    unfold wp_steps wpOf
    walk_at "psenv"
    unfold P_steps
    repeat walk_at "ps"
    exact h
  | false =>
    rw [hf, if_neg Bool.false_ne_true] at h hg
    cases g with
    | none => cases hg
    | some g =>
      unfold gD
      repeat walk_at "ps"
      refine dIx_t eb ?_
      repeat walk_at "ps"
      refine dIx_t ea ?_
      repeat walk_at "ps"
      exact h
theorem fmod_lt {a b : Int} (h : b ≠ 0) : (a.fmod b).natAbs < b.natAbs := by
  have e := Int.fmod_eq_emod (a := a) (b := b)
  have h1 := Int.emod_nonneg a h
  have h2 := Int.emod_lt a h
  rw [e]
  split
  · omega
  · rename_i q
    have h3 : a % b ≠ 0 := fun w => q (.inr (Int.dvd_of_emod_eq_zero w))
    omega
theorem cfac_loop {K : PK'} {g : Nat} (hK : ∀ a : Int, a.natAbs = g → K.nx [SV.val (.int a), SV.val (.int 0)]) : ∀ (m : Nat) (a b : Int), b.natAbs ≤ m → Int.gcd a b = g →
    whileN (tOf (eOp dNe (eV 1) (eC (.int 0)))) (sPar 0 1 (aCons (eV 1) (aCons (eOp dModN (eV 0) (eV 1)) aNil))) K (m + 1) [SV.val (.int a), SV.val (.int b)]
  | m, a, b, hm, hg => by
    refine whileN_i ?_
    repeat walk_at "ps"
    by_cases hb' : b = 0
    · subst hb'
      rw [if_neg (by decide)]
      exact hK a (by rw [← hg, Int.gcd_zero_right])
    · rw [if_pos (by simp [hb'])]
      repeat walk_at "ps"
      have h2 := fmod_lt (a := a) hb'
      have h3 : Int.gcd b (a.fmod b) = g := by
        rw [← hg]
        exact gcd_step (q := a.fdiv b) (by have := Int.mul_fdiv_add_fmod a b; omega)
      obtain ⟨m, rfl⟩ : ∃ m', m = m' + 1 := ⟨m - 1, by omega⟩
      exact cfac_loop hK m b (a.fmod b) (by omega) h3
theorem cfac_i {a b : Int} {k : D → Prop} (h : k (.int (Int.gcd a b))) : wp_common_factor [.int a, .int b] k := by
  unfold wp_common_factor wpOf
  walk_at "psenv"
  unfold P_common_factor
  repeat walk_at "ps"
  refine ⟨b.natAbs + 1, cfac_loop (g := Int.gcd a b) (fun c hc => ?_) _ a b (Nat.le_refl _) rfl⟩
  repeat walk_at "ps"
  have e : max c (-c) = (Int.gcd a b : Int) := by
    rw [← hc]
    omega
  rw [e]
  exact h
theorem lowest_i {b t : Int} {k : D → Prop} (hb : 0 < b) (hb2 : b < 9223372036854775808) (h : k (.tup [.int (b / Int.gcd b t), .tup [.int (t / Int.gcd b t)]])) : wp_lowest [.int b, .tup [.int t]] k := by
  have g0 : (0 : Int) < Int.gcd b t := by
    have := Int.gcd_pos_of_ne_zero_left t (a := b) (by omega)
    omega
  have g1 : ((Int.gcd b t : Nat) : Int) ≤ b := Int.le_of_dvd hb (Int.gcd_dvd_left ..)
  unfold wp_lowest wpOf
  walk_at "psenv"
  unfold P_lowest
  repeat walk_at "ps"
  unfold forP
  repeat walk_at "ps"
  refine cfac_i ?_
  repeat walk_at "ps"
  unfold forP
  repeat walk_at "ps"
  refine dDivW_i g0 (by omega) ?_
  repeat walk_at "ps"
  refine ⟨by simp [noOwn], ?_⟩
  unfold lcP
  repeat walk_at "ps"
  refine dDivW_i g0 (by omega) ?_
  repeat walk_at "ps"
  refine ⟨by show 2 ≤ 100000; decide, ?_⟩
  exact h
theorem intsD_m2 {α : Type} (l : List α) (f : α → Int) : intsD (l.map fun x => D.int (f x)) = some (l.map f) := by
  have : (l.map fun x => D.int (f x)) = (l.map f).map D.int := by rw [List.map_map]; rfl
  rw [this]
  exact intsD_map _
theorem eAsk_j {fin : Bool} {vs : List Nat} {pi : PIt} {pg : PGt} {pe : PX} {env : List SV} {k : D → Prop} (h : pi env fun ds => noOwn env vs ∧ askP fin pg pe (wipeE env vs) ds k) : eAsk fin vs pi pg pe env k := h
theorem times_i {E : List En} {n : Nat} {J : Jn} {g : Option Int} {R : List Rw} {bt : Int} {k : D → Prop} (he : E.length = n) (n0 : 1 ≤ n) (hn : n ≤ 24) (hJ : JOk n J) (hR : ∀ r ∈ R, OkR n r) (hl : R.length ≤ 1000) (hb : 1 ≤ bt) (hb2 : bt < 9223372036854775808) (h : k (tsD E n J g R bt)) :
    wp_times_shown [.tup (E.map enD), .tup (J.map jD), gD g, ppD bt R] k := by
  have elen : (((E.map enD).length : Nat) : Int) = (n : Int) := by rw [List.length_map, he]
  unfold wp_times_shown wpOf
  walk_at "psenv"
  unfold P_times_shown
  repeat walk_at "ps"
  rw [elen]
  refine form_i hR hb ?_
  repeat walk_at "ps"
  unfold tsD at h
  cases ho : R.all (okG g) with
  | false =>
    rw [ho, if_neg Bool.false_ne_true] at h
    repeat walk_at "ps"
    exact h
  | true =>
    rw [ho, if_pos rfl] at h
    repeat walk_at "ps"
    refine eAsk_j ?_
    repeat walk_at "ps"
    rw [elen]
    refine borne_all n0 hn hJ hR ?_
    repeat walk_at "ps"
    refine ⟨by simp [noOwn], askP_i (fun i : Int => D.int i) (fun i => decide (i > bt)) (brs n J R) (fun i hi k' hk => ?_) ?_⟩
    · repeat walk_at "ps"
      exact hk
    rw [if_neg Bool.false_ne_true]
    repeat walk_at "ps"
    cases hs : (brs n J R).any (fun i => decide (i > bt)) with
    | true =>
      rw [hs, if_pos rfl] at h
      repeat walk_at "ps"
      exact h
    | false =>
      rw [hs, if_neg Bool.false_ne_true] at h
      repeat walk_at "ps"
      refine ⟨by simp [noOwn], lcP_m rwD (fun r => D.int (wor E g r)) R (by omega) ?_ ?_⟩
      · intro r hr A B hA
        repeat walk_at "ps"
        exact worth_i (by rw [he]; exact hR r hr) (List.all_eq_true.mp ho r hr) hA
      repeat walk_at "ps"
      refine gSum_i (intsD_m2 _ _) ?_
      repeat walk_at "ps"
      refine lowest_i (by omega) (by omega) ?_
      repeat walk_at "ps"
      exact h
theorem dEq_tt {k : D → Prop} (h : k (.bl true)) : dEq (.lst [.bl true, .bl true]) (.lst [.bl true, .bl true]) k := ⟨true, ⟨rfl, rfl, rfl⟩, h⟩
theorem lcP_c {pg : PGt} {pt : PTs'} {pe : PX} {env : List SV} {d : D} {ds acc : List D} {k : List D → Prop} (h : pg d env fun env1 => pt env1 fun b => if b = true then pe env1 fun r => acc.length ≤ 100000 ∧ lcP pg pt pe env ds (acc ++ [r]) k else lcP pg pt pe env ds acc k) : lcP pg pt pe env (d :: ds) acc k := h
theorem lcP_n {pg : PGt} {pt : PTs'} {pe : PX} {env : List SV} {acc : List D} {k : List D → Prop} (h : k acc) : lcP pg pt pe env [] acc k := h
theorem dIs_nn {k : D → Prop} (h : k (.bl true)) : dIs false .non .non k := h
theorem dIs_tn {xs : List D} {k : D → Prop} (h : k (.bl false)) : dIs false (.tup xs) .non k := h
theorem told_i {E : List En} {n : Nat} {J : Jn} {g : Option Int} {R : List Rw} {bt : Int} {k : D → Prop} (he : E.length = n) (n0 : 1 ≤ n) (hn : n ≤ 24) (hJ : JOk n J) (hR : ∀ r ∈ R, OkR n r) (hl : R.length ≤ 1000) (hb : 1 ≤ bt) (hb2 : bt < 9223372036854775808) (h : k (.bl true)) :
    wp__law_told [.tup (E.map enD), .tup (J.map jD), gD g, ppD bt R, tsD E n J g R bt] k := by
  unfold wp__law_told wpOf
  walk_at "psenv"
  unfold P__law_told
  repeat walk_at "ps"
  refine times_i he n0 hn hJ hR hl hb hb2 ?_
  have hts : tsD E n J g R bt = .non ∨ ∃ a b : Int, tsD E n J g R bt = .tup [.int a, .int b] := by
    unfold tsD
    split
    · split
      · exact .inl rfl
      · exact .inr ⟨_, _, rfl⟩
    · exact .inl rfl
  rcases hts with q | ⟨a, b, q⟩
  · rw [q]
    repeat walk_at "ps"
    refine dIs_nn ?_
    repeat walk_at "ps"
    exact dIs_nn h
  · rw [q]
    repeat walk_at "ps"
    refine dIs_tn ?_
    repeat walk_at "ps"
    refine ite_n (fun q => absurd (show ((2 : Nat) : Int) = 2 from rfl) (by simpa using q)) (fun _ => ?_)
    repeat walk_at "ps"
    refine ⟨by simp [noOwn], ?_⟩
    show lcP _ _ _ _ [.tup [.int a, .int a], .tup [.int b, .int b]] _ _
    refine lcP_c ?_
    repeat walk_at "ps"
    refine isfrom_i ?_
    rw [decide_eq_true (Int.le_refl a)]
    refine ⟨by decide, lcP_c ?_⟩
    repeat walk_at "ps"
    refine isfrom_i ?_
    rw [decide_eq_true (Int.le_refl b)]
    refine ⟨by show 1 ≤ 100000; decide, lcP_n ?_⟩
    repeat walk_at "ps"
    refine dEq_tt ?_
    repeat walk_at "ps"
    refine dEq_i rfl rfl fun c hc => ?_
    rw [hc.mpr rfl]
    exact h
theorem ts_tup {E : List En} {n : Nat} {J : Jn} {g : Option Int} {R : List Rw} {bt : Int} (ho : ∀ r ∈ R, okG g r = true) (hb : ∀ x ∈ brs n J R, x ≤ bt) : ∃ a b : Int, tsD E n J g R bt = .tup [.int a, .int b] := by
  unfold tsD
  rw [if_pos (List.all_eq_true.mpr ho), if_neg]
  · exact ⟨_, _, rfl⟩
  · intro q
    obtain ⟨x, hx, h⟩ := List.any_eq_true.mp q
    have := hb x hx
    have := of_decide_eq_true h
    omega
theorem fold_key {T M : Int} (T0 : 0 ≤ T) (M0 : 0 ≤ M) : ∀ (ps : List (Int × Int)) (l : List Int), (ps.map Prod.fst).Nodup → (∀ p ∈ ps, 0 ≤ p.1 ∧ p.2 ≤ T) → (∀ (i : Nat) (x : Int), l[i]? = some x → x ≤ M + T ∧ ((i : Int) ∈ ps.map Prod.fst → x ≤ M)) → ∀ x ∈ ps.foldl addP l, x ≤ M + T
  | [], l, _, _, h => fun x hx => by
    obtain ⟨i, hi⟩ := List.getElem?_of_mem hx
    exact (h i x hi).1
  | p :: ps, l, hn, hp, h => by
    rw [List.foldl_cons]
    rw [List.map_cons, List.nodup_cons] at hn
    have p0 := hp p List.mem_cons_self
    refine fold_key T0 M0 ps (addP l p) hn.2 (fun q hq => hp q (List.mem_cons_of_mem _ hq)) fun i x hx => ?_
    unfold addP at hx
    by_cases e : p.1.toNat = i
    · rw [e, List.getElem?_set] at hx
      simp only [if_true] at hx
      split at hx
      · have hx' : at0 l p.1 + p.2 = x := by simpa using hx
        have h1 : at0 l p.1 ≤ M := by
          unfold at0
          cases w : l[p.1.toNat]? with
          | none => exact M0
          | some z => exact (h _ z w).2 (by rw [show ((p.1.toNat : Nat) : Int) = p.1 by omega]; exact List.mem_cons_self)
        refine ⟨by omega, fun q => absurd (by rw [show p.1 = (i : Int) by omega]; exact q) hn.1⟩
      · cases hx
    · rw [List.getElem?_set_ne e] at hx
      have := h i x hx
      exact ⟨this.1, fun q => this.2 (List.mem_cons_of_mem _ q)⟩
theorem up_rise : ∀ (J : Jn) (m : Nat) (x : Int), x < m → (up m J x).Pairwise (· < ·)
  | [], _, _, _ => List.pairwise_singleton _ _
  | r :: J, m, x, h => by
    rw [up_cons]
    split
    · refine List.pairwise_cons.mpr ⟨fun w hw => ?_, up_rise J (m + 1) m (by omega)⟩
      rcases up_ge J (m + 1) m w hw with q | q <;> omega
    · exact up_rise J (m + 1) x (by omega)
theorem up_rise' : ∀ (J : Jn) (m : Nat) (x : Int), JV m J → x < (m + J.length : Nat) → (up m J x).Pairwise (· < ·)
  | [], _, _, _, _ => List.pairwise_singleton _ _
  | r :: J, m, x, hv, h => by
    obtain ⟨⟨h1, h2, h3, h4⟩, hv'⟩ := hv
    rw [up_cons]
    split
    · rename_i q
      refine List.pairwise_cons.mpr ⟨fun w hw => ?_, up_rise J (m + 1) m (by omega)⟩
      rcases up_ge J (m + 1) m w hw with w' | w' <;> rcases q with q | q <;> omega
    · exact up_rise' J (m + 1) x hv' (by simp at h ⊢; omega)
theorem side_nd {n : Nat} {J : Jn} (hJ : JOk n J) {a b : Int} (a1 : a < (n + J.length : Nat)) : (side n J a b).Nodup := by
  have h : (side n J a b).Pairwise (· < ·) := (up_rise' J n a hJ.v a1).filter _
  exact h.imp fun h => by omega
theorem prs_nd {n : Nat} {J : Jn} {r : Rw} (hJ : JOk n J) (hr : OkR n r) : ((prs n J r).map Prod.fst).Nodup := by
  have := hr.a1; have := hr.b1
  unfold prs
  rw [List.map_append, List.map_map, List.map_map]
  have e : ∀ c : Int, (Prod.fst ∘ fun w : Int => (w, c)) = id := fun c => rfl
  rw [e, e, List.map_id, List.map_id]
  refine List.nodup_append.mpr ⟨side_nd hJ (by omega), side_nd hJ (by omega), fun x hx y hy q => ?_⟩
  subst q
  have h1 := (List.mem_filter.mp hx).1
  have h2 := (List.mem_filter.mp hy).2
  simp [h1] at h2
theorem brs_tight {n : Nat} {J : Jn} (hJ : JOk n J) : ∀ (R : List Rw) (l : List Int) (M : Int), 0 ≤ M → (∀ r ∈ R, OkR n r) → (∀ x ∈ l, x ≤ M) → ∀ x ∈ (R.flatMap (prs n J)).foldl addP l, x ≤ M + (R.map Rw.t).sum
  | [], l, M, M0, hR, hl => fun x hx => by
    have := hl x hx
    simpa using this
  | r :: R, l, M, M0, hR, hl => fun x hx => by
    rw [List.flatMap_cons, List.foldl_append] at hx
    have hr := hR r List.mem_cons_self
    have t0 := hr.t0
    have := brs_tight hJ R _ (M + r.t) (by omega) (fun q hq => hR q (List.mem_cons_of_mem _ hq)) (fold_key (T := r.t) (by omega) M0 (prs n J r) l (prs_nd hJ hr) (fun p hp => ⟨(prs_bnd hJ hr p hp).1, ?_⟩) fun i x hx => ⟨by have := hl x (List.mem_of_getElem? hx); omega, fun _ => hl x (List.mem_of_getElem? hx)⟩) x hx
    · rw [List.map_cons, List.sum_cons]
      omega
    · unfold prs at hp
      rcases List.mem_append.mp hp with q | q
      · obtain ⟨w, _, rfl⟩ := List.mem_map.mp q
        show mine r ≤ _
        unfold mine
        split <;> omega
      · obtain ⟨w, _, rfl⟩ := List.mem_map.mp q
        exact Int.le_refl _
theorem brs_sum {n : Nat} {J : Jn} {R : List Rw} (hJ : JOk n J) (hR : ∀ r ∈ R, OkR n r) : ∀ x ∈ brs n J R, x ≤ (R.map Rw.t).sum := fun x hx => by
  have := brs_tight hJ R (List.replicate (2 * n - 2) 0) 0 (by decide) hR (fun y hy => by rw [(List.mem_replicate.mp hy).2]; decide) x hx
  omega
theorem sum_le {T : Int} : ∀ (R : List Rw), (∀ r ∈ R, r.t ≤ T) → (R.map Rw.t).sum ≤ R.length * T
  | [], _ => by simp
  | r :: R, h => by
    have h1 := h r List.mem_cons_self
    have h2 := sum_le R fun q hq => h q (List.mem_cons_of_mem _ hq)
    have e : ((r :: R).length : Int) * T = T + R.length * T := by
      rw [List.length_cons, Int.natCast_add, Int.add_mul]
      omega
    rw [List.map_cons, List.sum_cons, e]
    omega
theorem sForC_ds {it : PIt} {g : PGt} {b : PSt} {env : List SV} {K : PK'} (ds : List D) (hit : ∀ k : List D → Prop, k ds → it env k) (hl : ds.length ≤ 100000) (h : forP g b ds env K) : sForC it g b env K := hit _ ⟨hl, h⟩
theorem sSeq_forC_ds {it : PIt} {g : PGt} {b Q : PSt} {env : List SV} {K : PK'} (ds : List D) (hit : ∀ k : List D → Prop, k ds → it env k) (hl : ds.length ≤ 100000) (h : forP g b ds env { K with nx := fun env' => Q env' K }) : sSeq (sForC it g b) Q env K := hit _ ⟨hl, h⟩
/-! joinings turned and renumbered -/
theorem jv_at50 : ∀ (J : Jn) (n i : Nat) (r : Int × Int), JV n J → J[i]? = some r → 0 ≤ r.1 ∧ r.1 < (n + i : Nat) ∧ 0 ≤ r.2 ∧ r.2 < (n + i : Nat)
  | [], n, i, r, _, h => by cases h
  | q :: J, n, 0, r, v, h => by
    cases h
    have := v.1
    exact ⟨this.1, by simpa using this.2.1, this.2.2.1, by simpa using this.2.2.2⟩
  | q :: J, n, i + 1, r, v, h => by
    have := jv_at50 J (n + 1) i r v.2 h
    rw [show n + 1 + i = n + (i + 1) by omega] at this
    exact this
theorem sds_app (J K : Jn) : sds (J ++ K) = sds J ++ sds K := by simp [sds]
theorem jok_of {n : Nat} {J : Jn} (v : JV n J) (len : J.length + 1 = n) (nd : (sds J).Nodup) : JOk n J := by
  have hs : ∀ i, i ≤ J.length → ∃ W, JInv n i W (J.take i) := by
    intro i
    induction i with
    | zero => intro _; exact ⟨rgI n, by rw [List.take_zero]; exact JInv.start n⟩
    | succ i ih =>
      intro hi
      obtain ⟨W, h⟩ := ih (by omega)
      obtain ⟨r, hr⟩ : ∃ r, J[i]? = some r := ⟨J[i], List.getElem?_eq_getElem (by omega)⟩
      have b := jv_at50 J n i r v hr
      have e : J.take (i + 1) = J.take i ++ [r] := by rw [List.take_succ, hr]; rfl
      have n' : (sds (J.take (i + 1))).Nodup := by
        have h2 := nd
        rw [← List.take_append_drop (i + 1) J, sds_app] at h2
        exact (List.nodup_append.mp h2).1
      rw [e, sds_app] at n'
      have n2 := List.nodup_append.mp n'
      have ne : r.1 ≠ r.2 := by
        have := (List.pairwise_cons.mp (show List.Pairwise (· ≠ ·) [r.1, r.2] from n2.2.1)).1 r.2 (by simp)
        exact this
      have mw : ∀ x, 0 ≤ x → x < ((n + i : Nat) : Int) → x ∈ [r.1, r.2] → x ∈ W := fun x x0 x1 hx => by
        have := h.use.mem_iff.mpr (rgI_mem.mpr ⟨x0, x1⟩)
        rcases List.mem_append.mp this with q | q
        · exact absurd rfl (n2.2.2 x q x hx)
        · exact q
      have m1 := mw r.1 b.1 b.2.1 (by simp)
      have m2 := mw r.2 b.2.2.1 b.2.2.2 (by simp)
      refine ⟨((n + i : Nat) : Int) :: (W.erase r.1).erase r.2, ?_⟩
      rw [e]
      exact h.step (W2 := (W.erase r.1).erase r.2) (x := r.1) (y := r.2) ((List.perm_cons_erase m1).trans (.cons _ (List.perm_cons_erase ((List.mem_erase_of_ne (Ne.symm ne)).mpr m2)))) (.inl rfl) (.refl _)
  obtain ⟨W, h⟩ := hs J.length (Nat.le_refl _)
  rw [List.take_length] at h
  have wl := h.wl
  obtain ⟨w, rfl⟩ := List.length_eq_one_iff.mp (show W.length = 1 by omega)
  refine h.done ?_
  have hb := h.bnd (w := w) (by simp)
  have hm := h.use.mem_iff.mpr (show (n : Int) + J.length - 1 ∈ rgI (n + J.length) from rgI_mem.mpr ⟨by omega, by omega⟩)
  rcases List.mem_append.mp hm with q | q
  · obtain ⟨i, r, hi, hx⟩ := mem_sds.mp q
    have := jv_at50 J n i r v hi
    have := (List.getElem?_eq_some_iff.mp hi).1
    omega
  · exact (List.mem_singleton.mp q).symm
def sw (r : Int × Int) : Int × Int := (r.2, r.1)
theorem sds_sw : ∀ J : Jn, (sds (J.map sw)).Perm (sds J)
  | [] => .refl _
  | r :: J => (List.Perm.swap r.1 r.2 (sds (J.map sw))).trans (.cons _ (.cons _ (sds_sw J)))
theorem jv_sw : ∀ (J : Jn) (n : Nat), JV n J → JV n (J.map sw)
  | [], _, _ => trivial
  | r :: J, n, v => ⟨⟨v.1.2.2.1, v.1.2.2.2, v.1.1, v.1.2.1⟩, jv_sw J (n + 1) v.2⟩
theorem jok_sw {n : Nat} {J : Jn} (h : JOk n J) : JOk n (J.map sw) := jok_of (jv_sw J n h.v) (by rw [List.length_map]; exact h.len) ((sds_sw J).nodup_iff.mpr h.nd)
theorem up_sw : ∀ (J : Jn) (m : Nat) (x : Int), up m (J.map sw) x = up m J x
  | [], _, _ => rfl
  | r :: J, m, x => by
    rw [List.map_cons, up_cons, up_cons, up_sw J, up_sw J]
    by_cases h : x = r.1 ∨ x = r.2
    · rw [if_pos h, if_pos (show x = (sw r).1 ∨ x = (sw r).2 from h.symm)]
    · rw [if_neg h, if_neg (show ¬ (x = (sw r).1 ∨ x = (sw r).2) from fun q => h q.symm)]
theorem side_sw {n : Nat} {J : Jn} {a b : Int} : side n (J.map sw) a b = side n J a b := by
  unfold side
  rw [up_sw, up_sw]
/-- the places of the knots in an order of the ends -/
def pl (O : List Int) (w : Int) : Int := if w ∈ O then ((O.idxOf w : Nat) : Int) else w
structure Ord (n : Nat) (O : List Int) : Prop where
  p : O.Perm (rgI n)
theorem Ord.mem {n : Nat} {O : List Int} (h : Ord n O) {w : Int} : w ∈ O ↔ 0 ≤ w ∧ w < n := by rw [h.p.mem_iff, rgI_mem]
theorem Ord.len {n : Nat} {O : List Int} (h : Ord n O) : O.length = n := by
  have := h.p.length_eq
  simpa [rgI] using this
theorem Ord.nd {n : Nat} {O : List Int} (h : Ord n O) : O.Nodup := by
  refine h.p.nodup_iff.mpr ?_
  unfold rgI
  refine List.pairwise_map.mpr ((show (List.range n).Pairwise (· ≠ ·) from List.nodup_range).imp fun hne q => hne (by omega))
theorem idx_at {O : List Int} {w : Int} (h : w ∈ O) : O[O.idxOf w]? = some w := by
  have h1 := List.idxOf_lt_length_iff.mpr h
  rw [List.getElem?_eq_getElem h1, List.getElem_idxOf h1]
theorem Ord.at {n : Nat} {O : List Int} (h : Ord n O) {w : Int} (h0 : 0 ≤ w) (h1 : w < n) : pl O w = ((O.idxOf w : Nat) : Int) ∧ O.idxOf w < n ∧ O[O.idxOf w]? = some w := by
  have hm := h.mem.mpr ⟨h0, h1⟩
  refine ⟨if_pos hm, ?_, idx_at hm⟩
  rw [← h.len]
  exact List.idxOf_lt_length_iff.mpr hm
theorem Ord.off {n : Nat} {O : List Int} (h : Ord n O) {w : Int} (h1 : ¬ (0 ≤ w ∧ w < n)) : pl O w = w := if_neg fun q => h1 (h.mem.mp q)
theorem Ord.inj {n : Nat} {O : List Int} (h : Ord n O) {x y : Int} (e : pl O x = pl O y) : x = y := by
  by_cases hx : 0 ≤ x ∧ x < n
  · obtain ⟨x1, x2, x3⟩ := h.at hx.1 hx.2
    by_cases hy : 0 ≤ y ∧ y < n
    · obtain ⟨y1, y2, y3⟩ := h.at hy.1 hy.2
      have e2 : O.idxOf x = O.idxOf y := by omega
      rw [e2, y3] at x3
      exact (Option.some.inj x3).symm
    · rw [h.off hy, x1] at e
      omega
  · by_cases hy : 0 ≤ y ∧ y < n
    · obtain ⟨y1, y2, y3⟩ := h.at hy.1 hy.2
      rw [h.off hx, y1] at e
      omega
    · rw [h.off hx, h.off hy] at e
      exact e
theorem Ord.bnd {n : Nat} {O : List Int} (h : Ord n O) {x m : Int} (h0 : 0 ≤ x) (h1 : x < m) (hm : (n : Int) ≤ m) : 0 ≤ pl O x ∧ pl O x < m := by
  by_cases hx : 0 ≤ x ∧ x < n
  · obtain ⟨x1, x2, x3⟩ := h.at hx.1 hx.2
    omega
  · rw [h.off hx]
    exact ⟨h0, h1⟩
theorem Ord.sur {n : Nat} {O : List Int} (h : Ord n O) {y m : Int} (h0 : 0 ≤ y) (h1 : y < m) (hm : (n : Int) ≤ m) : ∃ x, 0 ≤ x ∧ x < m ∧ pl O x = y := by
  by_cases hy : 0 ≤ y ∧ y < n
  · have hl : y.toNat < O.length := by rw [h.len]; omega
    have hm' : O[y.toNat] ∈ O := List.getElem_mem hl
    obtain ⟨x0, x1⟩ := h.mem.mp hm'
    obtain ⟨e1, e2, e3⟩ := h.at x0 x1
    refine ⟨O[y.toNat], x0, by omega, ?_⟩
    have : O.idxOf O[y.toNat] = y.toNat := by
      refine (List.getElem?_inj (by rw [h.len]; exact e2) h.nd).mp ?_
      rw [e3, List.getElem?_eq_getElem hl]
    rw [e1, this]
    omega
  · exact ⟨y, h0, h1, h.off hy⟩
def rnJ (O : List Int) (r : Int × Int) : Int × Int := (pl O r.1, pl O r.2)
theorem sds_rn (O : List Int) : ∀ J : Jn, sds (J.map (rnJ O)) = (sds J).map (pl O)
  | [] => rfl
  | r :: J => by
    show pl O r.1 :: pl O r.2 :: sds (J.map (rnJ O)) = _
    rw [sds_rn O J]
    rfl
theorem jv_rn {n : Nat} {O : List Int} (h : Ord n O) : ∀ (J : Jn) (m : Nat), n ≤ m → JV m J → JV m (J.map (rnJ O))
  | [], _, _, _ => trivial
  | r :: J, m, hm, v => by
    have a := h.bnd (m := m) v.1.1 v.1.2.1 (by omega)
    have b := h.bnd (m := m) v.1.2.2.1 v.1.2.2.2 (by omega)
    exact ⟨⟨a.1, a.2, b.1, b.2⟩, jv_rn h J (m + 1) (by omega) v.2⟩
theorem nd_map {f : Int → Int} (hf : ∀ x y, f x = f y → x = y) {l : List Int} (h : l.Nodup) : (l.map f).Nodup :=
  List.pairwise_map.mpr ((show l.Pairwise (· ≠ ·) from h).imp fun hne q => hne (hf _ _ q))
theorem jok_rn {n : Nat} {O : List Int} {J : Jn} (h : Ord n O) (hJ : JOk n J) : JOk n (J.map (rnJ O)) :=
  jok_of (jv_rn h J n (Nat.le_refl _) hJ.v) (by rw [List.length_map]; exact hJ.len) (by rw [sds_rn]; exact nd_map (fun x y e => h.inj e) hJ.nd)
theorem up_rn {n : Nat} {O : List Int} (h : Ord n O) : ∀ (J : Jn) (m : Nat) (x : Int), n ≤ m → up m (J.map (rnJ O)) (pl O x) = (up m J x).map (pl O)
  | [], _, _, _ => rfl
  | r :: J, m, x, hm => by
    have em : pl O ((m : Nat) : Int) = m := h.off (by omega)
    have e1 := up_rn h J (m + 1) m (by omega)
    rw [em] at e1
    rw [List.map_cons, up_cons, up_cons]
    by_cases c : x = r.1 ∨ x = r.2
    · rw [if_pos c, if_pos (show pl O x = (rnJ O r).1 ∨ pl O x = (rnJ O r).2 from c.imp (congrArg _) (congrArg _)), e1]
      rfl
    · rw [if_neg c, if_neg (show ¬ (pl O x = (rnJ O r).1 ∨ pl O x = (rnJ O r).2) from fun q => c (q.imp h.inj h.inj)), up_rn h J (m + 1) x (by omega)]
theorem side_rn {n : Nat} {O : List Int} {J : Jn} {a b : Int} (h : Ord n O) : side n (J.map (rnJ O)) (pl O a) (pl O b) = (side n J a b).map (pl O) := by
  unfold side
  rw [up_rn h J n a (Nat.le_refl _), up_rn h J n b (Nat.le_refl _), List.filter_map]
  congr 1
  refine List.filter_congr fun w hw => ?_
  have : pl O w ∈ (up n J b).map (pl O) ↔ w ∈ up n J b := ⟨fun q => by
    obtain ⟨y, hy, e⟩ := List.mem_map.mp q
    rw [← h.inj e]
    exact hy, fun q => List.mem_map_of_mem q⟩
  show (!decide (pl O w ∈ (up n J b).map (pl O))) = !decide (w ∈ up n J b)
  rw [decide_eq_decide.mpr this]
/-! what each wire bears, as sums -/
def psum (ps : List (Int × Int)) (w : Int) : Int := (ps.map fun p => if p.1 = w then p.2 else 0).sum
theorem psum_cons {p : Int × Int} {ps : List (Int × Int)} {w : Int} : psum (p :: ps) w = (if p.1 = w then p.2 else 0) + psum ps w := by
  unfold psum
  rw [List.map_cons, List.sum_cons]
theorem psum_app {w : Int} : ∀ (ps qs : List (Int × Int)), psum (ps ++ qs) w = psum ps w + psum qs w
  | [], qs => by show psum qs w = 0 + psum qs w; omega
  | p :: ps, qs => by
    rw [List.cons_append, psum_cons, psum_cons, psum_app ps qs]
    omega
theorem at0_fold : ∀ (ps : List (Int × Int)) (l : List Int) (w : Int), (∀ p ∈ ps, 0 ≤ p.1 ∧ p.1 < l.length) → 0 ≤ w → w < l.length → at0 (ps.foldl addP l) w = at0 l w + psum ps w
  | [], l, w, _, _, _ => by show at0 l w = at0 l w + 0; omega
  | p :: ps, l, w, h, h0, h1 => by
    have hp := h p List.mem_cons_self
    have el : (addP l p).length = l.length := by unfold addP; rw [List.length_set]
    rw [List.foldl_cons, at0_fold ps (addP l p) w (fun q hq => by rw [el]; exact h q (List.mem_cons_of_mem _ hq)) h0 (by rw [el]; exact h1), psum_cons]
    have : at0 (addP l p) w = at0 l w + if p.1 = w then p.2 else 0 := by
      by_cases e : p.1 = w
      · rw [if_pos e]
        subst e
        show ((l.set p.1.toNat (at0 l p.1 + p.2))[p.1.toNat]?).getD 0 = _
        rw [List.getElem?_set_self (by omega)]
        rfl
      · rw [if_neg e]
        show ((l.set p.1.toNat (at0 l p.1 + p.2))[w.toNat]?).getD 0 = _
        rw [List.getElem?_set_ne (by omega)]
        show at0 l w = at0 l w + 0
        omega
    rw [this]
    omega
def cw (n : Nat) (J : Jn) (w : Int) (r : Rw) : Int := (if w ∈ side n J r.a r.b then mine r else 0) + (if w ∈ side n J r.b r.a then r.t else 0)
theorem psum_nd {c w : Int} : ∀ l : List Int, l.Nodup → psum (l.map fun x => (x, c)) w = if w ∈ l then c else 0
  | [], _ => rfl
  | x :: l, h => by
    have h2 := List.nodup_cons.mp h
    rw [List.map_cons, psum_cons, psum_nd l h2.2]
    by_cases e : x = w
    · subst e
      rw [if_pos rfl, if_neg h2.1, if_pos List.mem_cons_self]
      omega
    · rw [if_neg e]
      by_cases m : w ∈ l
      · rw [if_pos m, if_pos (List.mem_cons_of_mem _ m)]
        omega
      · rw [if_neg m, if_neg (fun q => (List.mem_cons.mp q).elim (fun q => e q.symm) m)]
        omega
theorem psum_prs {n : Nat} {J : Jn} {r : Rw} {w : Int} (hJ : JOk n J) (hr : OkR n r) : psum (prs n J r) w = cw n J w r := by
  have l := hJ.len
  have n1 := hr.a1
  have n2 := hr.b1
  unfold prs cw
  rw [psum_app, psum_nd _ (side_nd hJ (by omega)), psum_nd _ (side_nd hJ (by omega))]
def bw (n : Nat) (J : Jn) (R : List Rw) (w : Int) : Int := (R.map (cw n J w)).sum
theorem psum_flat {n : Nat} {J : Jn} {w : Int} (hJ : JOk n J) : ∀ R : List Rw, (∀ r ∈ R, OkR n r) → psum (R.flatMap (prs n J)) w = bw n J R w
  | [], _ => rfl
  | r :: R, h => by
    unfold bw
    rw [List.flatMap_cons, psum_app, psum_prs hJ (h r List.mem_cons_self), psum_flat hJ R fun q hq => h q (List.mem_cons_of_mem _ hq), List.map_cons, List.sum_cons]
    rfl
theorem at0_brs {n : Nat} {J : Jn} {R : List Rw} {w : Int} (hJ : JOk n J) (hR : ∀ r ∈ R, OkR n r) (h0 : 0 ≤ w) (h1 : w < (2 * n - 2 : Nat)) : at0 (brs n J R) w = bw n J R w := by
  unfold brs
  rw [at0_fold _ _ w (fun p hp => by
    obtain ⟨r, hr, hq⟩ := List.mem_flatMap.mp hp
    have := prs_bnd hJ (hR r hr) p hq
    rw [List.length_replicate]
    exact this) h0 (by rw [List.length_replicate]; exact h1), psum_flat hJ R hR]
  have : at0 (List.replicate (2 * n - 2) (0 : Int)) w = 0 := by
    unfold at0
    rw [List.getElem?_replicate, if_pos (by omega)]
    rfl
  rw [this]
  omega
theorem mem_brs {n : Nat} {J : Jn} {R : List Rw} {x : Int} (hJ : JOk n J) (hR : ∀ r ∈ R, OkR n r) : x ∈ brs n J R ↔ ∃ w : Int, 0 ≤ w ∧ w < (2 * n - 2 : Nat) ∧ x = bw n J R w := by
  constructor
  · intro h
    obtain ⟨i, hi⟩ := List.getElem?_of_mem h
    have hl : i < 2 * n - 2 := by
      have := (List.getElem?_eq_some_iff.mp hi).1
      rwa [brs_len] at this
    refine ⟨(i : Int), by omega, by omega, ?_⟩
    rw [← at0_brs hJ hR (by omega) (by omega)]
    unfold at0
    rw [Int.toNat_natCast, hi]
    rfl
  · rintro ⟨w, h0, h1, rfl⟩
    rw [← at0_brs hJ hR h0 h1]
    exact List.mem_of_getElem? (at0_some h0 (by rw [brs_len]; exact h1))
def mxz (n : Nat) (J : Jn) (R : List Rw) : Int := maxI (0 :: brs n J R)
theorem mxz_ge {n : Nat} {J : Jn} {R : List Rw} {x : Int} (h : x ∈ brs n J R) : x ≤ mxz n J R := maxI_le (List.mem_cons_of_mem _ h)
theorem mxz_0 {n : Nat} {J : Jn} {R : List Rw} : 0 ≤ mxz n J R := maxI_le List.mem_cons_self
theorem mxz_mem {n : Nat} {J : Jn} {R : List Rw} : mxz n J R = 0 ∨ mxz n J R ∈ brs n J R := List.mem_cons.mp (maxI_mem (by simp))
theorem mxz_eq {n : Nat} {J J' : Jn} {R R' : List Rw} {s : Int} (hs : 0 < s) (h1 : ∀ x ∈ brs n J R, s * x ∈ brs n J' R') (h2 : ∀ y ∈ brs n J' R', ∃ x ∈ brs n J R, y = s * x) : mxz n J' R' = s * mxz n J R := by
  refine Int.le_antisymm ?_ ?_
  · rcases mxz_mem (n := n) (J := J') (R := R') with h | h
    · rw [h]
      exact Int.mul_nonneg (by omega) mxz_0
    · obtain ⟨x, hx, e⟩ := h2 _ h
      rw [e]
      exact Int.mul_le_mul_of_nonneg_left (mxz_ge hx) (by omega)
  · rcases mxz_mem (n := n) (J := J) (R := R) with h | h
    · rw [h, Int.mul_zero]
      exact mxz_0
    · exact mxz_ge (h1 _ h)
/-- a paper that tells the same fraction, all of it s times as great -/
structure Var (E : List En) (n : Nat) (J : Jn) (g : Option Int) (R : List Rw) (s : Int) (E' : List En) (J' : Jn) (R' : List Rw) : Prop where
  el : E'.length = n
  jk : JOk n J'
  ok : ∀ r ∈ R', OkR n r
  og : ∀ r ∈ R', okG g r = true
  len : R'.length ≤ 32
  up : ∀ w : Int, 0 ≤ w → w < (2 * n - 2 : Nat) → ∃ w' : Int, 0 ≤ w' ∧ w' < (2 * n - 2 : Nat) ∧ bw n J' R' w' = s * bw n J R w
  dn : ∀ w' : Int, 0 ≤ w' → w' < (2 * n - 2 : Nat) → ∃ w : Int, 0 ≤ w ∧ w < (2 * n - 2 : Nat) ∧ bw n J' R' w' = s * bw n J R w
  tp : topOf E' g R' = s * topOf E g R
section
variable {E E' : List En} {n : Nat} {J J' : Jn} {g : Option Int} {R R' : List Rw} {s b : Int}
theorem Var.mx (v : Var E n J g R s E' J' R') (hJ : JOk n J) (hR : ∀ r ∈ R, OkR n r) (hs : 0 < s) : mxz n J' R' = s * mxz n J R := by
  refine mxz_eq hs (fun x hx => ?_) fun y hy => ?_
  · obtain ⟨w, h0, h1, rfl⟩ := (mem_brs hJ hR).mp hx
    obtain ⟨w', h2, h3, e⟩ := v.up w h0 h1
    exact (mem_brs v.jk v.ok).mpr ⟨w', h2, h3, e.symm⟩
  · obtain ⟨w', h0, h1, rfl⟩ := (mem_brs v.jk v.ok).mp hy
    obtain ⟨w, h2, h3, e⟩ := v.dn w' h0 h1
    exact ⟨_, (mem_brs hJ hR).mpr ⟨w, h2, h3, rfl⟩, e⟩
theorem ts_eq (ho : ∀ r ∈ R, okG g r = true) (hb : mxz n J R ≤ b) : tsD E n J g R b = .tup [.int (topOf E g R / Int.gcd b (topOf E g R)), .int (b / Int.gcd b (topOf E g R))] := by
  unfold tsD
  rw [if_pos (List.all_eq_true.mpr ho), if_neg]
  intro q
  obtain ⟨x, hx, h⟩ := List.any_eq_true.mp q
  have := mxz_ge hx
  have := of_decide_eq_true h
  omega
theorem ts_no (h0 : 0 ≤ b) (hb : b < mxz n J R) : tsD E n J g R b = .non := by
  unfold tsD
  split
  · rw [if_pos]
    rcases mxz_mem (n := n) (J := J) (R := R) with h | h
    · omega
    · exact List.any_eq_true.mpr ⟨_, h, decide_eq_true hb⟩
  · rfl
theorem Var.ts (v : Var E n J g R s E' J' R') (hJ : JOk n J) (hR : ∀ r ∈ R, OkR n r) (ho : ∀ r ∈ R, okG g r = true) (hs : 0 < s) (hb : mxz n J R ≤ b) (b0 : 0 < b) : tsD E' n J' g R' (b * s) = tsD E n J g R b := by
  have hm : mxz n J' R' ≤ b * s := by
    rw [v.mx hJ hR hs, Int.mul_comm b s]
    exact Int.mul_le_mul_of_nonneg_left hb (by omega)
  rw [ts_eq ho hb, ts_eq v.og hm, v.tp, Int.mul_comm b s, Int.gcd_mul_left]
  have e : ((s.natAbs * Int.gcd b (topOf E g R) : Nat) : Int) = s * (Int.gcd b (topOf E g R) : Nat) := by
    rw [Int.natCast_mul, Int.natAbs_of_nonneg (by omega)]
  rw [e, Int.mul_ediv_mul_of_pos _ _ hs, Int.mul_ediv_mul_of_pos _ _ hs]
theorem Var.no (v : Var E n J g R s E' J' R') (hJ : JOk n J) (hR : ∀ r ∈ R, OkR n r) (hs : 0 < s) (hb : mxz n J R = b) (b0 : 0 < b) : tsD E' n J' g R' (b * s - 1) = .non := by
  have hp : 0 < b * s := Int.mul_pos b0 hs
  refine ts_no (by omega) ?_
  rw [v.mx hJ hR hs, hb, Int.mul_comm b s]
  rw [Int.mul_comm] at hp
  omega
end
/-! the five other papers -/
section
variable {E : List En} {n : Nat} {J : Jn} {g : Option Int} {R : List Rw}
theorem Var.of {E' : List En} {J' : Jn} {R' : List Rw} {s : Int} (el : E'.length = n) (jk : JOk n J') (ok : ∀ r ∈ R', OkR n r) (og : ∀ r ∈ R', okG g r = true) (len : R'.length ≤ 32) (h : ∀ w, bw n J' R' w = s * bw n J R w) (tp : topOf E' g R' = s * topOf E g R) : Var E n J g R s E' J' R' :=
  ⟨el, jk, ok, og, len, fun w h0 h1 => ⟨w, h0, h1, h w⟩, fun w h0 h1 => ⟨w, h0, h1, h w⟩, tp⟩
theorem var_same (el : E.length = n) (jk : JOk n J) (ok : ∀ r ∈ R, OkR n r) (og : ∀ r ∈ R, okG g r = true) (len : R.length ≤ 16) : Var E n J g R 1 E J R :=
  .of el jk ok og (by omega) (fun w => by rw [Int.one_mul]) (by rw [Int.one_mul])
theorem sumA : ∀ l m : List Int, (l ++ m).sum = l.sum + m.sum
  | [], m => by show m.sum = 0 + m.sum; omega
  | a :: l, m => by rw [List.cons_append, List.sum_cons, List.sum_cons, sumA l m]; omega
theorem sum_rev (l : List Int) : l.reverse.sum = l.sum := by
  have h : ∀ l m : List Int, (l ++ m).sum = l.sum + m.sum := fun l m => by
    induction l with
    | nil => show m.sum = 0 + m.sum; omega
    | cons a l ih => rw [List.cons_append, List.sum_cons, List.sum_cons, ih]; omega
  induction l with
  | nil => rfl
  | cons a l ih =>
    rw [List.reverse_cons, h, ih, List.sum_cons, List.sum_cons]
    show l.sum + (a + 0) = a + l.sum
    omega
theorem var_rev (el : E.length = n) (jk : JOk n J) (ok : ∀ r ∈ R, OkR n r) (og : ∀ r ∈ R, okG g r = true) (len : R.length ≤ 16) : Var E n J g R 1 E J R.reverse := by
  refine .of el jk (fun r hr => ok r (List.mem_reverse.mp hr)) (fun r hr => og r (List.mem_reverse.mp hr)) (by rw [List.length_reverse]; omega) (fun w => ?_) ?_
  · unfold bw
    rw [List.map_reverse, sum_rev, Int.one_mul]
  · unfold topOf
    rw [List.map_reverse, sum_rev, Int.one_mul]
theorem var_sw (el : E.length = n) (jk : JOk n J) (ok : ∀ r ∈ R, OkR n r) (og : ∀ r ∈ R, okG g r = true) (len : R.length ≤ 16) : Var E n J g R 1 E (J.map sw) R := by
  refine .of el (jok_sw jk) ok og (by omega) (fun w => ?_) (by rw [Int.one_mul])
  have : cw n (J.map sw) w = cw n J w := funext fun r => by
    unfold cw
    rw [side_sw, side_sw]
  unfold bw
  rw [this, Int.one_mul]
/-- rows parted in two -/
def part1 (r : Rw) : List Rw := (if 1 < r.t then [⟨r.far, r.a, r.b, r.t / 2⟩] else []) ++ [⟨r.far, r.a, r.b, r.t - r.t / 2⟩]
theorem part_sum {f : Rw → Int} (hf : ∀ r : Rw, ∀ x y : Int, x + y = r.t → f ⟨r.far, r.a, r.b, x⟩ + f ⟨r.far, r.a, r.b, y⟩ = f r) : ∀ R : List Rw, (∀ r ∈ R, 1 ≤ r.t) → ((R.flatMap part1).map f).sum = (R.map f).sum
  | [], _ => rfl
  | r :: R, h => by
    have ih := part_sum hf R fun q hq => h q (List.mem_cons_of_mem _ hq)
    have h1 := h r List.mem_cons_self
    have e : ((part1 r).map f).sum = f r := by
      unfold part1
      by_cases c : 1 < r.t
      · rw [if_pos c]
        show f _ + (f _ + 0) = _
        rw [← hf r (r.t / 2) (r.t - r.t / 2) (by omega)]
        omega
      · rw [if_neg c]
        have e : r.t - r.t / 2 = r.t := by omega
        rw [e]
        show f _ + 0 = _
        exact Int.add_zero _
    rw [List.flatMap_cons, List.map_append, sumA, ih, e, List.map_cons, List.sum_cons]
theorem part_mem {r q : Rw} (h : q ∈ part1 r) (h1 : 1 ≤ r.t) : q.far = r.far ∧ q.a = r.a ∧ q.b = r.b ∧ 1 ≤ q.t ∧ q.t ≤ r.t := by
  unfold part1 at h
  rcases List.mem_append.mp h with h | h
  · split at h
    · rw [List.mem_singleton.mp h]
      exact ⟨rfl, rfl, rfl, by show 1 ≤ r.t / 2; omega, by show r.t / 2 ≤ r.t; omega⟩
    · cases h
  · rw [List.mem_singleton.mp h]
    exact ⟨rfl, rfl, rfl, by show 1 ≤ r.t - r.t / 2; omega, by show r.t - r.t / 2 ≤ r.t; omega⟩
theorem part_len : ∀ R : List Rw, (R.flatMap part1).length ≤ 2 * R.length
  | [] => by simp
  | r :: R => by
    have := part_len R
    rw [List.flatMap_cons, List.length_append, List.length_cons]
    have : (part1 r).length ≤ 2 := by
      unfold part1
      split <;> simp
    omega
theorem cw_add {w : Int} (r : Rw) (x y : Int) (h : x + y = r.t) : cw n J w ⟨r.far, r.a, r.b, x⟩ + cw n J w ⟨r.far, r.a, r.b, y⟩ = cw n J w r := by
  unfold cw mine
  dsimp only
  rw [← h]
  cases r.far <;> (simp only [Bool.false_eq_true, if_false, if_true]; split <;> split <;> omega)
theorem wor_add (r : Rw) (x y : Int) (h : x + y = r.t) : wor E g ⟨r.far, r.a, r.b, x⟩ + wor E g ⟨r.far, r.a, r.b, y⟩ = wor E g r := by
  unfold wor
  dsimp only
  rw [← h]
  cases r.far
  · rw [if_neg Bool.false_ne_true, if_neg Bool.false_ne_true, if_neg Bool.false_ne_true, ← Int.add_mul]
    congr 1
    omega
  · rw [if_pos rfl, if_pos rfl, if_pos rfl, ← Int.add_mul]
theorem okG_same {q r : Rw} (h1 : q.far = r.far) (h2 : q.a = r.a) (h3 : q.b = r.b) : okG g q = okG g r := by
  unfold okG
  rw [h1, h2, h3]
theorem var_part (el : E.length = n) (jk : JOk n J) (ok : ∀ r ∈ R, OkR n r) (og : ∀ r ∈ R, okG g r = true) (len : R.length ≤ 16) : Var E n J g R 1 E J (R.flatMap part1) := by
  have ht : ∀ r ∈ R, 1 ≤ r.t := fun r hr => (ok r hr).t0
  refine .of el jk (fun q hq => ?_) (fun q hq => ?_) (by have := part_len R; omega) (fun w => ?_) ?_
  · obtain ⟨r, hr, hq⟩ := List.mem_flatMap.mp hq
    obtain ⟨h1, h2, h3, h4, h5⟩ := part_mem hq (ht r hr)
    have o := ok r hr
    exact ⟨by rw [h2]; exact o.a0, by rw [h2]; exact o.a1, by rw [h3]; exact o.b0, by rw [h3]; exact o.b1, by rw [h2, h3]; exact o.ne, h4, Int.le_trans h5 o.t1⟩
  · obtain ⟨r, hr, hq⟩ := List.mem_flatMap.mp hq
    obtain ⟨h1, h2, h3, h4, h5⟩ := part_mem hq (ht r hr)
    rw [okG_same h1 h2 h3]
    exact og r hr
  · unfold bw
    rw [part_sum cw_add R ht, Int.one_mul]
  · unfold topOf
    rw [part_sum wor_add R ht, Int.one_mul]
/-- rows that are told so many times more often -/
def mulR (s : Int) (r : Rw) : Rw := ⟨r.far, r.a, r.b, r.t * s⟩
theorem mul_sum {f : Rw → Int} {s : Int} (hf : ∀ r, f (mulR s r) = s * f r) : ∀ R : List Rw, ((R.map (mulR s)).map f).sum = s * (R.map f).sum
  | [] => by show (0 : Int) = s * 0; rw [Int.mul_zero]
  | r :: R => by
    rw [List.map_cons, List.map_cons, List.sum_cons, List.map_cons, List.sum_cons, mul_sum hf R, hf, Int.mul_add]
theorem cw_mul {w s : Int} (r : Rw) : cw n J w (mulR s r) = s * cw n J w r := by
  have e : ∀ (c : Prop) [Decidable c] (x : Int), s * (if c then x else 0) = if c then s * x else 0 := fun c _ x => by
    split
    · rfl
    · exact Int.mul_zero s
  unfold cw
  rw [Int.mul_add, e, e]
  congr 1
  · congr 1
    unfold mine mulR
    dsimp only
    split
    · exact Int.mul_comm _ _
    · rw [Int.mul_neg, Int.mul_comm]
  · congr 1
    exact Int.mul_comm _ _
theorem wor_mul {s : Int} (r : Rw) : wor E g (mulR s r) = s * wor E g r := by
  unfold wor mulR
  dsimp only
  split
  · rw [Int.mul_comm r.t s, Int.mul_assoc]
  · rw [Int.mul_comm r.t s, ← Int.mul_neg, Int.mul_assoc]
theorem var_mul {s : Int} (s0 : 1 ≤ s) (s1 : s ≤ 9) (el : E.length = n) (jk : JOk n J) (ok : ∀ r ∈ R, OkR n r) (ot : ∀ r ∈ R, r.t ≤ 1000000) (og : ∀ r ∈ R, okG g r = true) (len : R.length ≤ 16) : Var E n J g R s E J (R.map (mulR s)) := by
  refine .of el jk (fun q hq => ?_) (fun q hq => ?_) (by rw [List.length_map]; omega) (fun w => ?_) ?_
  · obtain ⟨r, hr, rfl⟩ := List.mem_map.mp hq
    have o := ok r hr
    have h1 : r.t * 1 ≤ r.t * s := Int.mul_le_mul_of_nonneg_left s0 (by have := o.t0; omega)
    have h2 : r.t * s ≤ r.t * 9 := Int.mul_le_mul_of_nonneg_left s1 (by have := o.t0; omega)
    have h3 := ot r hr
    have h4 := o.t0
    exact ⟨o.a0, o.a1, o.b0, o.b1, o.ne, by show 1 ≤ r.t * s; omega, by show r.t * s ≤ _; omega⟩
  · obtain ⟨r, hr, rfl⟩ := List.mem_map.mp hq
    rw [okG_same (q := mulR s r) (r := r) rfl rfl rfl]
    exact og r hr
  · unfold bw
    rw [mul_sum cw_mul]
  · unfold topOf
    rw [mul_sum wor_mul]
/-- rows whose ends are numbered anew -/
def rnR (O : List Int) (r : Rw) : Rw := if r.far then ⟨true, min (pl O r.a) (pl O r.b), max (pl O r.a) (pl O r.b), r.t⟩ else ⟨false, pl O r.a, pl O r.b, r.t⟩
theorem eAt_rn {O : List Int} {a : Int} (h : Ord n O) (h0 : 0 ≤ a) (h1 : a < n) : eAt (O.map (eAt E)) (pl O a) = eAt E a := by
  obtain ⟨e1, e2, e3⟩ := h.at h0 h1
  rw [e1]
  show (((O.map (eAt E))[((O.idxOf a : Nat) : Int).toNat]?).getD _) = _
  rw [Int.toNat_natCast, List.getElem?_map, e3]
  rfl
theorem ab1_neg (x y : Int) : ab1 (x - y) = ab1 (y - x) := by
  unfold ab1
  omega
theorem far_sym (p q : En) : farE p q = farE q p := by
  unfold farE
  rw [ab1_neg p.x q.x, ab1_neg p.y q.y]
theorem cw_flip {w x y t : Int} : cw n J w ⟨true, x, y, t⟩ = cw n J w ⟨true, y, x, t⟩ := by
  unfold cw mine
  dsimp only
  rw [if_pos rfl]
  omega
theorem mem_rn {O : List Int} {a b w : Int} (h : Ord n O) : pl O w ∈ side n (J.map (rnJ O)) (pl O a) (pl O b) ↔ w ∈ side n J a b := by
  rw [side_rn h]
  exact ⟨fun q => by
    obtain ⟨y, hy, e⟩ := List.mem_map.mp q
    rw [← h.inj e]
    exact hy, fun q => List.mem_map_of_mem q⟩
theorem cw_rn {O : List Int} {w : Int} (h : Ord n O) (r : Rw) : cw n (J.map (rnJ O)) (pl O w) (rnR O r) = cw n J w r := by
  have e : ∀ f t, cw n (J.map (rnJ O)) (pl O w) ⟨f, pl O r.a, pl O r.b, t⟩ = cw n J w ⟨f, r.a, r.b, t⟩ := fun f t => by
    unfold cw
    dsimp only
    simp only [mem_rn h]
    rfl
  obtain ⟨f, a, b, t⟩ := r
  unfold rnR
  dsimp only at e ⊢
  cases f
  · rw [if_neg Bool.false_ne_true]
    exact e false t
  · rw [if_pos rfl]
    rcases Int.le_total (pl O a) (pl O b) with q | q
    · rw [Int.min_eq_left q, Int.max_eq_right q]
      exact e true t
    · rw [Int.min_eq_right q, Int.max_eq_left q, cw_flip]
      exact e true t
theorem wor_rn {O : List Int} (h : Ord n O) {r : Rw} (o : OkR n r) : wor (O.map (eAt E)) g (rnR O r) = wor E g r := by
  have ea := eAt_rn (E := E) h o.a0 o.a1
  have eb := eAt_rn (E := E) h o.b0 o.b1
  obtain ⟨f, a, b, t⟩ := r
  unfold rnR wor
  dsimp only at ea eb ⊢
  cases f
  · rw [if_neg Bool.false_ne_true, if_neg Bool.false_ne_true]
    dsimp only
    rw [if_neg Bool.false_ne_true, ea, eb]
  · rw [if_pos rfl, if_pos rfl]
    dsimp only
    rw [if_pos rfl]
    rcases Int.le_total (pl O a) (pl O b) with q | q
    · rw [Int.min_eq_left q, Int.max_eq_right q, ea, eb]
    · rw [Int.min_eq_right q, Int.max_eq_left q, ea, eb, far_sym]
theorem okR_rn {O : List Int} (h : Ord n O) {r : Rw} (o : OkR n r) : OkR n (rnR O r) := by
  have a := h.bnd o.a0 o.a1 (Int.le_refl _)
  have b := h.bnd o.b0 o.b1 (Int.le_refl _)
  have ne : pl O r.a ≠ pl O r.b := fun q => o.ne (h.inj q)
  unfold rnR
  split
  · exact ⟨by show 0 ≤ min (pl O r.a) (pl O r.b); omega, by show min (pl O r.a) (pl O r.b) < n; omega, by show 0 ≤ max (pl O r.a) (pl O r.b); omega, by show max (pl O r.a) (pl O r.b) < n; omega, by show min (pl O r.a) (pl O r.b) ≠ max (pl O r.a) (pl O r.b); omega, o.t0, o.t1⟩
  · exact ⟨a.1, a.2, b.1, b.2, ne, o.t0, o.t1⟩
theorem okG_rn {O : List Int} (h : Ord n O) {r : Rw} (o : OkR n r) (hg : okG g r = true) : okG g (rnR O r) = true := by
  have ne : pl O r.a ≠ pl O r.b := fun q => o.ne (h.inj q)
  unfold rnR okG
  unfold okG at hg
  by_cases f : r.far = true
  · rw [if_pos f]
    dsimp only
    rw [if_pos rfl]
    exact decide_eq_true (by omega)
  · rw [if_neg f] at hg ⊢
    dsimp only
    rw [if_neg Bool.false_ne_true]
    exact hg
theorem map_sum {f f' : Rw → Int} {k : Rw → Rw} : ∀ R : List Rw, (∀ r ∈ R, f' (k r) = f r) → ((R.map k).map f').sum = (R.map f).sum
  | [], _ => rfl
  | r :: R, h => by
    rw [List.map_cons, List.map_cons, List.sum_cons, List.map_cons, List.sum_cons, map_sum R fun q hq => h q (List.mem_cons_of_mem _ hq), h r List.mem_cons_self]
theorem var_rn {O : List Int} (h : Ord n O) (n0 : 1 ≤ n) (jk : JOk n J) (ok : ∀ r ∈ R, OkR n r) (og : ∀ r ∈ R, okG g r = true) (len : R.length ≤ 16) : Var E n J g R 1 (O.map (eAt E)) (J.map (rnJ O)) (R.map (rnR O)) := by
  have hb : ∀ w, bw n (J.map (rnJ O)) (R.map (rnR O)) (pl O w) = 1 * bw n J R w := fun w => by
    unfold bw
    rw [map_sum R fun r hr => cw_rn h r, Int.one_mul]
  have rbad : n = 1 → R = [] := fun e => by
    cases R with
    | nil => rfl
    | cons r R =>
      have o := ok r List.mem_cons_self
      have := o.a0; have := o.a1; have := o.b0; have := o.b1; have := o.ne
      omega
  refine ⟨by rw [List.length_map, h.len], jok_rn h jk, fun q hq => ?_, fun q hq => ?_, by rw [List.length_map]; omega, fun w h0 h1 => ?_, fun w' h0 h1 => ?_, ?_⟩
  · obtain ⟨r, hr, rfl⟩ := List.mem_map.mp hq
    exact okR_rn h (ok r hr)
  · obtain ⟨r, hr, rfl⟩ := List.mem_map.mp hq
    exact okG_rn h (ok r hr) (og r hr)
  · have b := h.bnd (x := w) (m := ((2 * n - 2 : Nat) : Int)) h0 h1 (by omega)
    exact ⟨pl O w, b.1, b.2, hb w⟩
  · obtain ⟨w, a, b, c⟩ := h.sur (y := w') (m := ((2 * n - 2 : Nat) : Int)) h0 h1 (by omega)
    refine ⟨w, a, b, ?_⟩
    rw [← c]
    exact hb w
  · unfold topOf
    rw [map_sum R fun r hr => wor_rn h (ok r hr), Int.one_mul]
end
theorem draws_perm {A W : List Int} {n : Nat} {t : Nat} (h : (A ++ W).Perm (rgI n)) (ht : t < W.length) : (A ++ [W[t]] ++ W.eraseIdx t).Perm (rgI n) := by
  refine List.Perm.trans ?_ h
  rw [List.append_assoc]
  exact (perm_er (List.getElem?_eq_getElem ht)).symm.append_left A
theorem rgI_len50 (n : Nat) : (rgI n).length = n := by simp [rgI]
theorem order_i {n : Nat} {k : D → Prop} (n0 : 1 ≤ n) (n1 : n ≤ 24) (h : ∀ O, Ord n O → k (.lst (O.map D.int))) : wp__law_order [.deck 8, .int n] k := by
  unfold wp__law_order wpOf
  walk_at "psenv"
  unfold P__law_order
  repeat walk_at "ps"
  refine dRg_i (by omega) ?_
  have hr : rangeD 0 ((n : Int) - 0).toNat = (rgI n).map D.int := by
    unfold rangeD rgI
    rw [List.map_map, show ((n : Int) - 0).toNat = n by omega]
    apply List.map_congr_left
    intro i _
    show D.int (0 + (i : Int)) = D.int (i : Int)
    rw [Int.zero_add]
  rw [hr]
  repeat walk_at "ps"
  refine sRetM_i (mLcC_i ?_)
  repeat walk_at "ps"
  refine rgK1_i (by omega) (by omega) ⟨by simp [noOwn], by rw [rangeD_len]; omega, ?_⟩
  refine lcM_i (fun i env acc => ∃ A W : List Int, A.length = i ∧ (A ++ W).Perm (rgI n) ∧ acc = A.map D.int ∧ env = [SV.val (.deck 8), SV.val (.int n), SV.own (.lst (W.map D.int)), SV.no]) _ 0 ⟨[], rgI n, rfl, List.Perm.refl _, rfl, rfl⟩ ?_ ?_
  · rintro i d env acc hd ⟨A, W, hA, hp, rfl, rfl⟩ B hB
    obtain ⟨rfl, hi⟩ := rangeD_at hd
    rw [Nat.zero_add] at hA hB
    have hl := hp.length_eq
    rw [List.length_append, rgI_len50] at hl
    rw [Int.toNat_natCast] at hi
    repeat walk_at "ps"
    rw [List.length_map]
    refine draw_i (by omega) (by omega) fun t t0 t1 => ?_
    repeat walk_at "ps"
    have ht : t.toNat < W.length := by omega
    have hw : W[t.toNat]? = some W[t.toNat] := List.getElem?_eq_getElem ht
    refine ⟨by omega, t.toNat, .int W[t.toNat], seqIx t0 t1, by rw [List.getElem?_map, hw]; rfl, ?_⟩
    refine hB _ _ ⟨by rw [List.length_map]; omega, A ++ [W[t.toNat]], W.eraseIdx t.toNat, by simp [hA], draws_perm hp ht, by rw [List.map_append]; rfl, ?_⟩
    rw [er_map]
    rfl
  rintro env acc ⟨A, W, hA, hp, rfl, rfl⟩
  rw [Nat.zero_add, rangeD_len, Int.toNat_natCast] at hA
  have hW : W = [] := by
    have hl := hp.length_eq
    rw [List.length_append, rgI_len50] at hl
    exact List.length_eq_zero_iff.mp (by omega)
  subst hW
  rw [List.append_nil] at hp
  exact h A ⟨hp⟩
/-! rows parted -/
theorem parted_i {R : List Rw} {k : D → Prop} (hl : R.length ≤ 16) (ht : ∀ r ∈ R, 1 ≤ r.t ∧ r.t ≤ 1000000) (h : k (.tup ((R.flatMap part1).map rwD))) : wp__law_parted [.tup (R.map rwD)] k := by
  unfold wp__law_parted wpOf
  walk_at "psenv"
  unfold P__law_parted
  repeat walk_at "ps"
  refine forP_i (fun i env => ∃ v2 : SV, env = [SV.val (.tup (R.map rwD)), SV.own (.lst (((R.take i).flatMap part1).map rwD)), v2]) _ 0 ⟨_, rfl⟩ ?_ ?_
  · rintro i d env hd ⟨v2, rfl⟩ N hN
    rw [List.getElem?_map] at hd
    cases hr : R[i]? with
    | none => rw [hr] at hd; cases hd
    | some r =>
      rw [hr] at hd
      cases hd
      rw [Nat.zero_add] at hN ⊢
      have hrR := List.mem_of_getElem? hr
      obtain ⟨t0, t1⟩ := ht r hrR
      have hlen := part_len (R.take i)
      have hll : ((R.take i).flatMap part1).length ≤ 32 := by
        rw [List.length_take] at hlen
        omega
      have e : (R.take (i + 1)).flatMap part1 = (R.take i).flatMap part1 ++ part1 r := by
        rw [List.take_succ, hr, List.flatMap_append]
        simp
      repeat walk_at "ps"
      refine sSeq_mid (fun env => env = [SV.val (.tup (R.map rwD)), SV.own (.lst (((R.take i).flatMap part1 ++ (if 1 < r.t then ([⟨r.far, r.a, r.b, r.t / 2⟩] : List Rw) else [])).map rwD)), SV.val (rwD r)]) ?_ ?_
      · intro M hM
        repeat walk_at "ps"
        refine ite_d (fun c => ?_) (fun c => ?_)
        · have c' := c
          rw [if_pos c'] at hM
          repeat walk_at "ps"
          refine ⟨by show (4 : Nat) ≤ 100000; decide, ?_⟩
          repeat walk_at "ps"
          refine ⟨by rw [List.length_map]; omega, ?_⟩
          refine hM _ ?_
          rw [List.map_append]
          rfl
        · have c' := c
          rw [if_neg c', List.append_nil] at hM
          repeat walk_at "ps"
          exact hM _ rfl
      · rintro env rfl
        repeat walk_at "ps"
        refine ⟨by show (4 : Nat) ≤ 100000; decide, ?_⟩
        repeat walk_at "ps"
        refine ⟨?_, ?_⟩
        · rw [List.length_map, List.length_append]
          have : (if 1 < r.t then ([⟨r.far, r.a, r.b, r.t / 2⟩] : List Rw) else []).length ≤ 1 := by split <;> simp
          omega
        refine hN _ ⟨SV.val (rwD r), ?_⟩
        rw [e]
        unfold part1
        rw [← List.append_assoc, List.map_append (l₁ := _ ++ _)]
        rfl
  · rintro env ⟨v2, rfl⟩
    rw [List.length_map, Nat.zero_add, List.take_length]
    repeat walk_at "ps"
    exact h
/-! the ends in another order -/
def place (O : List Int) : List (Int × Int) := (List.range O.length).map fun i => (O.getD i 0, (i : Int))
theorem merge_off : ∀ (l : List (Int × Int)) (ds : List (Key × D)) (x : Int), x ∉ l.map Prod.fst → valD (l.foldl (fun acc p => putD acc (.inl p.1) (.int p.2)) ds) (.inl x) = valD ds (.inl x)
  | [], _, _, _ => rfl
  | p :: l, ds, x, h => by
    rw [List.map_cons, List.mem_cons, not_or] at h
    rw [List.foldl_cons, merge_off l _ x h.2, valD_put, if_neg fun q => h.1 (Sum.inl.inj q)]
theorem merge_on : ∀ (l : List (Int × Int)) (ds : List (Key × D)) (p : Int × Int), (l.map Prod.fst).Nodup → p ∈ l → valD (l.foldl (fun acc p => putD acc (.inl p.1) (.int p.2)) ds) (.inl p.1) = some (.int p.2)
  | [], _, _, _, h => by cases h
  | q :: l, ds, p, hn, h => by
    rw [List.map_cons] at hn
    have h2 := List.nodup_cons.mp hn
    rw [List.foldl_cons]
    rcases List.mem_cons.mp h with rfl | h
    · rw [merge_off l _ p.1 h2.1, valD_put, if_pos rfl]
    · exact merge_on l _ p h2.2 h
theorem place_fst (O : List Int) : (place O).map Prod.fst = O := by
  unfold place
  rw [List.map_map]
  refine List.ext_getElem (by simp) fun i h1 h2 => ?_
  rw [List.getElem_map, List.getElem_range]
  show O.getD i 0 = O[i]
  rw [List.getD_eq_getElem?_getD, List.getElem?_eq_getElem h2]
  rfl
theorem place_get {n : Nat} {O : List Int} (h : Ord n O) {x : Int} (h0 : 0 ≤ x) (h1 : x < n) : valD (Pu.mergeD (place O)) (.inl x) = some (.int (pl O x)) := by
  obtain ⟨e1, e2, e3⟩ := h.at h0 h1
  have hm : (x, pl O x) ∈ place O := by
    unfold place
    refine List.mem_map.mpr ⟨O.idxOf x, List.mem_range.mpr (by rw [h.len]; exact e2), ?_⟩
    rw [e1, List.getD_eq_getElem?_getD, e3]
    rfl
  exact merge_on (place O) [] (x, pl O x) (by rw [place_fst]; exact h.nd) hm
theorem place_get2 {n : Nat} {O : List Int} (h : Ord n O) (x : Int) : (valD (Pu.mergeD (place O)) (.inl x)).getD (.int x) = .int (pl O x) := by
  by_cases c : 0 ≤ x ∧ x < n
  · rw [place_get h c.1 c.2]
    rfl
  · have : valD (Pu.mergeD (place O)) (.inl x) = valD [] (.inl x) := merge_off (place O) [] x (by rw [place_fst, h.mem]; exact c)
    rw [this, h.off c]
    rfl
def noOwn1 : SV → Prop
  | .own _ => False
  | _ => True
theorem noOwn_6 {a b c d e f v h i j l m o p : SV} (hv : noOwn1 v) : noOwn [a, b, c, d, e, f, v, h, i, j, l, m, o, p] [6] := by
  cases v with
  | own d => exact hv.elim
  | _ => simp [noOwn]
set_option maxHeartbeats 4000000 in
theorem numbered_i {E : List En} {n : Nat} {J : Jn} {R : List Rw} {O : List Int} {k : D → Prop} (he : E.length = n) (n0 : 1 ≤ n) (n1 : n ≤ 24) (hO : Ord n O) (hJ : JOk n J) (hR : ∀ r ∈ R, OkR n r) (hl : R.length ≤ 16)
    (h : k (.tup [.tup ((O.map (eAt E)).map enD), .tup ((J.map (rnJ O)).map jD), .tup ((R.map (rnR O)).map rwD)])) : wp__law_numbered [.tup (E.map enD), .tup (J.map jD), .tup (R.map rwD), .lst (O.map D.int)] k := by
  have hjl := hJ.len
  have hol := hO.len
  unfold wp__law_numbered wpOf
  walk_at "psenv"
  unfold P__law_numbered
  repeat walk_at "ps"
  refine ⟨by simp [noOwn], ?_⟩
  unfold enumD
  refine lcP_m (fun i : Nat => D.tup [.int (0 + (i : Nat)), ((O.map D.int)[i]?).getD .non]) (fun i => Pu.prD (O.getD i 0, (i : Int))) (List.range (O.map D.int).length) (by rw [List.length_range, List.length_map]; omega) (fun i hi A B hA => ?_) ?_
  · have hi' : i < O.length := by simpa using hi
    have e : ((O.map D.int)[i]?).getD .non = .int (O.getD i 0) := by
      rw [List.getElem?_map, List.getD_eq_getElem?_getD, List.getElem?_eq_getElem hi']
      rfl
    rw [e, Int.zero_add]
    repeat walk_at "ps"
    exact hA
  rw [List.length_map, show (List.range O.length).map (fun i => Pu.prD (O.getD i 0, (i : Int))) = (place O).map Pu.prD from by unfold place; rw [List.map_map]; rfl]
  repeat walk_at "ps"
  refine gDictP_i ?_
  have g1 := fun x h0 h1 => place_get (x := x) hO h0 h1
  have g2 := place_get2 hO
  generalize Pu.mergeD (place O) = V at g1 g2 ⊢
  repeat walk_at "ps"
  refine ⟨by simp [noOwn], lcP_m jD (fun r => jD (rnJ O r)) J (by omega) (fun r hr A B hA => ?_) ?_⟩
  · repeat walk_at "ps"
    refine ⟨by simp [noOwn, wipeE], lcP_m D.int (fun x => D.int (pl O x)) [r.1, r.2] (by simp) (fun x hx A B hA => ?_) ?_⟩
    · repeat walk_at "ps"
      refine eDget2_i ?_
      repeat walk_at "ps"
      refine dDicK_i ?_
      repeat walk_at "ps"
      refine dDgetE_i ?_
      rw [g2]
      exact hA
    · repeat walk_at "ps"
      exact hA
  rw [show J.map (fun r => jD (rnJ O r)) = (J.map (rnJ O)).map jD from by rw [List.map_map]; rfl]
  repeat walk_at "ps"
  refine forP_i (fun i env => ∃ v6 v11 v12 v13 : SV, noOwn1 v6 ∧ env = [SV.val (.tup (E.map enD)), SV.val (.tup (J.map jD)), SV.val (.tup (R.map rwD)), SV.val (.lst (O.map D.int)), SV.val (.dic V), SV.no, v6, SV.val (.tup ((J.map (rnJ O)).map jD)), SV.no, SV.no, SV.own (.lst (((R.take i).map (rnR O)).map rwD)), v11, v12, v13]) _ 0 ⟨SV.no, SV.no, SV.no, SV.no, trivial, rfl⟩ ?_ ?_
  · rintro i d env hd ⟨v6, v11, v12, v13, hv, rfl⟩ N hN
    rw [List.getElem?_map] at hd
    cases hr : R[i]? with
    | none => rw [hr] at hd; cases hd
    | some r =>
      rw [hr] at hd
      cases hd
      rw [Nat.zero_add] at hN ⊢
      have hrR := List.mem_of_getElem? hr
      have o := hR r hrR
      have fin : ∀ v6 v11 v12 v13, noOwn1 v6 → N [SV.val (.tup (E.map enD)), SV.val (.tup (J.map jD)), SV.val (.tup (R.map rwD)), SV.val (.lst (O.map D.int)), SV.val (.dic V), SV.no, v6, SV.val (.tup ((J.map (rnJ O)).map jD)), SV.no, SV.no, SV.own (.lst (((R.take i).map (rnR O)).map rwD ++ [rwD (rnR O r)])), v11, v12, v13] := fun v6 v11 v12 v13 hv => by
        refine hN _ ⟨v6, v11, v12, v13, hv, ?_⟩
        rw [List.take_succ, hr]
        show _ = [_, _, _, _, _, _, _, _, _, _, SV.own (.lst (((R.take i ++ [r]).map (rnR O)).map rwD)), _, _, _]
        rw [List.map_append, List.map_append]
        rfl
      have hlen : (((R.take i).map (rnR O)).map rwD).length ≤ 16 := by
        rw [List.length_map, List.length_map, List.length_take]
        omega
      generalize ((R.take i).map (rnR O)).map rwD = acc at fin hlen ⊢
      have ga := g1 r.a o.a0 o.a1
      have gb := g1 r.b o.b0 o.b1
      repeat walk_at "ps"
      refine dDget_i ga ?_
      repeat walk_at "ps"
      refine dDget_i gb ?_
      repeat walk_at "ps"
      refine sSeq_mid (fun env => env = [SV.val (.tup (E.map enD)), SV.val (.tup (J.map jD)), SV.val (.tup (R.map rwD)), SV.val (.lst (O.map D.int)), SV.val (.dic V), SV.no, SV.val (.int (rnR O r).a), SV.val (.tup ((J.map (rnJ O)).map jD)), SV.no, SV.no, SV.own (.lst acc), SV.val (.str (wS r.far)), SV.val (.int (rnR O r).b), SV.val (.int r.t)]) ?_ ?_
      · intro M hM
        unfold rnR at hM
        repeat walk_at "ps"
        refine dEq_far ?_
        cases hf : r.far with
        | true =>
          rw [hf, if_pos rfl] at hM
          repeat walk_at "ps"
          exact hM _ rfl
        | false =>
          rw [hf, if_neg Bool.false_ne_true] at hM
          repeat walk_at "ps"
          exact hM _ rfl
      · rintro env rfl
        repeat walk_at "ps"
        refine ⟨by omega, ?_⟩
        have e : rwD (rnR O r) = .tup [.str (wS r.far), .int (rnR O r).a, .int (rnR O r).b, .int r.t] := by
          have e1 : (rnR O r).far = r.far := by
            unfold rnR
            split
            · rename_i q; exact q.symm
            · rename_i q; exact (Bool.eq_false_iff.mpr q).symm
          have e2 : (rnR O r).t = r.t := by
            unfold rnR
            split <;> rfl
          show D.tup [.str (wS (rnR O r).far), .int (rnR O r).a, .int (rnR O r).b, .int (rnR O r).t] = _
          rw [e1, e2]
        rw [e] at fin
        exact fin (SV.val (.int (rnR O r).a)) _ _ _ trivial
  · rintro env ⟨v6, v11, v12, v13, hv, rfl⟩
    rw [List.length_map, Nat.zero_add, List.take_length]
    repeat walk_at "ps"
    refine ⟨noOwn_6 hv, lcP_m D.int (fun x => enD (eAt E x)) O (by omega) (fun x hx A B hA => ?_) ?_⟩
    · have hx' := hO.mem.mp hx
      repeat walk_at "ps"
      refine dIx_t (eAt_some hx'.1 (by rw [he]; exact hx'.2)) ?_
      exact hA
    rw [show O.map (fun x => enD (eAt E x)) = (O.map (eAt E)).map enD from by rw [List.map_map]; rfl]
    repeat walk_at "ps"
    exact h
def qD (E : List En) (J : Jn) (b : Int) (R : List Rw) : D := .tup [.tup (E.map enD), .tup (J.map jD), .int b, .tup (R.map rwD)]
structure Draw50 (E : List En) (n : Nat) (J : Jn) (g : Option Int) (R : List Rw) (s : Int) (O : List Int) : Prop where
  he : E.length = n
  n0 : 1 ≤ n
  n1 : n ≤ 24
  hJ : JOk n J
  hl : R.length ≤ 16
  ok : ∀ r ∈ R, OkR n r
  ot : ∀ r ∈ R, r.t ≤ 1000000
  og : ∀ r ∈ R, okG g r = true
  s0 : 1 ≤ s
  s1 : s ≤ 9
  hO : Ord n O
section
variable {E : List En} {n : Nat} {J : Jn} {g : Option Int} {R : List Rw} {s : Int} {O : List Int}
theorem Draw50.mx (d : Draw50 E n J g R s O) : mxz n J R ≤ 16000000 := by
  have h1 := brs_sum (n := n) (J := J) (R := R) d.hJ d.ok
  have h2 := sum_le R d.ot
  have h3 := d.hl
  rcases mxz_mem (n := n) (J := J) (R := R) with h | h
  · omega
  · have := h1 _ h
    omega
def some50 (E : List En) (J : Jn) (R : List Rw) (s b : Int) (O : List Int) : List D :=
  [qD E J b R, qD E J b R.reverse, qD E (J.map sw) b R, qD E J b (R.flatMap part1), qD E J (b * s) (R.map (mulR s)), qD (O.map (eAt E)) (J.map (rnJ O)) b (R.map (rnR O))]
theorem Draw50.var (d : Draw50 E n J g R s O) {b : Int} {x : D} (h : x ∈ some50 E J R s b O) : ∃ E' J' s' R', x = qD E' J' (b * s') R' ∧ 1 ≤ s' ∧ s' ≤ 9 ∧ Var E n J g R s' E' J' R' := by
  unfold some50 at h
  simp only [List.mem_cons, List.not_mem_nil, or_false] at h
  rcases h with rfl | rfl | rfl | rfl | rfl | rfl
  · exact ⟨_, _, 1, _, by rw [Int.mul_one], by decide, by decide, var_same d.he d.hJ d.ok d.og d.hl⟩
  · exact ⟨_, _, 1, _, by rw [Int.mul_one], by decide, by decide, var_rev d.he d.hJ d.ok d.og d.hl⟩
  · exact ⟨_, _, 1, _, by rw [Int.mul_one], by decide, by decide, var_sw d.he d.hJ d.ok d.og d.hl⟩
  · exact ⟨_, _, 1, _, by rw [Int.mul_one], by decide, by decide, var_part d.he d.hJ d.ok d.og d.hl⟩
  · exact ⟨_, _, s, _, rfl, d.s0, d.s1, var_mul d.s0 d.s1 d.he d.hJ d.ok d.ot d.og d.hl⟩
  · exact ⟨_, _, 1, _, by rw [Int.mul_one], by decide, by decide, var_rn d.hO d.n0 d.hJ d.ok d.og d.hl⟩
end
def body50 : PSt := (sSeq (sIf (tOrP (tOf (eOp (dIs false) (eV 16) (eC .non))) (tNotP (tOf (eCall (fun ds k => ds.length = 5 ∧ wp__law_told ds k) (aCons (eV 17) (aCons (eV 18) (aCons (eV 4) (aCons (eTup (aCons (eV 19) (aCons (eV 20) aNil))) (aCons (eV 16) aNil))))))))) (sRet (eC (.bl false))) sNext)
    (sIf (tAndP (tOf (eOp dGt (eV 9) (eC (.int 1)))) (tOf (eOp (dIs true) (eCall (fun ds k => ds.length = 4 ∧ wp_times_shown ds k) (aCons (eV 17) (aCons (eV 18) (aCons (eV 4) (aCons (eTup (aCons (eOp dSub (eV 19) (eC (.int 1))) (aCons (eV 20) aNil))) aNil))))) (eC .non)))) (sRet (eC (.bl false))) sNext))
theorem body_i {E E' : List En} {n : Nat} {J J' : Jn} {g : Option Int} {R R' : List Rw} {s s' : Int} {O : List Int} {K : PK'} {v0 v1 v2 v3 v5 v6 v7 v8 v10 v11 v12 v13 v14 v15 : SV} (d : Draw50 E n J g R s O) (s0 : 1 ≤ s') (s1 : s' ≤ 9) (v : Var E n J g R s' E' J' R')
    (h : K.nx [v0, v1, v2, v3, SV.val (gD g), v5, v6, v7, v8, SV.val (.int (mxz n J R)), v10, v11, v12, v13, v14, v15, SV.val (tsD E n J g R (max 1 (mxz n J R))), SV.val (.tup (E'.map enD)), SV.val (.tup (J'.map jD)), SV.val (.int (max 1 (mxz n J R) * s')), SV.val (.tup (R'.map rwD))]) :
    body50 [v0, v1, v2, v3, SV.val (gD g), v5, v6, v7, v8, SV.val (.int (mxz n J R)), v10, v11, v12, v13, v14, v15, SV.val (tsD E n J g R (max 1 (mxz n J R))), SV.val (.tup (E'.map enD)), SV.val (.tup (J'.map jD)), SV.val (.int (max 1 (mxz n J R) * s')), SV.val (.tup (R'.map rwD))] K := by
  have m1 := d.mx
  have m0 := mxz_0 (n := n) (J := J) (R := R)
  have ht := v.ts (b := max 1 (mxz n J R)) d.hJ d.ok d.og (by omega) (by omega) (by omega)
  have hx : ∃ p q : Int, tsD E n J g R (max 1 (mxz n J R)) = .tup [.int p, .int q] := ⟨_, _, ts_eq d.og (by omega)⟩
  have hn := fun q => v.no (b := max 1 (mxz n J R)) d.hJ d.ok (by omega) q (by omega)
  have vl := v.len
  have hb0 : 1 ≤ max 1 (mxz n J R) * s' := Int.mul_pos (a := max 1 (mxz n J R)) (b := s') (by omega) (by omega)
  have hb1 : max 1 (mxz n J R) * s' ≤ max 1 (mxz n J R) * 9 := Int.mul_le_mul_of_nonneg_left s1 (by omega)
  have hb2 : 1 < mxz n J R → 2 ≤ max 1 (mxz n J R) * s' := fun q => by
    have := Int.mul_le_mul_of_nonneg_left s0 (show 0 ≤ max 1 (mxz n J R) by omega)
    omega
  have hb3 : max 1 (mxz n J R) * s' ≤ 144000000 := by omega
  rw [← ht] at hx h ⊢
  generalize hbt : max 1 (mxz n J R) * s' = bt at *
  obtain ⟨p, q, e⟩ := hx
  unfold body50
  have htold : ∀ k : D → Prop, k (.bl true) → wp__law_told [.tup (E'.map enD), .tup (J'.map jD), gD g, ppD bt R', tsD E' n J' g R' bt] k := fun k hk => told_i v.el d.n0 d.n1 v.jk v.ok (by omega) hb0 (by omega) hk
  rw [e] at htold h ⊢
  repeat walk_at "ps"
  refine dIs_tn ?_
  repeat walk_at "ps"
  refine htold _ ?_
  repeat walk_at "ps"
  by_cases c : 1 < mxz n J R
  · have hmax : max 1 (mxz n J R) = mxz n J R := by omega
    have hno := hn hmax.symm
    rw [decide_eq_true c]
    repeat walk_at "ps"
    refine times_i (bt := bt - 1) v.el d.n0 d.n1 v.jk v.ok (by omega) (by have := hb2 c; omega) (by omega) ?_
    rw [hno]
    repeat walk_at "ps"
    refine dIs_nn' ?_
    repeat walk_at "ps"
    exact h
  · rw [decide_eq_false c]
    repeat walk_at "ps"
    exact h
theorem loop50 {a : Addr} {i : Int} {E : List En} {n : Nat} {J : Jn} {g : Option Int} {R : List Rw} {s : Int} {O : List Int} {v3 v5 v6 v7 v8 v10 v11 v12 v13 v14 v15 v17 v18 v19 v20 : SV} {K : PK'} (d : Draw50 E n J g R s O) (hK : K = { nx := fun env => env[0]? = some (.val (.opq a)) ∧ env.length = 18 + 3, rt := fun _ => False }) :
    forP (gtTup 4 (gtCons (gtName 17) (gtCons (gtName 18) (gtCons (gtName 19) (gtCons (gtName 20) gtNil))))) body50 (some50 E J R s (max 1 (mxz n J R)) O) [SV.val (.opq a), SV.val (.int i), SV.val (.deck 8), v3, SV.val (gD g), v5, v6, v7, v8, SV.val (.int (mxz n J R)), v10, v11, v12, v13, v14, v15, SV.val (tsD E n J g R (max 1 (mxz n J R))), v17, v18, v19, v20] K := by
  subst hK
  refine forP_i (fun _ env => ∃ v17 v18 v19 v20 : SV, env = [SV.val (.opq a), SV.val (.int i), SV.val (.deck 8), v3, SV.val (gD g), v5, v6, v7, v8, SV.val (.int (mxz n J R)), v10, v11, v12, v13, v14, v15, SV.val (tsD E n J g R (max 1 (mxz n J R))), v17, v18, v19, v20]) _ 0 ⟨v17, v18, v19, v20, rfl⟩ ?_ ?_
  · rintro i' x env hd ⟨v17, v18, v19, v20, rfl⟩ N hN
    obtain ⟨E', J', s', R', rfl, s0, s1, v⟩ := d.var (List.mem_of_getElem? hd)
    unfold qD
    repeat walk_at "ps"
    refine body_i d s0 s1 v ?_
    exact hN _ ⟨_, _, _, _, rfl⟩
  · rintro env ⟨v17, v18, v19, v20, rfl⟩
    exact ⟨rfl, rfl⟩
set_option maxHeartbeats 8000000 in
theorem law_pure {a : Addr} {i : Int} (hi : 0 ≤ i) : P_law (SV.val (.opq a) :: SV.val (.int i) :: SV.val (.deck 8) :: List.replicate 18 SV.no) { nx := fun env => env[0]? = some (.val (.opq a)) ∧ env.length = 18 + 3, rt := fun _ => False } := by
  show P_law [SV.val (.opq a), SV.val (.int i), SV.val (.deck 8), SV.no, SV.no, SV.no, SV.no, SV.no, SV.no, SV.no, SV.no, SV.no, SV.no, SV.no, SV.no, SV.no, SV.no, SV.no, SV.no, SV.no, SV.no] _
  unfold P_law
  repeat walk_at "ps"
  refine draw_i (by decide) (by decide) fun by' by0 by1 => ?_
  repeat walk_at "ps"
  refine gap_i fun g hg => ?_
  repeat walk_at "ps"
  refine ends24_i fun E n0 n1 hE => ?_
  have elen : (((E.map enD).length : Nat) : Int) = (E.length : Int) := by rw [List.length_map]
  repeat walk_at "ps"
  rw [elen]
  refine joining_i n0 n1 fun J hJ => ?_
  repeat walk_at "ps"
  rw [elen]
  refine rows_i n0 n1 fun R hl hR _ => ?_
  repeat walk_at "ps"
  rw [elen]
  refine order_i n0 n1 fun O hO => ?_
  repeat walk_at "ps"
  rw [elen]
  refine lbears_i n0 n1 hJ (fun r hr => (hR r hr).1) ?_
  have hbl := brs_len (n := E.length) (J := J) (R := R)
  repeat walk_at "ps"
  refine dAdd_l (by rw [List.length_map]; show 1 + _ ≤ _; omega) ?_
  repeat walk_at "ps"
  refine gMaxL_i (ns := 0 :: brs E.length J R) (by show intsD (D.int 0 :: (brs E.length J R).map D.int) = _; exact intsD_map (0 :: brs E.length J R)) (by simp) ?_
  have d : Draw50 E E.length J g R (2 + by') O := ⟨rfl, n0, n1, hJ, hl, fun r hr => (hR r hr).1, fun r hr => (hR r hr).2.1, fun r hr => (hR r hr).2.2, by omega, by omega, hO⟩
  have hmx := d.mx
  have hm0 := mxz_0 (n := E.length) (J := J) (R := R)
  have hjl := hJ.len
  rw [show maxI (0 :: brs E.length J R) = mxz E.length J R from rfl]
  repeat walk_at "ps"
  refine ⟨by simp [noOwn], lcP_m jD (fun r => jD (sw r)) J (by omega) (fun r hr A B hA => ?_) ?_⟩
  · repeat walk_at "ps"
    refine dRev0_i ?_
    exact hA
  rw [show J.map (fun r => jD (sw r)) = (J.map sw).map jD from by rw [List.map_map]; rfl]
  repeat walk_at "ps"
  refine numbered_i rfl n0 n1 hO hJ d.ok hl ?_
  repeat walk_at "ps"
  refine ⟨by simp [noOwn], lcP_m rwD (fun r => rwD (mulR (2 + by') r)) R (by omega) (fun r hr A B hA => ?_) ?_⟩
  · repeat walk_at "ps"
    refine ⟨by show (4 : Nat) ≤ 100000; decide, ?_⟩
    exact hA
  rw [show R.map (fun r => rwD (mulR (2 + by') r)) = (R.map (mulR (2 + by'))).map rwD from by rw [List.map_map]; rfl]
  repeat walk_at "ps"
  refine dRev0_i ?_
  rw [← List.map_reverse]
  repeat walk_at "ps"
  refine parted_i hl (fun r hr => ⟨(d.ok r hr).t0, d.ot r hr⟩) ?_
  repeat walk_at "ps"
  refine dAddF_i (by show (5 : Nat) ≤ 100000; decide) ?_
  repeat walk_at "ps"
  refine ⟨by show (4 : Nat) ≤ 100000; decide, ?_⟩
  repeat walk_at "ps"
  refine due_i rfl n0 n1 hJ d.ok (by omega) (by omega) (by omega) ?_
  repeat walk_at "ps"
  refine sForC_ds (some50 E J R (2 + by') (max 1 (mxz E.length J R)) O) (fun k hk => by (repeat walk_at "ps"); exact hk) (by show 6 ≤ 100000; decide) ?_
  exact loop50 d rfl
end
end Ew
namespace Ew
open PySem PySem.Spec PyProof.Rows L2
variable [Tbs]
def topS (i : Nat) : Stmt := PySem.Challenge.pw_evenwires_k50_whole_the_same_fraction.main.body.getD i (.Pass ⟨0, 0, 0, 0⟩)
abbrev s_chain : Stmt := topS 1
abbrev N_chain : List Str := ["many", "joining", "knot", "knots", "joint", "row"]
theorem sc_chain : FnScope N_chain ["many", "joining", "knot"] (defScope s_chain) := ⟨rfl, rfl, rfl, by decide +kernel, rfl, by decide +kernel, by decide +kernel⟩
abbrev s_ahead : Stmt := topS 2
abbrev N_ahead : List Str := ["many", "joining", "one", "other", "others", "knot"]
theorem sc_ahead : FnScope N_ahead ["many", "joining", "one", "other"] (defScope s_ahead) := ⟨rfl, rfl, rfl, by decide +kernel, rfl, by decide +kernel, by decide +kernel⟩
abbrev s_lowest : Stmt := topS 4
abbrev N_lowest : List Str := ["bottom", "numbers", "factor", "number"]
theorem sc_lowest : FnScope N_lowest ["bottom", "numbers"] (defScope s_lowest) := ⟨rfl, rfl, rfl, by decide +kernel, rfl, by decide +kernel, by decide +kernel⟩
abbrev s_common_factor : Stmt := topS 5
abbrev N_common_factor : List Str := ["one", "other"]
theorem sc_common_factor : FnScope N_common_factor ["one", "other"] (defScope s_common_factor) := ⟨rfl, rfl, rfl, by decide +kernel, rfl, by decide +kernel, by decide +kernel⟩
abbrev s_steps : Stmt := topS 7
abbrev N_steps : List Str := ["one", "other"]
theorem sc_steps : FnScope N_steps ["one", "other"] (defScope s_steps) := ⟨rfl, rfl, rfl, by decide +kernel, rfl, by decide +kernel, by decide +kernel⟩
abbrev s_is_whole : Stmt := topS 9
abbrev N_is_whole : List Str := ["thing"]
theorem sc_is_whole : FnScope N_is_whole ["thing"] (defScope s_is_whole) := ⟨rfl, rfl, rfl, by decide +kernel, rfl, by decide +kernel, by decide +kernel⟩
abbrev s_are_wholes : Stmt := topS 10
abbrev N_are_wholes : List Str := ["thing", "many", "part"]
theorem sc_are_wholes : FnScope N_are_wholes ["thing", "many"] (defScope s_are_wholes) := ⟨rfl, rfl, rfl, by decide +kernel, rfl, by decide +kernel, by decide +kernel⟩
abbrev s_times_shown : Stmt := topS 12
abbrev N_times_shown : List Str := ["ends", "joining", "gap", "thing", "bottom", "rows", "borne", "over", "tops", "row"]
theorem sc_times_shown : FnScope N_times_shown ["ends", "joining", "gap", "thing"] (defScope s_times_shown) := ⟨rfl, rfl, rfl, by decide +kernel, rfl, by decide +kernel, by decide +kernel⟩
abbrev s_has_form : Stmt := topS 13
abbrev N_has_form : List Str := ["many", "gap", "thing", "bottom", "rows", "part"]
theorem sc_has_form : FnScope N_has_form ["many", "gap", "thing"] (defScope s_has_form) := ⟨rfl, rfl, rfl, by decide +kernel, rfl, by decide +kernel, by decide +kernel⟩
abbrev s_is_row : Stmt := topS 14
abbrev N_is_row : List Str := ["many", "gap", "thing", "word", "one", "other", "times"]
theorem sc_is_row : FnScope N_is_row ["many", "gap", "thing"] (defScope s_is_row) := ⟨rfl, rfl, rfl, by decide +kernel, rfl, by decide +kernel, by decide +kernel⟩
abbrev s_all_borne : Stmt := topS 15
abbrev N_all_borne : List Str := ["many", "joining", "rows", "found", "row", "knot", "times"]
theorem sc_all_borne : FnScope N_all_borne ["many", "joining", "rows"] (defScope s_all_borne) := ⟨rfl, rfl, rfl, by decide +kernel, rfl, by decide +kernel, by decide +kernel⟩
abbrev s_borne_by : Stmt := topS 16
abbrev N_borne_by : List Str := ["many", "joining", "row", "word", "one", "other", "times", "mine", "knot"]
theorem sc_borne_by : FnScope N_borne_by ["many", "joining", "row"] (defScope s_borne_by) := ⟨rfl, rfl, rfl, by decide +kernel, rfl, by decide +kernel, by decide +kernel⟩
abbrev s_worth_of : Stmt := topS 17
abbrev N_worth_of : List Str := ["ends", "gap", "row", "word", "one", "other", "times"]
theorem sc_worth_of : FnScope N_worth_of ["ends", "gap", "row"] (defScope s_worth_of) := ⟨rfl, rfl, rfl, by decide +kernel, rfl, by decide +kernel, by decide +kernel⟩
abbrev s__law_cell_at : Stmt := topS 19
abbrev N__law_cell_at : List Str := ["_law_script", "_law_k"]
theorem sc__law_cell_at : FnScope N__law_cell_at ["_law_script", "_law_k"] (defScope s__law_cell_at) := ⟨rfl, rfl, rfl, by decide +kernel, rfl, by decide +kernel, by decide +kernel⟩
abbrev s__law_well : Stmt := topS 20
abbrev N__law_well : List Str := ["_law_cell"]
theorem sc__law_well : FnScope N__law_well ["_law_cell"] (defScope s__law_well) := ⟨rfl, rfl, rfl, by decide +kernel, rfl, by decide +kernel, by decide +kernel⟩
abbrev s__law_draw : Stmt := topS 21
abbrev N__law_draw : List Str := ["_law_well_here", "_law_many", "_law_digit", "_law_mixed"]
theorem sc__law_draw : FnScope N__law_draw ["_law_well_here", "_law_many"] (defScope s__law_draw) := ⟨rfl, rfl, rfl, by decide +kernel, rfl, by decide +kernel, by decide +kernel⟩
abbrev s__law_number : Stmt := topS 22
abbrev N__law_number : List Str := ["_law_well_here", "_law_way"]
theorem sc__law_number : FnScope N__law_number ["_law_well_here", "_law_way"] (defScope s__law_number) := ⟨rfl, rfl, rfl, by decide +kernel, rfl, by decide +kernel, by decide +kernel⟩
abbrev s__law_start : Stmt := topS 23
abbrev N__law_start : List Str := ["_law_well_here", "_law_way"]
theorem sc__law_start : FnScope N__law_start ["_law_well_here", "_law_way"] (defScope s__law_start) := ⟨rfl, rfl, rfl, by decide +kernel, rfl, by decide +kernel, by decide +kernel⟩
abbrev s__law_ends : Stmt := topS 24
abbrev N__law_ends : List Str := ["_law_well_here", "_law_most", "_law_great", "_law_many", "_law_way", "_law_line", "_law_starts", "_law_found", "_law_k", "_law_again", "_law_x", "_law_y"]
theorem sc__law_ends : FnScope N__law_ends ["_law_well_here", "_law_most"] (defScope s__law_ends) := ⟨rfl, rfl, rfl, by decide +kernel, rfl, by decide +kernel, by decide +kernel⟩
abbrev s__law_joining : Stmt := topS 25
abbrev N__law_joining : List Str := ["_law_well_here", "_law_many", "_law_left", "_law_found", "_law_chain_like", "_law_k", "_law_turned", "_law_one", "_law_other"]
theorem sc__law_joining : FnScope N__law_joining ["_law_well_here", "_law_many"] (defScope s__law_joining) := ⟨rfl, rfl, rfl, by decide +kernel, rfl, by decide +kernel, by decide +kernel⟩
abbrev s__law_apart : Stmt := topS 26
abbrev N__law_apart : List Str := ["_law_one", "_law_other"]
theorem sc__law_apart : FnScope N__law_apart ["_law_one", "_law_other"] (defScope s__law_apart) := ⟨rfl, rfl, rfl, by decide +kernel, rfl, by decide +kernel, by decide +kernel⟩
abbrev s__law_above : Stmt := topS 27
abbrev N__law_above : List Str := ["_law_many", "_law_joining_here", "_law_found", "_law_k", "_law_knot"]
theorem sc__law_above : FnScope N__law_above ["_law_many", "_law_joining_here"] (defScope s__law_above) := ⟨rfl, rfl, rfl, by decide +kernel, rfl, by decide +kernel, by decide +kernel⟩
abbrev s__law_side : Stmt := topS 28
abbrev N__law_side : List Str := ["_law_above_here", "_law_one", "_law_other", "_law_there", "_law_found"]
theorem sc__law_side : FnScope N__law_side ["_law_above_here", "_law_one", "_law_other"] (defScope s__law_side) := ⟨rfl, rfl, rfl, by decide +kernel, rfl, by decide +kernel, by decide +kernel⟩
abbrev s__law_is_from : Stmt := topS 29
abbrev N__law_is_from : List Str := ["_law_thing", "_law_low"]
theorem sc__law_is_from : FnScope N__law_is_from ["_law_thing", "_law_low"] (defScope s__law_is_from) := ⟨rfl, rfl, rfl, by decide +kernel, rfl, by decide +kernel, by decide +kernel⟩
abbrev s__law_is_row : Stmt := topS 30
abbrev N__law_is_row : List Str := ["_law_many", "_law_gap_here", "_law_thing"]
theorem sc__law_is_row : FnScope N__law_is_row ["_law_many", "_law_gap_here", "_law_thing"] (defScope s__law_is_row) := ⟨rfl, rfl, rfl, by decide +kernel, rfl, by decide +kernel, by decide +kernel⟩
abbrev s__law_bears : Stmt := topS 31
abbrev N__law_bears : List Str := ["_law_many", "_law_joining_here", "_law_rows_here", "_law_above_here", "_law_found", "_law_word", "_law_one", "_law_other", "_law_count", "_law_knot"]
theorem sc__law_bears : FnScope N__law_bears ["_law_many", "_law_joining_here", "_law_rows_here"] (defScope s__law_bears) := ⟨rfl, rfl, rfl, by decide +kernel, rfl, by decide +kernel, by decide +kernel⟩
abbrev s__law_lowest : Stmt := topS 32
abbrev N__law_lowest : List Str := ["_law_top", "_law_bottom", "_law_one", "_law_other"]
theorem sc__law_lowest : FnScope N__law_lowest ["_law_top", "_law_bottom"] (defScope s__law_lowest) := ⟨rfl, rfl, rfl, by decide +kernel, rfl, by decide +kernel, by decide +kernel⟩
abbrev s__law_due : Stmt := topS 33
abbrev N__law_due : List Str := ["_law_ends_here", "_law_joining_here", "_law_gap_here", "_law_thing", "_law_row", "_law_one", "_law_top", "_law_word", "_law_other", "_law_count", "_law_more"]
theorem sc__law_due : FnScope N__law_due ["_law_ends_here", "_law_joining_here", "_law_gap_here", "_law_thing"] (defScope s__law_due) := ⟨rfl, rfl, rfl, by decide +kernel, rfl, by decide +kernel, by decide +kernel⟩
abbrev s__law_told : Stmt := topS 34
abbrev N__law_told : List Str := ["_law_ends_here", "_law_joining_here", "_law_gap_here", "_law_thing", "_law_due_here", "_law_found", "_law_good", "_law_one", "_law_low"]
theorem sc__law_told : FnScope N__law_told ["_law_ends_here", "_law_joining_here", "_law_gap_here", "_law_thing", "_law_due_here"] (defScope s__law_told) := ⟨rfl, rfl, rfl, by decide +kernel, rfl, by decide +kernel, by decide +kernel⟩
abbrev s__law_gap : Stmt := topS 35
abbrev N__law_gap : List Str := ["_law_well_here", "_law_way"]
theorem sc__law_gap : FnScope N__law_gap ["_law_well_here"] (defScope s__law_gap) := ⟨rfl, rfl, rfl, by decide +kernel, rfl, by decide +kernel, by decide +kernel⟩
abbrev s__law_times : Stmt := topS 36
abbrev N__law_times : List Str := ["_law_well_here", "_law_way"]
theorem sc__law_times : FnScope N__law_times ["_law_well_here", "_law_way"] (defScope s__law_times) := ⟨rfl, rfl, rfl, by decide +kernel, rfl, by decide +kernel, by decide +kernel⟩
abbrev s__law_rows : Stmt := topS 37
abbrev N__law_rows : List Str := ["_law_well_here", "_law_many", "_law_gap_here", "_law_most", "_law_way", "_law_found", "_law_k", "_law_word", "_law_one", "_law_other"]
theorem sc__law_rows : FnScope N__law_rows ["_law_well_here", "_law_many", "_law_gap_here"] (defScope s__law_rows) := ⟨rfl, rfl, rfl, by decide +kernel, rfl, by decide +kernel, by decide +kernel⟩
abbrev s__law_order : Stmt := topS 38
abbrev N__law_order : List Str := ["_law_well_here", "_law_many", "_law_left", "_law_k"]
theorem sc__law_order : FnScope N__law_order ["_law_well_here", "_law_many"] (defScope s__law_order) := ⟨rfl, rfl, rfl, by decide +kernel, rfl, by decide +kernel, by decide +kernel⟩
abbrev s__law_numbered : Stmt := topS 39
abbrev N__law_numbered : List Str := ["_law_ends_here", "_law_joining_here", "_law_rows_here", "_law_order_here", "_law_place", "_law_k", "_law_one", "_law_others", "_law_knot", "_law_row", "_law_found", "_law_word", "_law_other", "_law_count"]
theorem sc__law_numbered : FnScope N__law_numbered ["_law_ends_here", "_law_joining_here", "_law_rows_here", "_law_order_here"] (defScope s__law_numbered) := ⟨rfl, rfl, rfl, by decide +kernel, rfl, by decide +kernel, by decide +kernel⟩
abbrev s__law_parted : Stmt := topS 40
abbrev N__law_parted : List Str := ["_law_rows_here", "_law_found", "_law_row"]
theorem sc__law_parted : FnScope N__law_parted ["_law_rows_here"] (defScope s__law_parted) := ⟨rfl, rfl, rfl, by decide +kernel, rfl, by decide +kernel, by decide +kernel⟩
abbrev s_law : Stmt := topS 41
abbrev N_law : List Str := ["_law_script", "_law_k", "_law_well_here", "_law_by", "_law_gap_here", "_law_ends_here", "_law_joining_here", "_law_rows_here", "_law_order_here", "_law_most", "_law_bottom", "_law_turned", "_law_row", "_law_named", "_law_great", "_law_some", "_law_due_here", "_law_one", "_law_other", "_law_low", "_law_here"]
theorem sc_law : FnScope N_law ["_law_script"] (defScope s_law) := ⟨rfl, rfl, rfl, by decide +kernel, rfl, by decide +kernel, by decide +kernel⟩
-- what the top has left: the defs, and the built-ins that are not bound anew
set_option maxHeartbeats 0 in
structure Tx (K : PySem.W.Frag) (mg : Str → Option Value) (base : Heap) where
  a_chain : Addr
  d_chain : FuncData
  F_chain : Fun K "chain" "chain" s_chain a_chain d_chain
  b_chain : Binds K d_chain ["many", "joining", "knot"] []
  g_chain : mg "chain" = some (.ref a_chain)
  a_ahead : Addr
  d_ahead : FuncData
  F_ahead : Fun K "ahead" "ahead" s_ahead a_ahead d_ahead
  b_ahead : Binds K d_ahead ["many", "joining", "one", "other"] []
  g_ahead : mg "ahead" = some (.ref a_ahead)
  a_lowest : Addr
  d_lowest : FuncData
  F_lowest : Fun K "lowest" "lowest" s_lowest a_lowest d_lowest
  b_lowest : Binds K d_lowest ["bottom", "numbers"] []
  g_lowest : mg "lowest" = some (.ref a_lowest)
  a_common_factor : Addr
  d_common_factor : FuncData
  F_common_factor : Fun K "common_factor" "common_factor" s_common_factor a_common_factor d_common_factor
  b_common_factor : Binds K d_common_factor ["one", "other"] []
  g_common_factor : mg "common_factor" = some (.ref a_common_factor)
  a_steps : Addr
  d_steps : FuncData
  F_steps : Fun K "steps" "steps" s_steps a_steps d_steps
  b_steps : Binds K d_steps ["one", "other"] []
  g_steps : mg "steps" = some (.ref a_steps)
  a_is_whole : Addr
  d_is_whole : FuncData
  F_is_whole : Fun K "is_whole" "is_whole" s_is_whole a_is_whole d_is_whole
  b_is_whole : Binds K d_is_whole ["thing"] []
  g_is_whole : mg "is_whole" = some (.ref a_is_whole)
  a_are_wholes : Addr
  d_are_wholes : FuncData
  F_are_wholes : Fun K "are_wholes" "are_wholes" s_are_wholes a_are_wholes d_are_wholes
  b_are_wholes : Binds K d_are_wholes ["thing", "many"] []
  g_are_wholes : mg "are_wholes" = some (.ref a_are_wholes)
  q_are_wholes : Addr
  p_are_wholes : Addr
  h_are_wholes : d_are_wholes.code = .ref q_are_wholes
  tb_are_wholes : GxR.TabB base mg q_are_wholes p_are_wholes
  m_are_wholes : p_are_wholes ∈ Tbs.tb
  a_times_shown : Addr
  d_times_shown : FuncData
  F_times_shown : Fun K "times_shown" "times_shown" s_times_shown a_times_shown d_times_shown
  b_times_shown : Binds K d_times_shown ["ends", "joining", "gap", "thing"] []
  g_times_shown : mg "times_shown" = some (.ref a_times_shown)
  q_times_shown : Addr
  p_times_shown : Addr
  h_times_shown : d_times_shown.code = .ref q_times_shown
  tb_times_shown : GxR.TabB base mg q_times_shown p_times_shown
  m_times_shown : p_times_shown ∈ Tbs.tb
  a_has_form : Addr
  d_has_form : FuncData
  F_has_form : Fun K "has_form" "has_form" s_has_form a_has_form d_has_form
  b_has_form : Binds K d_has_form ["many", "gap", "thing"] []
  g_has_form : mg "has_form" = some (.ref a_has_form)
  q_has_form : Addr
  p_has_form : Addr
  h_has_form : d_has_form.code = .ref q_has_form
  tb_has_form : GxR.TabB base mg q_has_form p_has_form
  m_has_form : p_has_form ∈ Tbs.tb
  a_is_row : Addr
  d_is_row : FuncData
  F_is_row : Fun K "is_row" "is_row" s_is_row a_is_row d_is_row
  b_is_row : Binds K d_is_row ["many", "gap", "thing"] []
  g_is_row : mg "is_row" = some (.ref a_is_row)
  a_all_borne : Addr
  d_all_borne : FuncData
  F_all_borne : Fun K "all_borne" "all_borne" s_all_borne a_all_borne d_all_borne
  b_all_borne : Binds K d_all_borne ["many", "joining", "rows"] []
  g_all_borne : mg "all_borne" = some (.ref a_all_borne)
  a_borne_by : Addr
  d_borne_by : FuncData
  F_borne_by : Fun K "borne_by" "borne_by" s_borne_by a_borne_by d_borne_by
  b_borne_by : Binds K d_borne_by ["many", "joining", "row"] []
  g_borne_by : mg "borne_by" = some (.ref a_borne_by)
  a_worth_of : Addr
  d_worth_of : FuncData
  F_worth_of : Fun K "worth_of" "worth_of" s_worth_of a_worth_of d_worth_of
  b_worth_of : Binds K d_worth_of ["ends", "gap", "row"] []
  g_worth_of : mg "worth_of" = some (.ref a_worth_of)
  a__law_cell_at : Addr
  d__law_cell_at : FuncData
  F__law_cell_at : Fun K "_law_cell_at" "_law_cell_at" s__law_cell_at a__law_cell_at d__law_cell_at
  b__law_cell_at : Binds K d__law_cell_at ["_law_script", "_law_k"] []
  g__law_cell_at : mg "_law_cell_at" = some (.ref a__law_cell_at)
  a__law_well : Addr
  d__law_well : FuncData
  F__law_well : Fun K "_law_well" "_law_well" s__law_well a__law_well d__law_well
  b__law_well : Binds K d__law_well ["_law_cell"] []
  g__law_well : mg "_law_well" = some (.ref a__law_well)
  a__law_draw : Addr
  d__law_draw : FuncData
  F__law_draw : Fun K "_law_draw" "_law_draw" s__law_draw a__law_draw d__law_draw
  b__law_draw : Binds K d__law_draw ["_law_well_here", "_law_many"] []
  g__law_draw : mg "_law_draw" = some (.ref a__law_draw)
  a__law_number : Addr
  d__law_number : FuncData
  F__law_number : Fun K "_law_number" "_law_number" s__law_number a__law_number d__law_number
  b__law_number : Binds K d__law_number ["_law_well_here", "_law_way"] []
  g__law_number : mg "_law_number" = some (.ref a__law_number)
  a__law_start : Addr
  d__law_start : FuncData
  F__law_start : Fun K "_law_start" "_law_start" s__law_start a__law_start d__law_start
  b__law_start : Binds K d__law_start ["_law_well_here", "_law_way"] []
  g__law_start : mg "_law_start" = some (.ref a__law_start)
  a__law_ends : Addr
  d__law_ends : FuncData
  F__law_ends : Fun K "_law_ends" "_law_ends" s__law_ends a__law_ends d__law_ends
  b__law_ends : Binds K d__law_ends ["_law_well_here", "_law_most"] []
  g__law_ends : mg "_law_ends" = some (.ref a__law_ends)
  a__law_joining : Addr
  d__law_joining : FuncData
  F__law_joining : Fun K "_law_joining" "_law_joining" s__law_joining a__law_joining d__law_joining
  b__law_joining : Binds K d__law_joining ["_law_well_here", "_law_many"] []
  g__law_joining : mg "_law_joining" = some (.ref a__law_joining)
  a__law_apart : Addr
  d__law_apart : FuncData
  F__law_apart : Fun K "_law_apart" "_law_apart" s__law_apart a__law_apart d__law_apart
  b__law_apart : Binds K d__law_apart ["_law_one", "_law_other"] []
  g__law_apart : mg "_law_apart" = some (.ref a__law_apart)
  a__law_above : Addr
  d__law_above : FuncData
  F__law_above : Fun K "_law_above" "_law_above" s__law_above a__law_above d__law_above
  b__law_above : Binds K d__law_above ["_law_many", "_law_joining_here"] []
  g__law_above : mg "_law_above" = some (.ref a__law_above)
  a__law_side : Addr
  d__law_side : FuncData
  F__law_side : Fun K "_law_side" "_law_side" s__law_side a__law_side d__law_side
  b__law_side : Binds K d__law_side ["_law_above_here", "_law_one", "_law_other"] []
  g__law_side : mg "_law_side" = some (.ref a__law_side)
  a__law_is_from : Addr
  d__law_is_from : FuncData
  F__law_is_from : Fun K "_law_is_from" "_law_is_from" s__law_is_from a__law_is_from d__law_is_from
  b__law_is_from : Binds K d__law_is_from ["_law_thing", "_law_low"] []
  g__law_is_from : mg "_law_is_from" = some (.ref a__law_is_from)
  a__law_is_row : Addr
  d__law_is_row : FuncData
  F__law_is_row : Fun K "_law_is_row" "_law_is_row" s__law_is_row a__law_is_row d__law_is_row
  b__law_is_row : Binds K d__law_is_row ["_law_many", "_law_gap_here", "_law_thing"] []
  g__law_is_row : mg "_law_is_row" = some (.ref a__law_is_row)
  a__law_bears : Addr
  d__law_bears : FuncData
  F__law_bears : Fun K "_law_bears" "_law_bears" s__law_bears a__law_bears d__law_bears
  b__law_bears : Binds K d__law_bears ["_law_many", "_law_joining_here", "_law_rows_here"] []
  g__law_bears : mg "_law_bears" = some (.ref a__law_bears)
  a__law_lowest : Addr
  d__law_lowest : FuncData
  F__law_lowest : Fun K "_law_lowest" "_law_lowest" s__law_lowest a__law_lowest d__law_lowest
  b__law_lowest : Binds K d__law_lowest ["_law_top", "_law_bottom"] []
  g__law_lowest : mg "_law_lowest" = some (.ref a__law_lowest)
  a__law_due : Addr
  d__law_due : FuncData
  F__law_due : Fun K "_law_due" "_law_due" s__law_due a__law_due d__law_due
  b__law_due : Binds K d__law_due ["_law_ends_here", "_law_joining_here", "_law_gap_here", "_law_thing"] []
  g__law_due : mg "_law_due" = some (.ref a__law_due)
  a__law_told : Addr
  d__law_told : FuncData
  F__law_told : Fun K "_law_told" "_law_told" s__law_told a__law_told d__law_told
  b__law_told : Binds K d__law_told ["_law_ends_here", "_law_joining_here", "_law_gap_here", "_law_thing", "_law_due_here"] []
  g__law_told : mg "_law_told" = some (.ref a__law_told)
  a__law_gap : Addr
  d__law_gap : FuncData
  F__law_gap : Fun K "_law_gap" "_law_gap" s__law_gap a__law_gap d__law_gap
  b__law_gap : Binds K d__law_gap ["_law_well_here"] []
  g__law_gap : mg "_law_gap" = some (.ref a__law_gap)
  a__law_times : Addr
  d__law_times : FuncData
  F__law_times : Fun K "_law_times" "_law_times" s__law_times a__law_times d__law_times
  b__law_times : Binds K d__law_times ["_law_well_here", "_law_way"] []
  g__law_times : mg "_law_times" = some (.ref a__law_times)
  a__law_rows : Addr
  d__law_rows : FuncData
  F__law_rows : Fun K "_law_rows" "_law_rows" s__law_rows a__law_rows d__law_rows
  b__law_rows : Binds K d__law_rows ["_law_well_here", "_law_many", "_law_gap_here"] []
  g__law_rows : mg "_law_rows" = some (.ref a__law_rows)
  a__law_order : Addr
  d__law_order : FuncData
  F__law_order : Fun K "_law_order" "_law_order" s__law_order a__law_order d__law_order
  b__law_order : Binds K d__law_order ["_law_well_here", "_law_many"] []
  g__law_order : mg "_law_order" = some (.ref a__law_order)
  a__law_numbered : Addr
  d__law_numbered : FuncData
  F__law_numbered : Fun K "_law_numbered" "_law_numbered" s__law_numbered a__law_numbered d__law_numbered
  b__law_numbered : Binds K d__law_numbered ["_law_ends_here", "_law_joining_here", "_law_rows_here", "_law_order_here"] []
  g__law_numbered : mg "_law_numbered" = some (.ref a__law_numbered)
  a__law_parted : Addr
  d__law_parted : FuncData
  F__law_parted : Fun K "_law_parted" "_law_parted" s__law_parted a__law_parted d__law_parted
  b__law_parted : Binds K d__law_parted ["_law_rows_here"] []
  g__law_parted : mg "_law_parted" = some (.ref a__law_parted)
  a_law : Addr
  d_law : FuncData
  F_law : Fun K "law" "law" s_law a_law d_law
  b_law : Binds K d_law ["_law_script"] []
  g_law : mg "law" = some (.ref a_law)
  n_len : mg "len" = none
  n_int : mg "int" = none
  n_range : mg "range" = none
  n_max : mg "max" = none
  n_min : mg "min" = none
  n_enumerate : mg "enumerate" = none
  n_tuple : mg "tuple" = none
  n_abs : mg "abs" = none
  n_bool : mg "bool" = none
  n_isinstance : mg "isinstance" = none
  n_all : mg "all" = none
  n_any : mg "any" = none
  n_sum : mg "sum" = none
  n_list : mg "list" = none
  n_str : mg "str" = none
  n_zip : mg "zip" = none
  n_sorted : mg "sorted" = none
  n_dict : mg "dict" = none
section
local macro_rules | `(tactic| walk_at "ewc") => `(tactic| first
  | (show (0 : Int) < _; omega)
  | (show (0 : Int) < _; decide)
  | (refine ⟨?_, ?_⟩ <;> omega)
  | exact Or.inl ⟨by omega, by omega⟩
  | exact Or.inr ⟨by omega, by omega⟩)
/-- a well stands at a; n draws were made -/
def Deck (H : Hp) (a : Addr) (n : Nat) : Prop := ∃ g s : Int, H a = some (.lst [.int g, .int s, .int (n : Int)])
section
variable {P : Program} {w : World} {K : PySem.W.Frag} {mg : Str → Option Value} {base : Heap}
inductive sp__law_cell_at (K : PySem.W.Frag) : List V → Hp → VK → XK → Prop
  | mk {H : Hp} {Q : VK} {E : XK} {a : Addr} {ns : List Int} {k : Int} (hS : SqL K H a (ns.map V.int)) (hn : ns.length ≤ 63) (h0 : 0 ≤ k) (q : ∀ i : Int, Q (.int i) H) : sp__law_cell_at K [.ref a, .int k] H Q E
theorem ok__law_cell_at (T : Tx K mg base) : FnOk P w K mg base CX0 1 T.a__law_cell_at T.d__law_cell_at ["_law_script", "_law_k"] (sp__law_cell_at K) := by
  refine T.F__law_cell_at.ok sc__law_cell_at (fun vs H Q E h => ?_) (fun cdv A outer s0 H vs Q E hr h => ?_)
  · cases h
    rfl
  · obtain @⟨_, _, _, a, ns, k, hS, hn, h0, q⟩ := h
    have hu := hu_of hr
    refine ⟨_, (pss_cons (ps_if (pt_cmpR op_lt (pv 1) (pe_callB (r := Ew.rLen K) Ew.call_len (by rfl) T.n_len (by decide +kernel) (pa_cons (pv 0) pa_nil)) (nomark _)) (pss_one (ps_ret (pe_ix (r := rIxL K) ix_list (pv 0) (pv 1) (fun _ _ => rfl)))) pss_nil)
      (pss_one (ps_ret pe_int))), ?_⟩
    refine ⟨_, rfl, _, rfl, _, _, rfl, .inl hS, _, _, rfl, rfl, _, rfl, iteD (fun hk => ?_) (fun hk => ?_)⟩
    · rw [List.length_map] at hk
      have hlt : k.toNat < ns.length := by omega
      refine ⟨_, rfl, _, rfl, a, _, k, .int (ns[k.toNat]'hlt), rfl, rfl, hS, ?_, q _⟩
      unfold atI ixN
      rw [List.length_map, if_pos h0, if_pos hk]
      simp [hlt]
    · exact q 0
inductive sp__law_well : List V → Hp → VK → XK → Prop
  | mk {H : Hp} {Q : VK} {E : XK} {i : Int} (q : ∀ p, H p = none → ∀ g s : Int, Q (.ref p) (upd H p (.lst [.int g, .int s, .int 0]))) : sp__law_well [.int i] H Q E
theorem ok__law_well (T : Tx K mg base) : FnOk P w K mg base CX0 1 T.a__law_well T.d__law_well ["_law_cell"] sp__law_well := by
  refine T.F__law_well.ok sc__law_well (fun vs H Q E h => ?_) (fun cdv A outer s0 H vs Q E hr h => ?_)
  · cases h
    rfl
  · obtain @⟨_, _, _, i, q⟩ := h
    have hu := hu_of hr
    refine ⟨_, (pss_one (ps_ret (pe_lst (pa_cons (pe_op op_mul (pe_callTy call_int1 (by rfl) T.n_int (by decide +kernel) (pa_cons (pe_cmpR op_ge (pv 0) (pe_op (Ew.op_powC 10 18 1000000000000000000) pe_int pe_int) (nomark _)) pa_nil)) (pv 0)) (pa_cons (pe_op op_mod (pv 0) pe_int) (pa_cons pe_int pa_nil)))))), ?_⟩
    refine ⟨_, rfl, rfl, rfl, _, _, rfl, rfl, .inr ⟨_, rfl, _, rfl, _, _, rfl, rfl, .inl ?_, ?_⟩⟩
    · generalize decide (1000000000000000000 ≤ i) = b
      cases b <;> decide
    refine ⟨_, rfl, _, _, rfl, rfl, by walk_at "ewc", ?_⟩
    exact ⟨sz (Nat.le_of_ble_eq_true rfl), fun p hp => q p hp _ _⟩
inductive sp__law_draw : List V → Hp → VK → XK → Prop
  | mk {H : Hp} {Q : VK} {E : XK} {dk : Addr} {m : Int} {n : Nat} (hD : Deck H dk n) (hn : n + 1 ≤ 4611686018427387904) (m0 : 0 < m) (m1 : m < 1073741824) (k : ∀ H' r n', n' ≤ n + 1 → 0 ≤ r → r < m → Deck H' dk n' → Evo [dk] H H' → Q (.int r) H') : sp__law_draw [.ref dk, .int m] H Q E
theorem setE {R : Hp → Prop} {H : Hp} {p : Addr} {xs : List V} {k : Int} {j : Nat} {v : V} (h : H p = some (.lst xs)) (e : ixN xs.length k = some j) (q : R (upd H p (.lst (xs.set j v)))) : ∃ p' xs' k' j', V.ref p = .ref p' ∧ V.int k = .int k' ∧ H p' = some (.lst xs') ∧ ixN xs'.length k' = some j' ∧ R (upd H p' (.lst (xs'.set j' v))) := ⟨p, xs, k, j, rfl, rfl, h, e, q⟩
theorem getE {R : V → Prop} {K : PySem.W.Frag} {H : Hp} {p : Addr} {xs : List V} {k : Int} {v : V} (h : H p = some (.lst xs)) (e : atI xs k = some v) (q : R v) : ∃ p' xs' i' v', V.ref p = .ref p' ∧ V.int k = .int i' ∧ SqL K H p' xs' ∧ atI xs' i' = some v' ∧ R v' := ⟨p, xs, k, v, rfl, rfl, SqL.of h, e, q⟩
set_option maxHeartbeats 1000000 in
theorem ok__law_draw (T : Tx K mg base) : FnOk P w K mg base CX0 1 T.a__law_draw T.d__law_draw ["_law_well_here", "_law_many"] sp__law_draw := by
  refine T.F__law_draw.ok sc__law_draw (fun vs H Q E h => ?_) (fun cdv A outer s0 H vs Q E hr h => ?_)
  · cases h
    rfl
  · obtain @⟨_, _, _, dk, m, n, ⟨g, s, hd⟩, hn, m0, m1, k⟩ := h
    have hu := hu_of hr
    have hmd : ∀ ys, H dk ≠ some (.tup ys) := fun ys e => by rw [hd] at e; cases e
    have hfd : ∀ u v, H dk ≠ some (.frz u v) := fun ys _ e => by rw [hd] at e; cases e
    have i1 : dk ∈ [dk] := List.mem_cons_self
    refine ⟨_, (pss_cons (ps_if (pt_cmpR op_gt (pe_ix (r := rIxL K) ix_list (pv 0) pe_int (fun _ _ => rfl)) pe_int (nomark _)) (pss_cons (ps_set (i := 2) sc__law_draw.nd rfl (Or.inl rfl) (pe_op op_mod (pe_ix (r := rIxL K) ix_list (pv 0) pe_int (fun _ _ => rfl)) (pv 1)))
      (pss_cons (ps_asg (pe_op op_fdiv (pe_ix (r := rIxL K) ix_list (pv 0) pe_int (fun _ _ => rfl)) (pv 1)) (pg_sub (pv 0) pe_int set_list))
      (pss_one (ps_ret (pv 2))))) pss_nil)
      (pss_cons (ps_asg (pe_op op_add (pe_ix (r := rIxL K) ix_list (pv 0) pe_int (fun _ _ => rfl)) pe_int) (pg_sub (pv 0) pe_int set_list))
      (pss_cons (ps_set (i := 3) sc__law_draw.nd rfl (Or.inl rfl) (pe_op op_mod (pe_op op_mul (pe_op op_add (pe_ix (r := rIxL K) ix_list (pv 0) pe_int (fun _ _ => rfl)) (pe_op op_mul (pe_op op_mul pe_int (pe_ix (r := rIxL K) ix_list (pv 0) pe_int (fun _ _ => rfl))) (pe_ix (r := rIxL K) ix_list (pv 0) pe_int (fun _ _ => rfl)))) pe_int) pe_int))
      (pss_cons (ps_set (i := 3) sc__law_draw.nd rfl (Or.inl rfl) (pe_op op_mod (pe_op op_mul (pv 3) (pe_op op_add (pv 3) pe_int)) pe_int))
      (pss_one (ps_ret (pe_op op_mod (pe_op op_fdiv (pv 3) pe_int) (pv 1)))))))), ?_⟩
    refine ⟨_, rfl, getE hd rfl ⟨_, _, rfl, rfl, _, rfl, iteD (fun hg => ?_) (fun hg => ?_)⟩⟩
    · refine ⟨_, rfl, getE hd rfl ⟨_, rfl, ⟨_, _, rfl, rfl, by walk_at "ewc", ?_⟩⟩⟩
      refine ⟨_, rfl, getE hd rfl ⟨_, rfl, ⟨_, _, rfl, rfl, by walk_at "ewc", ?_⟩⟩⟩
      refine ⟨_, rfl, setE hd rfl ?_⟩
      refine ⟨_, rfl, ?_⟩
      exact k _ _ n (by omega) (Int.emod_nonneg _ (by omega)) (Int.emod_lt_of_pos _ m0) ⟨_, _, upd_same⟩ ((Evo.refl _ H).set i1 hmd hfd)
    · refine ⟨_, rfl, getE hd rfl ⟨_, _, rfl, rfl, ?_⟩⟩
      refine ⟨_, rfl, setE hd rfl ?_⟩
      have E1 : Evo [dk] H (upd H dk (.lst [.int g, .int s, .int ((n : Int) + 1)])) := (Evo.refl _ H).set i1 hmd hfd
      have hd1 : upd H dk (.lst [.int g, .int s, .int ((n : Int) + 1)]) dk = some (.lst [.int g, .int s, .int ((n : Int) + 1)]) := upd_same
      have hn1 : (n : Int) + 1 < 2 ^ 64 := by omega
      have hn0 : -(2 ^ 64) < (n : Int) + 1 := by omega
      refine ⟨_, rfl, getE hd1 rfl ?_⟩
      refine ⟨_, rfl, getE hd1 rfl ?_⟩
      refine ⟨_, _, rfl, rfl, Or.inl ⟨by decide, by decide⟩, ?_⟩
      refine ⟨_, rfl, getE hd1 rfl ?_⟩
      refine ⟨_, _, rfl, rfl, Or.inr ⟨hn0, hn1⟩, ?_⟩
      refine ⟨_, _, rfl, rfl, ?_⟩
      refine ⟨_, _, rfl, rfl, by walk_at "ewc", ?_⟩
      refine ⟨_, _, rfl, rfl, by walk_at "ewc", ?_⟩
      have n0 : ∀ z : Int, 0 ≤ z % 2147483647 := fun z => by omega
      have n1 : ∀ z : Int, z % 2147483647 < 2147483647 := fun z => by omega
      refine ⟨_, rfl, _, rfl, _, _, rfl, rfl, _, _, rfl, rfl, Or.inl ⟨Int.lt_of_lt_of_le (by decide) (n0 _), Int.lt_trans (n1 _) (by decide)⟩, ?_⟩
      refine ⟨_, _, rfl, rfl, by walk_at "ewc", ?_⟩
      refine ⟨_, rfl, _, _, rfl, rfl, by walk_at "ewc", ?_⟩
      refine ⟨_, rfl, _, _, rfl, rfl, by walk_at "ewc", ?_⟩
      exact k _ _ (n + 1) (Nat.le_refl _) (Int.emod_nonneg _ (by omega)) (Int.emod_lt_of_pos _ m0) ⟨g, s, by rw [show ((n + 1 : Nat) : Int) = (n : Int) + 1 from by omega]; exact hd1⟩ E1
end

end
end Ew
namespace Ew
open PySem PySem.Spec PyProof.Rows L2 Pu
variable [Tbs]
section
variable {P : Program} {w : World} {K : PySem.W.Frag} {mg : Str → Option Value} {base : Heap}
theorem deck_dkF {H : Hp} {a : Addr} {n : Nat} (h : Deck H a n) : DkF 8 H a a := by
  obtain ⟨g, s, h1⟩ := h
  exact ⟨s, n, g, [g, s, n], h1, h1, trivial⟩
theorem okS__law_draw (T : Tx K mg base) : FnOk P w K mg base CX0 1 T.a__law_draw T.d__law_draw ["_law_well_here", "_law_many"] (Sfc false 2 1 wp__law_draw) := by
  refine (ok__law_draw T).imp fun vs H Q E h => ?_
  obtain ⟨z, X, ds, k, hl, hz, hx, hA, ⟨lv, wl⟩, hw, c⟩ := h
  unfold wp__law_draw at hw
  split at hw
  · obtain ⟨v, u, rfl, hv, hu⟩ := hA.two
    cases hu
    obtain ⟨⟨m0, m1⟩, hk⟩ := hw
    generalize hd : D.deck 8 = d at hv
    cases hv with
    | deck ho =>
      obtain ⟨e1, e2, e3, e4⟩ := ho
      injection hd with hd
      have e3' := e3
      rw [← hd] at e3
      rw [← hd] at e4
      obtain ⟨g, s, h0⟩ := e4
      rw [e1]
      refine sp__law_draw.mk (n := z.ct) ⟨g, s, h0⟩ wl m0 m1 fun H' t n' hn' t0 t1 hD ev => ?_
      obtain ⟨g2, s2, k1⟩ := hD
      obtain ⟨_, _, _, cs, _, hc, _⟩ := e3
      have d2 : DkF 8 H' z.dk z.c := by
        by_cases q : z.c = z.dk
        · rw [q]; exact deck_dkF ⟨g2, s2, k1⟩
        · exact ⟨s2, n', g2, cs, k1, ev.old _ _ hc (fun m => q (List.mem_singleton.mp m)), trivial⟩
      refine c n' (.int t) (.int t) H' hn' ⟨fun b o q n => ev.old b o q fun m => ?_, fun b q => ?_, tab_deck e3' fun b o q n => ev.old b o q fun m => n ?_, ⟨rfl, e2, ?_, (by show CtF z.nt H' z.dk z.c n'; rw [← hd]; exact ⟨g2, s2, k1⟩)⟩⟩ (.int t) (fun q => Bool.noConfusion q) (hk t t0 t1)
      · exact n (.inl ⟨e2, .inl (List.mem_singleton.mp m)⟩)
      · by_cases hb : b = z.dk
        · rw [hb, k1]; intro q; cases q
        · cases hq : H b with
          | none => exact absurd hq q
          | some o => rw [ev.old b o hq (fun m => hb (List.mem_singleton.mp m))]; intro q; cases q
      · rw [List.mem_singleton.mp m]; exact List.mem_cons_self
      · show DkF z.nt H' z.dk z.c
        rw [← hd]
        exact d2
    | _ => cases hd
  · exact hw.elim
end
end Ew
namespace Ew
open PySem PySem.Spec PyProof.Rows L2 Pu
variable [Tbs]
section
variable {P : Program} {w : World} {K : PySem.W.Frag} {mg : Str → Option Value} {base : Heap}
theorem ok_chain (T : Tx K mg base) : FnOk P w K mg base CX0 1 T.a_chain T.d_chain ["many", "joining", "knot"] (Sf false 3 wp_chain) :=
  fn_ok (p := P_chain) (k := 0) T.F_chain sc_chain (fun _ _ _ _ _ _ hr => (b_cons (s_own (i := 3) (e_lst (a_cons (l := true) (e_v 2) a_nil)) sc_chain.nd rfl (Or.inl rfl))
    (b_cons (s_for (i_enumS (e_v 1) (E.toB (e_v 0)) (by rfl) T.n_enumerate) (g_tup (by rfl) (gs_cons (g_name (i := 4) sc_chain.nd rfl (.inl rfl)) (gs_cons (g_name (i := 5) sc_chain.nd rfl (.inl rfl)) gs_nil)))
    (b_one (s_if (t_cmp op_in_seq (OpD.eb (opd_in (neg := false))) (E.toB (e_ix (e_o 3) (E.ec (e_neg (E.toB e_int))))) (E.toB (e_v 5)) (by rfl)) (b_one (s_append 3 (e_v 4) (hb := fun _ _ ho he => pe_bm PySem.F.plainAttrs_list PySem.F.slot_list_append PySem.F.type_list_append mt_append ho (pa_cons he pa_nil)))) b_nil)) PassesOwn.never rfl)
    (b_frz 3 (b_one (s_ret (E.toB (e_tuple (E.ec (e_v 3)) (by rfl) T.n_tuple (by decide +kernel)))))))))
theorem ok_ahead (T : Tx K mg base) : FnOk P w K mg base CX0 2 T.a_ahead T.d_ahead ["many", "joining", "one", "other"] (Sf false 4 wp_ahead) :=
  fn_ok (p := P_ahead) (k := 1) T.F_ahead sc_ahead (fun _ _ _ _ _ _ hr => (b_cons (s_set (i := 4) (e_call (mo := .e) (ok_chain T) (hr.mono (by decide)) rfl T.g_chain T.F_chain.kp T.b_chain (a_cons (l := true) (e_v 0) (a_cons (l := true) (e_v 1) (a_cons (l := true) (e_v 3) a_nil))) (.inl rfl)) sc_ahead.nd rfl (Or.inr rfl))
    (b_one (s_ret (E.toB (e_tuple (E.ec (E.fe (e_lc (own := [("knot", 5)]) (i_seq (e_call (mo := .e) (ok_chain T) (hr.mono (by decide)) rfl T.g_chain T.F_chain.kp T.b_chain (a_cons (l := true) (e_v 0) (a_cons (l := true) (e_v 1) (a_cons (l := true) (e_v 2) a_nil))) (.inl rfl))) (fun _ _ _ _ _ => (g_name (i := 5) sc_ahead.nd rfl (.inl rfl))) (fun _ _ _ _ _ => (ts_one (t_cmp op_notIn_seq (OpD.eb (opd_in (neg := true))) (E.toB (e_v 5)) (E.toB (e_v 4)) (by rfl)))) (fun _ _ _ _ _ => (e_v 5)) rfl sc_ahead.nd (blkOk_by (N := N_ahead) (sc := defScope s_ahead) (by decide +kernel)) (fun _ h => h) rg_name))) (by rfl) T.n_tuple (by decide +kernel)))))))
theorem ok_common_factor (T : Tx K mg base) : FnOk P w K mg base CX0 1 T.a_common_factor T.d_common_factor ["one", "other"] (Sf false 2 wp_common_factor) :=
  fn_ok (p := P_common_factor) (k := 0) T.F_common_factor sc_common_factor (fun _ _ _ _ _ _ hr => (b_cons (s_while (t_cmp (op_neD hr.units) (OpD.eb opd_ne) (E.toB (e_v 1)) (E.toB e_int) (nomark _))
    (b_one (s_par (i := 0) (j := 1) (a_cons (l := true) (e_v 1) (a_cons (l := true) (e_op op_modN opd_modN (E.toB (e_v 0)) (E.toB (e_v 1))) a_nil)) (by rfl) sc_common_factor.nd rfl rfl (by decide) rfl rfl (by rfl))) PassesOwn.never)
    (b_one (s_ret (E.toB (e_callB call_abs cd_abs (by rfl) T.n_abs (by decide +kernel) (a_cons (l := false) (E.toB (e_v 0)) a_nil)))))))
theorem ok_lowest (T : Tx K mg base) : FnOk P w K mg base CX0 2 T.a_lowest T.d_lowest ["bottom", "numbers"] (Sf false 2 wp_lowest) :=
  fn_ok (p := P_lowest) (k := 1) T.F_lowest sc_lowest (fun _ _ _ _ _ _ hr => (b_cons (s_set (i := 2) (e_v 0) sc_lowest.nd rfl (Or.inr rfl))
    (b_cons (s_for (i_seq (e_v 1)) (g_name (i := 3) sc_lowest.nd rfl (.inl rfl))
    (b_one (s_set (i := 2) (e_call (mo := .e) (ok_common_factor T) (hr.mono (by decide)) rfl T.g_common_factor T.F_common_factor.kp T.b_common_factor (a_cons (l := true) (e_v 2) (a_cons (l := true) (e_v 3) a_nil)) (.inl rfl)) sc_lowest.nd rfl (Or.inr rfl))) PassesOwn.never rfl)
    (b_one (s_ret (E.toB (e_tup (a_cons (l := true) (e_op op_fdivW opd_divW (E.toB (e_v 0)) (E.toB (e_v 2))) (a_cons (l := true) (e_tuple (E.ec (E.fe (e_lc (own := [("number", 3)]) (i_seq (e_v 1)) (fun _ _ _ _ _ => (g_name (i := 3) sc_lowest.nd rfl (.inl rfl))) (fun _ _ _ _ _ => ts_nil) (fun _ _ _ _ _ => (e_op op_fdivW opd_divW (E.toB (e_v 3)) (E.toB (e_v 2)))) rfl sc_lowest.nd (blkOk_by (N := N_lowest) (sc := defScope s_lowest) (by decide +kernel)) (fun _ h => h) rg_name))) (by rfl) T.n_tuple (by decide +kernel)) a_nil)))))))))
theorem ok_steps (T : Tx K mg base) : FnOk P w K mg base CX0 1 T.a_steps T.d_steps ["one", "other"] (Sf false 2 wp_steps) :=
  fn_ok (p := P_steps) (k := 0) T.F_steps sc_steps (fun _ _ _ _ _ _ hr => (b_one (s_ret (E.toB (e_op op_addA opd_add (E.ec (e_callB call_abs cd_abs (by rfl) T.n_abs (by decide +kernel) (a_cons (l := false) (E.toB (e_op op_sub opd_sub (E.toB (e_ix (E.ec (e_v 0)) (E.ec e_int))) (E.toB (e_ix (E.ec (e_v 1)) (E.ec e_int))))) a_nil))) (E.ec (e_callB call_abs cd_abs (by rfl) T.n_abs (by decide +kernel) (a_cons (l := false) (E.toB (e_op op_sub opd_sub (E.toB (e_ix (E.ec (e_v 0)) (E.ec e_int))) (E.toB (e_ix (E.ec (e_v 1)) (E.ec e_int))))) a_nil))))))))
theorem ok_is_whole (T : Tx K mg base) : FnOk P w K mg base CX0 1 T.a_is_whole T.d_is_whole ["thing"] (Sf false 1 wp_is_whole) :=
  fn_ok (p := P_is_whole) (k := 0) T.F_is_whole sc_is_whole (fun _ _ _ _ _ _ hr => (b_one (s_ret (E.toB (e_and (E.toB (e_callB call_isi cd_isi (by rfl) T.n_isinstance (by decide +kernel) (a_cons (l := false) (E.toB (e_v 0)) (a_cons (l := false) (E.toB (e_ty (n := "int") (by rfl) T.n_int (by decide +kernel))) a_nil)))) (e_one (e_not (E.toB (e_callB call_isi cd_isi (by rfl) T.n_isinstance (by decide +kernel) (a_cons (l := false) (E.toB (e_v 0)) (a_cons (l := false) (E.toB (e_ty (n := "bool") (by rfl) T.n_bool (by decide +kernel))) a_nil)))))))))))
theorem ok_are_wholes (T : Tx K mg base) : FnOk P w K mg base CX0 3 T.a_are_wholes T.d_are_wholes ["thing", "many"] (Sf false 2 wp_are_wholes) :=
  fn_okT (p := P_are_wholes) (k := 2) T.F_are_wholes T.h_are_wholes sc_are_wholes (fun _ _ _ _ _ hr => (b_cons (s_if (w_t (w_or (t_not (t_val (E.toB (e_callB call_isi cd_isi (by rfl) T.n_isinstance (by decide +kernel) (a_cons (l := false) (E.toB (e_v 0)) (a_cons (l := false) (E.toB (e_ty (n := "tuple") (by rfl) T.n_tuple (by decide +kernel))) a_nil)))))) (w_or1 (t_cmp (op_neD hr.units) (OpD.eb opd_ne) (E.toB (e_callB call_lenA cd_len (by rfl) T.n_len (by decide +kernel) (a_cons (l := false) (E.toB (e_v 0)) a_nil))) (E.toB (e_v 1)) (nomark _))))) (b_one (s_ret (E.toB e_bl))) b_nil)
    (b_one (s_ret (E.toB (e_all (k := 1) (own := [("part", 2)]) hr (i_seq (e_v 0)) (fun _ _ _ _ _ _ => (g_name (i := 2) sc_are_wholes.nd rfl (.inl rfl))) (fun _ _ _ _ _ _ hr => (E.toB (e_call (mo := .e) (ok_is_whole T) (hr.mono (by decide)) rfl T.g_is_whole T.F_is_whole.kp T.b_is_whole (a_cons (l := true) (e_v 2) a_nil) (.inl rfl)))) rfl sc_are_wholes.nd (by rfl) T.n_all T.tb_are_wholes T.m_are_wholes rfl (blkOk_by (N := N_are_wholes) (sc := defScope s_are_wholes) (by decide +kernel)) (by decide +kernel) (fun _ h => h) rg_name))))))
theorem ok_is_row (T : Tx K mg base) : FnOk P w K mg base CX0 4 T.a_is_row T.d_is_row ["many", "gap", "thing"] (Sf false 3 wp_is_row) :=
  fn_ok (p := P_is_row) (k := 3) T.F_is_row sc_is_row (fun _ _ _ _ _ _ hr => (b_cons (s_if (w_t (w_or (t_not (t_val (E.toB (e_callB call_isi cd_isi (by rfl) T.n_isinstance (by decide +kernel) (a_cons (l := false) (E.toB (e_v 2)) (a_cons (l := false) (E.toB (e_ty (n := "tuple") (by rfl) T.n_tuple (by decide +kernel))) a_nil)))))) (w_or1 (t_not (t_val (E.toB (e_call (mo := .e) (ok_are_wholes T) (hr.mono (by decide)) rfl T.g_are_wholes T.F_are_wholes.kp T.b_are_wholes (a_cons (l := true) (e_slice (E.ec (e_v 2)) (o_some (E.toB e_int)) o_none) (a_cons (l := true) e_int a_nil)) (.inl rfl)))))))) (b_one (s_ret (E.toB e_bl))) b_nil)
    (b_cons (s_asg (e_v 2) (g_tup (by rfl) (gs_cons (g_name (i := 3) sc_is_row.nd rfl (.inl rfl)) (gs_cons (g_name (i := 4) sc_is_row.nd rfl (.inl rfl)) (gs_cons (g_name (i := 5) sc_is_row.nd rfl (.inl rfl)) (gs_cons (g_name (i := 6) sc_is_row.nd rfl (.inl rfl)) gs_nil))))))
    (b_cons (s_if (w_t (w_or (t_not (t_chain op_le op_lt (OpD.eb opd_le) opd_lt (E.toB e_int) (E.toB (e_v 4)) (E.toB (e_v 0)))) (w_or (t_not (t_chain op_le op_lt (OpD.eb opd_le) opd_lt (E.toB e_int) (E.toB (e_v 5)) (E.toB (e_v 0)))) (w_or1 (t_cmp op_lt (OpD.eb opd_lt) (E.toB (e_v 6)) (E.toB e_int) (nomark _)))))) (b_one (s_ret (E.toB e_bl))) b_nil)
    (b_cons (s_if (t_cmp (op_eqD hr.units) (OpD.eb opd_eq) (E.toB (e_v 3)) (E.toB e_str) (nomark _)) (b_one (s_ret (E.toB (e_cmp op_lt opd_lt (E.toB (e_v 4)) (E.toB (e_v 5)) (nomark _))))) b_nil)
    (b_one (s_ret (E.toB (e_and (E.toB (e_cmp (op_eqD hr.units) opd_eq (E.toB (e_v 3)) (E.toB e_str) (nomark _))) (e_and (E.toB (e_cmp op_isNA opd_isN (E.toB (e_v 1)) (E.toB e_non) (nomark _))) (e_one (e_cmp (op_neD hr.units) opd_ne (E.toB (e_v 4)) (E.toB (e_v 5)) (nomark _)))))))))))))
theorem ok_has_form (T : Tx K mg base) : FnOk P w K mg base CX0 6 T.a_has_form T.d_has_form ["many", "gap", "thing"] (Sf false 3 wp_has_form) :=
  fn_okT (p := P_has_form) (k := 5) T.F_has_form T.h_has_form sc_has_form (fun _ _ _ _ _ hr => (b_cons (s_if (w_t (w_or (t_not (t_val (E.toB (e_callB call_isi cd_isi (by rfl) T.n_isinstance (by decide +kernel) (a_cons (l := false) (E.toB (e_v 2)) (a_cons (l := false) (E.toB (e_ty (n := "tuple") (by rfl) T.n_tuple (by decide +kernel))) a_nil)))))) (w_or1 (t_cmp (op_neD hr.units) (OpD.eb opd_ne) (E.toB (e_callB call_lenA cd_len (by rfl) T.n_len (by decide +kernel) (a_cons (l := false) (E.toB (e_v 2)) a_nil))) (E.toB e_int) (nomark _))))) (b_one (s_ret (E.toB e_bl))) b_nil)
    (b_cons (s_asg (e_v 2) (g_tup (by rfl) (gs_cons (g_name (i := 3) sc_has_form.nd rfl (.inl rfl)) (gs_cons (g_name (i := 4) sc_has_form.nd rfl (.inl rfl)) gs_nil))))
    (b_cons (s_if (w_t (w_or (t_not (t_val (E.toB (e_call (mo := .e) (ok_is_whole T) (hr.mono (by decide)) rfl T.g_is_whole T.F_is_whole.kp T.b_is_whole (a_cons (l := true) (e_v 3) a_nil) (.inl rfl))))) (w_or (t_cmp op_lt (OpD.eb opd_lt) (E.toB (e_v 3)) (E.toB e_int) (nomark _)) (w_or1 (t_not (t_val (E.toB (e_callB call_isi cd_isi (by rfl) T.n_isinstance (by decide +kernel) (a_cons (l := false) (E.toB (e_v 4)) (a_cons (l := false) (E.toB (e_ty (n := "tuple") (by rfl) T.n_tuple (by decide +kernel))) a_nil)))))))))) (b_one (s_ret (E.toB e_bl))) b_nil)
    (b_one (s_ret (E.toB (e_all (k := 4) (own := [("part", 5)]) hr (i_seq (e_v 4)) (fun _ _ _ _ _ _ => (g_name (i := 5) sc_has_form.nd rfl (.inl rfl))) (fun _ _ _ _ _ _ hr => (E.toB (e_call (mo := .e) (ok_is_row T) (hr.mono (by decide)) rfl T.g_is_row T.F_is_row.kp T.b_is_row (a_cons (l := true) (e_v 0) (a_cons (l := true) (e_v 1) (a_cons (l := true) (e_v 5) a_nil))) (.inl rfl)))) rfl sc_has_form.nd (by rfl) T.n_all T.tb_has_form T.m_has_form rfl (blkOk_by (N := N_has_form) (sc := defScope s_has_form) (by decide +kernel)) (by decide +kernel) (fun _ h => h) rg_name))))))))
theorem ok_borne_by (T : Tx K mg base) : FnOk P w K mg base CX0 3 T.a_borne_by T.d_borne_by ["many", "joining", "row"] (Sf false 3 wp_borne_by) :=
  fn_ok (p := P_borne_by) (k := 2) T.F_borne_by sc_borne_by (fun _ _ _ _ _ _ hr => (b_cons (s_asg (e_v 2) (g_tup (by rfl) (gs_cons (g_name (i := 3) sc_borne_by.nd rfl (.inl rfl)) (gs_cons (g_name (i := 4) sc_borne_by.nd rfl (.inl rfl)) (gs_cons (g_name (i := 5) sc_borne_by.nd rfl (.inl rfl)) (gs_cons (g_name (i := 6) sc_borne_by.nd rfl (.inr rfl)) gs_nil))))))
    (b_cons (s_set (i := 7) (e_if (t_cmp (op_eqD hr.units) (OpD.eb opd_eq) (E.toB (e_v 3)) (E.toB e_str) (nomark _)) (e_v 6) (e_neg (E.toB (e_v 6)))) sc_borne_by.nd rfl (Or.inr rfl))
    (b_one (s_ret (E.toB (e_op op_addA opd_add (E.ec (E.fe (e_lc (own := [("knot", 8)]) (i_seq (e_call (mo := .e) (ok_ahead T) (hr.mono (by decide)) rfl T.g_ahead T.F_ahead.kp T.b_ahead (a_cons (l := true) (e_v 0) (a_cons (l := true) (e_v 1) (a_cons (l := true) (e_v 4) (a_cons (l := true) (e_v 5) a_nil)))) (.inl rfl))) (fun _ _ _ _ _ => (g_name (i := 8) sc_borne_by.nd rfl (.inl rfl))) (fun _ _ _ _ _ => ts_nil) (fun _ _ _ _ _ => (e_tup (a_cons (l := true) (e_v 8) (a_cons (l := true) (e_v 7) a_nil)))) rfl sc_borne_by.nd (blkOk_by (N := N_borne_by) (sc := defScope s_borne_by) (by decide +kernel)) (fun _ h => h) rg_name))) (E.ec (E.fe (e_lc (own := [("knot", 8)]) (i_seq (e_call (mo := .e) (ok_ahead T) (hr.mono (by decide)) rfl T.g_ahead T.F_ahead.kp T.b_ahead (a_cons (l := true) (e_v 0) (a_cons (l := true) (e_v 1) (a_cons (l := true) (e_v 5) (a_cons (l := true) (e_v 4) a_nil)))) (.inl rfl))) (fun _ _ _ _ _ => (g_name (i := 8) sc_borne_by.nd rfl (.inl rfl))) (fun _ _ _ _ _ => ts_nil) (fun _ _ _ _ _ => (e_tup (a_cons (l := true) (e_v 8) (a_cons (l := true) (e_v 6) a_nil)))) rfl sc_borne_by.nd (blkOk_by (N := N_borne_by) (sc := defScope s_borne_by) (by decide +kernel)) (fun _ h => h) rg_name))))))))))
theorem ok_all_borne (T : Tx K mg base) : FnOk P w K mg base CX0 4 T.a_all_borne T.d_all_borne ["many", "joining", "rows"] (Sf false 3 wp_all_borne) :=
  fn_ok (p := P_all_borne) (k := 3) T.F_all_borne sc_all_borne (fun _ _ _ _ _ _ hr => (b_cons (s_own (i := 3) (e_op op_rep opd_rep (E.ec (E.fe (e_lst (a_cons (l := true) e_int a_nil)))) (E.ec (e_op op_sub opd_sub (E.toB (e_op op_mul opd_mul (E.toB e_int) (E.toB (e_v 0)))) (E.toB e_int)))) sc_all_borne.nd rfl (Or.inl rfl))
    (b_cons (s_for (i_seq (e_v 2)) (g_name (i := 4) sc_all_borne.nd rfl (.inl rfl))
    (b_one (s_for (i_seq (e_call (mo := .e) (ok_borne_by T) (hr.mono (by decide)) rfl T.g_borne_by T.F_borne_by.kp T.b_borne_by (a_cons (l := true) (e_v 0) (a_cons (l := true) (e_v 1) (a_cons (l := true) (e_v 4) a_nil))) (.inl rfl))) (g_tup (by rfl) (gs_cons (g_name (i := 5) sc_all_borne.nd rfl (.inl rfl)) (gs_cons (g_name (i := 6) sc_all_borne.nd rfl (.inl rfl)) gs_nil)))
    (b_one (s_augI 3 (E.toB (e_v 5)) (E.toB (e_v 6)))) PassesOwn.never rfl)) PassesOwn.never rfl)
    (b_one (s_retO 3)))))
theorem ok_worth_of (T : Tx K mg base) : FnOk P w K mg base CX0 2 T.a_worth_of T.d_worth_of ["ends", "gap", "row"] (Sf false 3 wp_worth_of) :=
  fn_ok (p := P_worth_of) (k := 1) T.F_worth_of sc_worth_of (fun _ _ _ _ _ _ hr => (b_cons (s_asg (e_v 2) (g_tup (by rfl) (gs_cons (g_name (i := 3) sc_worth_of.nd rfl (.inl rfl)) (gs_cons (g_name (i := 4) sc_worth_of.nd rfl (.inl rfl)) (gs_cons (g_name (i := 5) sc_worth_of.nd rfl (.inl rfl)) (gs_cons (g_name (i := 6) sc_worth_of.nd rfl (.inl rfl)) gs_nil))))))
    (b_cons (s_if (t_cmp (op_eqD hr.units) (OpD.eb opd_eq) (E.toB (e_v 3)) (E.toB e_str) (nomark _)) (b_one (s_ret (E.toB (e_op op_mul opd_mul (E.toB (e_v 6)) (E.toB (e_call (mo := .e) (ok_steps T) (hr.mono (by decide)) rfl T.g_steps T.F_steps.kp T.b_steps (a_cons (l := true) (e_slice (E.ec (e_ix (E.ec (e_v 0)) (E.ec (e_v 4)))) o_none (o_some (E.toB e_int))) (a_cons (l := true) (e_slice (E.ec (e_ix (E.ec (e_v 0)) (E.ec (e_v 5)))) o_none (o_some (E.toB e_int))) a_nil)) (.inl rfl))))))) b_nil)
    (b_one (s_ret (E.toB (e_op op_mul opd_mul (E.toB (e_neg (E.toB (e_v 6)))) (E.toB (e_op op_sub opd_sub (E.toB (e_op op_addA opd_add (E.ec (e_v 1)) (E.ec (e_ix (E.ec (e_ix (E.ec (e_v 0)) (E.ec (e_v 5)))) (E.ec e_int))))) (E.toB (e_ix (E.ec (e_ix (E.ec (e_v 0)) (E.ec (e_v 4)))) (E.ec e_int))))))))))))
theorem ok_times_shown (T : Tx K mg base) : FnOk P w K mg base CX0 7 T.a_times_shown T.d_times_shown ["ends", "joining", "gap", "thing"] (Sf false 4 wp_times_shown) :=
  fn_okT (p := P_times_shown) (k := 6) T.F_times_shown T.h_times_shown sc_times_shown (fun _ _ _ _ _ hr => (b_cons (s_if (t_not (t_val (E.toB (e_call (mo := .e) (ok_has_form T) (hr.mono (by decide)) rfl T.g_has_form T.F_has_form.kp T.b_has_form (a_cons (l := true) (e_callB call_lenA cd_len (by rfl) T.n_len (by decide +kernel) (a_cons (l := false) (E.toB (e_v 0)) a_nil)) (a_cons (l := true) (e_v 2) (a_cons (l := true) (e_v 3) a_nil))) (.inl rfl))))) (b_one (s_ret (E.toB e_non))) b_nil)
    (b_cons (s_asg (e_v 3) (g_tup (by rfl) (gs_cons (g_name (i := 4) sc_times_shown.nd rfl (.inr rfl)) (gs_cons (g_name (i := 5) sc_times_shown.nd rfl (.inl rfl)) gs_nil))))
    (b_cons (s_if (t_val (E.toB (e_any (k := 5) (own := [("borne", 6)]) hr (i_seq (e_call (mo := .e) (ok_all_borne T) (hr.mono (by decide)) rfl T.g_all_borne T.F_all_borne.kp T.b_all_borne (a_cons (l := true) (e_callB call_lenA cd_len (by rfl) T.n_len (by decide +kernel) (a_cons (l := false) (E.toB (e_v 0)) a_nil)) (a_cons (l := true) (e_v 1) (a_cons (l := true) (e_v 5) a_nil))) (.inl rfl))) (fun _ _ _ _ _ _ => (g_name (i := 6) sc_times_shown.nd rfl (.inl rfl))) (fun _ _ _ _ _ _ hr => (E.toB (e_cmp op_gt opd_gt (E.toB (e_v 6)) (E.toB (e_v 4)) (nomark _)))) rfl sc_times_shown.nd (by rfl) T.n_any T.tb_times_shown T.m_times_shown rfl (blkOk_by (N := N_times_shown) (sc := defScope s_times_shown) (by decide +kernel)) (by decide +kernel) (fun _ h => h) rg_name))) (b_one (s_ret (E.toB e_non))) b_nil)
    (b_cons (s_asg (e_call (mo := .e) (ok_lowest T) (hr.mono (by decide)) rfl T.g_lowest T.F_lowest.kp T.b_lowest (a_cons (l := true) (e_v 4) (a_cons (l := true) (e_tup (a_cons (l := true) (e_callB (cr_sum rfl) cd_sum (by rfl) T.n_sum (by decide +kernel) (a_cons (l := false) (E.toB (e_lc (own := [("row", 9)]) (i_seq (e_v 5)) (fun _ _ _ _ _ => (g_name (i := 9) sc_times_shown.nd rfl (.inl rfl))) (fun _ _ _ _ _ => ts_nil) (fun _ _ _ _ _ => (e_call (mo := .e) (ok_worth_of T) (hr.mono (by decide)) rfl T.g_worth_of T.F_worth_of.kp T.b_worth_of (a_cons (l := true) (e_v 0) (a_cons (l := true) (e_v 2) (a_cons (l := true) (e_v 9) a_nil))) (.inl rfl))) rfl sc_times_shown.nd (blkOk_by (N := N_times_shown) (sc := defScope s_times_shown) (by decide +kernel)) (fun _ h => h) rg_name)) a_nil)) a_nil)) a_nil)) (.inl rfl)) (g_tup (by rfl) (gs_cons (g_name (i := 7) sc_times_shown.nd rfl (.inl rfl)) (gs_cons (g_name (i := 8) sc_times_shown.nd rfl (.inl rfl)) gs_nil))))
    (b_one (s_ret (E.toB (e_tup (a_cons (l := true) (e_ix (E.ec (e_v 8)) (E.ec e_int)) (a_cons (l := true) (e_v 7) a_nil)))))))))))
theorem ok__law_number (T : Tx K mg base) : FnOk P w K mg base CX0 2 T.a__law_number T.d__law_number ["_law_well_here", "_law_way"] (Sfc false 2 3 wp__law_number) :=
  fn_okC (p := P__law_number) (k := 1) T.F__law_number sc__law_number (fun _ _ _ _ _ _ hr => bc_le (bc_cons (sc_if (Pu.T.cd (t_cmp (op_eqD hr.units) (OpD.eb opd_eq) (E.toB (e_v 1)) (E.toB e_int) (nomark _))) (bc_one (sc_ret (ec_calld (mo := .e) (okS__law_draw T) (hr.mono (by decide)) rfl T.g__law_draw T.F__law_draw.kp T.b__law_draw (ac_cons (l := true) (Pu.E.cd (e_v 0)) (ac_cons (l := true) (Pu.E.cd e_int) ac_nil)) (.inl rfl)))) bc_nil)
    (bc_cons (sc_if (Pu.T.cd (t_cmp (op_eqD hr.units) (OpD.eb opd_eq) (E.toB (e_v 1)) (E.toB e_int) (nomark _))) (bc_one (sc_ret (ec_ix (Ec.ec (Ec.fe (Pu.E.cd (e_lst (a_cons (l := true) (e_powC 10 6 1000000) (a_cons (l := true) (e_op op_sub opd_sub (E.toB (e_powC 10 6 1000000)) (E.toB e_int)) (a_cons (l := true) (e_neg (E.toB (e_powC 10 6 1000000))) (a_cons (l := true) (e_op op_sub opd_sub (E.toB e_int) (E.toB (e_powC 10 6 1000000))) (a_cons (l := true) e_int a_nil))))))))) (Ec.ec (ec_calld (mo := .e) (okS__law_draw T) (hr.mono (by decide)) rfl T.g__law_draw T.F__law_draw.kp T.b__law_draw (ac_cons (l := true) (Pu.E.cd (e_v 0)) (ac_cons (l := true) (Pu.E.cd e_int) ac_nil)) (.inl rfl)))))) bc_nil)
    (bc_one (sc_ret (ec_op op_sub opd_sub (Ec.toB (ec_calld (mo := .e) (okS__law_draw T) (hr.mono (by decide)) rfl T.g__law_draw T.F__law_draw.kp T.b__law_draw (ac_cons (l := true) (Pu.E.cd (e_v 0)) (ac_cons (l := true) (Pu.E.cd (e_op op_addA opd_add (E.ec (e_op op_mul opd_mul (E.toB e_int) (E.toB (e_powC 10 6 1000000)))) (E.ec e_int))) ac_nil)) (.inl rfl))) (Ec.toB (Pu.E.cd (e_powC 10 6 1000000)))))))) (Nat.le_of_ble_eq_true rfl))
theorem ok__law_start (T : Tx K mg base) : FnOk P w K mg base CX0 2 T.a__law_start T.d__law_start ["_law_well_here", "_law_way"] (Sfc false 2 3 wp__law_start) :=
  fn_okC (p := P__law_start) (k := 1) T.F__law_start sc__law_start (fun _ _ _ _ _ _ hr => bc_le (bc_cons (sc_if (Pu.T.cd (t_cmp op_lt (OpD.eb opd_lt) (E.toB (e_v 1)) (E.toB e_int) (nomark _))) (bc_one (sc_ret (Pu.E.cd e_int))) bc_nil)
    (bc_cons (sc_if (Pu.T.cd (t_cmp (op_eqD hr.units) (OpD.eb opd_eq) (E.toB (e_v 1)) (E.toB e_int) (nomark _))) (bc_one (sc_ret (ec_calld (mo := .e) (okS__law_draw T) (hr.mono (by decide)) rfl T.g__law_draw T.F__law_draw.kp T.b__law_draw (ac_cons (l := true) (Pu.E.cd (e_v 0)) (ac_cons (l := true) (Pu.E.cd e_int) ac_nil)) (.inl rfl)))) bc_nil)
    (bc_one (sc_ret (ec_ix (Ec.ec (Ec.fe (ec_lst (ac_cons (l := true) (Pu.E.cd e_int) (ac_cons (l := true) (Pu.E.cd (e_powC 10 6 1000000)) (ac_cons (l := true) (ec_calld (mo := .e) (okS__law_draw T) (hr.mono (by decide)) rfl T.g__law_draw T.F__law_draw.kp T.b__law_draw (ac_cons (l := true) (Pu.E.cd (e_v 0)) (ac_cons (l := true) (Pu.E.cd (e_op op_addA opd_add (E.ec (e_powC 10 6 1000000)) (E.ec e_int))) ac_nil)) (.inl rfl)) ac_nil)))))) (Ec.ec (ec_calld (mo := .e) (okS__law_draw T) (hr.mono (by decide)) rfl T.g__law_draw T.F__law_draw.kp T.b__law_draw (ac_cons (l := true) (Pu.E.cd (e_v 0)) (ac_cons (l := true) (Pu.E.cd e_int) ac_nil)) (.inl rfl)))))))) (Nat.le_of_ble_eq_true rfl))
theorem ok__law_ends (T : Tx K mg base) : FnOk P w K mg base CX0 3 T.a__law_ends T.d__law_ends ["_law_well_here", "_law_most"] (Sfc false 2 1200006 wp__law_ends) :=
  fn_okC (p := P__law_ends) (k := 2) T.F__law_ends sc__law_ends (fun _ _ _ _ _ _ hr => bc_le (bc_cons (sc_set (i := 2) (ec_callTy call_int1 cd_int (by rfl) T.n_int (by decide +kernel) (ac_cons (l := false) (Ec.toB (ec_cmp (op_eqD hr.units) opd_eq (Ec.toB (ec_calld (mo := .e) (okS__law_draw T) (hr.mono (by decide)) rfl T.g__law_draw T.F__law_draw.kp T.b__law_draw (ac_cons (l := true) (Pu.E.cd (e_v 0)) (ac_cons (l := true) (Pu.E.cd e_int) ac_nil)) (.inl rfl))) (Ec.toB (Pu.E.cd e_int)) (nomark _))) ac_nil)) sc__law_ends.nd rfl (Or.inl rfl))
    (bc_cons (sc_set (i := 3) (ec_op op_addA opd_add (Ec.ec (Pu.E.cd e_int)) (Ec.ec (ec_calld (mo := .e) (okS__law_draw T) (hr.mono (by decide)) rfl T.g__law_draw T.F__law_draw.kp T.b__law_draw (ac_cons (l := true) (Pu.E.cd (e_v 0)) (ac_cons (l := true) (Pu.E.cd (e_ix (E.ec (E.fe (e_lst (a_cons (l := true) e_int (a_cons (l := true) (e_v 1) a_nil))))) (E.ec (e_v 2)))) ac_nil)) (.inl rfl)))) sc__law_ends.nd rfl (Or.inl rfl))
    (bc_cons (sc_set (i := 3) (ec_ix (Ec.ec (Ec.fe (Pu.E.cd (e_lst (a_cons (l := true) (e_v 3) (a_cons (l := true) (e_v 1) a_nil)))))) (Ec.ec (ec_op op_mul opd_mul (Ec.toB (Pu.E.cd (e_v 2))) (Ec.toB (ec_callTy call_int1 cd_int (by rfl) T.n_int (by decide +kernel) (ac_cons (l := false) (Ec.toB (ec_cmp (op_eqD hr.units) opd_eq (Ec.toB (ec_calld (mo := .e) (okS__law_draw T) (hr.mono (by decide)) rfl T.g__law_draw T.F__law_draw.kp T.b__law_draw (ac_cons (l := true) (Pu.E.cd (e_v 0)) (ac_cons (l := true) (Pu.E.cd e_int) ac_nil)) (.inl rfl))) (Ec.toB (Pu.E.cd e_int)) (nomark _))) ac_nil)))))) sc__law_ends.nd rfl (Or.inl rfl))
    (bc_cons (sc_set (i := 4) (ec_ix (Ec.ec (Ec.fe (Pu.E.cd (e_lst (a_cons (l := true) e_int (a_cons (l := true) e_int (a_cons (l := true) e_int (a_cons (l := true) e_int a_nil)))))))) (Ec.ec (ec_calld (mo := .e) (okS__law_draw T) (hr.mono (by decide)) rfl T.g__law_draw T.F__law_draw.kp T.b__law_draw (ac_cons (l := true) (Pu.E.cd (e_v 0)) (ac_cons (l := true) (Pu.E.cd e_int) ac_nil)) (.inl rfl)))) sc__law_ends.nd rfl (Or.inl rfl))
    (bc_cons (sc_set (i := 5) (ec_calld (mo := .e) (okS__law_draw T) (hr.mono (by decide)) rfl T.g__law_draw T.F__law_draw.kp T.b__law_draw (ac_cons (l := true) (Pu.E.cd (e_v 0)) (ac_cons (l := true) (Pu.E.cd e_int) ac_nil)) (.inl rfl)) sc__law_ends.nd rfl (Or.inl rfl))
    (bc_cons (sc_set (i := 6) (ec_calld (mo := .e) (okS__law_draw T) (hr.mono (by decide)) rfl T.g__law_draw T.F__law_draw.kp T.b__law_draw (ac_cons (l := true) (Pu.E.cd (e_v 0)) (ac_cons (l := true) (Pu.E.cd e_int) ac_nil)) (.inl rfl)) sc__law_ends.nd rfl (Or.inl rfl))
    (bc_cons (Pu.S.cd (s_own (i := 7) (e_lst a_nil) sc__law_ends.nd rfl (Or.inl rfl)))
    (bc_cons (sc_for (ic_range1 (ac_cons (l := false) (Ec.toB (Pu.E.cd (e_v 3))) ac_nil) (by rfl) T.n_range) (g_name (i := 8) sc__law_ends.nd rfl (.inl rfl))
    (bc_cons (sc_set (i := 9) (ec_calld (mo := .e) (okS__law_draw T) (hr.mono (by decide)) rfl T.g__law_draw T.F__law_draw.kp T.b__law_draw (ac_cons (l := true) (Pu.E.cd (e_v 0)) (ac_cons (l := true) (Pu.E.cd e_int) ac_nil)) (.inl rfl)) sc__law_ends.nd rfl (Or.inl rfl))
    (bc_cons (sc_set (i := 10) (ec_calld (mo := .e) (ok__law_number T) (hr.mono (by decide)) rfl T.g__law_number T.F__law_number.kp T.b__law_number (ac_cons (l := true) (Pu.E.cd (e_v 0)) (ac_cons (l := true) (Pu.E.cd (e_v 4)) ac_nil)) (.inl rfl)) sc__law_ends.nd rfl (Or.inl rfl))
    (bc_cons (sc_set (i := 11) (ec_ix (Ec.ec (Ec.fe (ec_lst (ac_cons (l := true) (ec_calld (mo := .e) (ok__law_number T) (hr.mono (by decide)) rfl T.g__law_number T.F__law_number.kp T.b__law_number (ac_cons (l := true) (Pu.E.cd (e_v 0)) (ac_cons (l := true) (Pu.E.cd (e_v 4)) ac_nil)) (.inl rfl)) (ac_cons (l := true) (Pu.E.cd e_int) (ac_cons (l := true) (Pu.E.cd (e_op op_sub opd_sub (E.toB e_int) (E.toB (e_v 10)))) ac_nil)))))) (Ec.ec (Pu.E.cd (e_ix (E.ec (E.fe (e_lst (a_cons (l := true) e_int (a_cons (l := true) e_int (a_cons (l := true) e_int (a_cons (l := true) e_int (a_cons (l := true) e_int (a_cons (l := true) e_int a_nil))))))))) (E.ec (e_v 5)))))) sc__law_ends.nd rfl (Or.inl rfl))
    (bc_cons (sc_if (Pu.T.cd (w_t (w_and (t_cmp (op_eqD hr.units) (OpD.eb opd_eq) (E.toB (e_v 9)) (E.toB e_int) (nomark _)) (w_and1 (t_cmp (op_neD hr.units) (OpD.eb opd_ne) (E.toB (e_o 7)) (E.toB (e_lst a_nil)) (nomark _)))))) (bc_one (sc_asg (ec_slice (Ec.ec (ec_ix (Pu.E.cd (e_o 7)) (Ec.ec (ec_calld (mo := .e) (okS__law_draw T) (hr.mono (by decide)) rfl T.g__law_draw T.F__law_draw.kp T.b__law_draw (ac_cons (l := true) (Pu.E.cd (e_v 0)) (ac_cons (l := true) (Pu.E.cd (e_callB call_lenA cd_len (by rfl) T.n_len (by decide +kernel) (a_cons (l := false) (E.toB (e_o 7)) a_nil))) ac_nil)) (.inl rfl))))) o_none (o_some (E.toB e_int))) (g_tup (by rfl) (gs_cons (g_name (i := 10) sc__law_ends.nd rfl (.inl rfl)) (gs_cons (g_name (i := 11) sc__law_ends.nd rfl (.inl rfl)) gs_nil))))) bc_nil)
    (bc_one (sc_append 7 (ec_tup (ac_cons (l := true) (Pu.E.cd (e_v 10)) (ac_cons (l := true) (Pu.E.cd (e_v 11)) (ac_cons (l := true) (ec_calld (mo := .e) (ok__law_start T) (hr.mono (by decide)) rfl T.g__law_start T.F__law_start.kp T.b__law_start (ac_cons (l := true) (Pu.E.cd (e_v 0)) (ac_cons (l := true) (Pu.E.cd (e_v 6)) ac_nil)) (.inl rfl)) (ac_cons (l := true) (ec_calld (mo := .e) (okS__law_draw T) (hr.mono (by decide)) rfl T.g__law_draw T.F__law_draw.kp T.b__law_draw (ac_cons (l := true) (Pu.E.cd (e_v 0)) (ac_cons (l := true) (Pu.E.cd (e_op op_addA opd_add (E.ec (e_powC 10 6 1000000)) (E.ec e_int))) ac_nil)) (.inl rfl)) ac_nil))))) (hb := fun _ _ ho he => pe_bm PySem.F.plainAttrs_list PySem.F.slot_list_append PySem.F.type_list_append mt_append ho (pa_cons he pa_nil)))))))) PassesOwn.never rfl)
    (bc_frz 7 (bc_one (sc_ret (Pu.E.cd (e_tuple (E.ec (e_v 7)) (by rfl) T.n_tuple (by decide +kernel)))))))))))))) (Nat.le_of_ble_eq_true rfl))
theorem ok__law_joining (T : Tx K mg base) : FnOk P w K mg base CX0 2 T.a__law_joining T.d__law_joining ["_law_well_here", "_law_many"] (Sfc false 2 300001 wp__law_joining) :=
  fn_okC (p := P__law_joining) (k := 1) T.F__law_joining sc__law_joining (fun _ _ _ _ _ _ hr => bc_le (bc_cons (Pu.S.cd (s_own (i := 2) (e_lstRg1 (E.toB (e_v 1)) rfl (by rfl) T.n_list (by rfl) T.n_range) sc__law_joining.nd rfl (Or.inl rfl)))
    (bc_cons (Pu.S.cd (s_own (i := 3) (e_lst a_nil) sc__law_joining.nd rfl (Or.inl rfl)))
    (bc_cons (sc_set (i := 4) (ec_cmp (op_eqD hr.units) opd_eq (Ec.toB (ec_calld (mo := .e) (okS__law_draw T) (hr.mono (by decide)) rfl T.g__law_draw T.F__law_draw.kp T.b__law_draw (ac_cons (l := true) (Pu.E.cd (e_v 0)) (ac_cons (l := true) (Pu.E.cd e_int) ac_nil)) (.inl rfl))) (Ec.toB (Pu.E.cd e_int)) (nomark _)) sc__law_joining.nd rfl (Or.inl rfl))
    (bc_cons (sc_for (ic_range1 (ac_cons (l := false) (Ec.toB (Pu.E.cd (e_op op_sub opd_sub (E.toB (e_v 1)) (E.toB e_int)))) ac_nil) (by rfl) T.n_range) (g_name (i := 5) sc__law_joining.nd rfl (.inl rfl))
    (bc_cons (sc_set (i := 6) (ec_calld (mo := .e) (okS__law_draw T) (hr.mono (by decide)) rfl T.g__law_draw T.F__law_draw.kp T.b__law_draw (ac_cons (l := true) (Pu.E.cd (e_v 0)) (ac_cons (l := true) (Pu.E.cd e_int) ac_nil)) (.inl rfl)) sc__law_joining.nd rfl (Or.inl rfl))
    (bc_cons (sc_popAt 7 2 (Ec.toB (ec_ix (Ec.ec (Ec.fe (ec_lst (ac_cons (l := true) (ec_calld (mo := .e) (okS__law_draw T) (hr.mono (by decide)) rfl T.g__law_draw T.F__law_draw.kp T.b__law_draw (ac_cons (l := true) (Pu.E.cd (e_v 0)) (ac_cons (l := true) (Pu.E.cd (e_callB call_lenA cd_len (by rfl) T.n_len (by decide +kernel) (a_cons (l := false) (E.toB (e_o 2)) a_nil))) ac_nil)) (.inl rfl)) (ac_cons (l := true) (Pu.E.cd (e_op op_sub opd_sub (E.toB (e_callB call_lenA cd_len (by rfl) T.n_len (by decide +kernel) (a_cons (l := false) (E.toB (e_o 2)) a_nil))) (E.toB e_int))) ac_nil))))) (Ec.ec (Pu.E.cd (e_callTy call_int1 cd_int (by rfl) T.n_int (by decide +kernel) (a_cons (l := false) (E.toB (e_v 4)) a_nil)))))) rfl (Or.inl rfl) sc__law_joining.nd (fun _ _ ho he => pe_bm PySem.F.plainAttrs_list PySem.F.slot_list_pop PySem.F.type_list_pop mt_popAt ho (pa_cons he pa_nil)))
    (bc_cons (sc_popAt 8 2 (Ec.toB (ec_calld (mo := .e) (okS__law_draw T) (hr.mono (by decide)) rfl T.g__law_draw T.F__law_draw.kp T.b__law_draw (ac_cons (l := true) (Pu.E.cd (e_v 0)) (ac_cons (l := true) (Pu.E.cd (e_callB call_lenA cd_len (by rfl) T.n_len (by decide +kernel) (a_cons (l := false) (E.toB (e_o 2)) a_nil))) ac_nil)) (.inl rfl))) rfl (Or.inl rfl) sc__law_joining.nd (fun _ _ ho he => pe_bm PySem.F.plainAttrs_list PySem.F.slot_list_pop PySem.F.type_list_pop mt_popAt ho (pa_cons he pa_nil)))
    (bc_cons (Pu.S.cd (s_append 3 (e_ix (E.ec (E.fe (e_lst (a_cons (l := true) (e_tup (a_cons (l := true) (e_v 7) (a_cons (l := true) (e_v 8) a_nil))) (a_cons (l := true) (e_tup (a_cons (l := true) (e_v 8) (a_cons (l := true) (e_v 7) a_nil))) a_nil))))) (E.ec (e_v 6))) (hb := fun _ _ ho he => pe_bm PySem.F.plainAttrs_list PySem.F.slot_list_append PySem.F.type_list_append mt_append ho (pa_cons he pa_nil))))
    (bc_one (Pu.S.cd (s_append 2 (e_op op_addA opd_add (E.ec (e_v 1)) (E.ec (e_v 5))) (hb := fun _ _ ho he => pe_bm PySem.F.plainAttrs_list PySem.F.slot_list_append PySem.F.type_list_append mt_append ho (pa_cons he pa_nil))))))))) PassesOwn.never rfl)
    (bc_frz 2 (bc_frz 3 (bc_one (sc_ret (Pu.E.cd (e_tuple (E.ec (e_v 3)) (by rfl) T.n_tuple (by decide +kernel))))))))))) (Nat.le_of_ble_eq_true rfl))
theorem ok__law_apart (T : Tx K mg base) : FnOk P w K mg base CX0 1 T.a__law_apart T.d__law_apart ["_law_one", "_law_other"] (Sf false 2 wp__law_apart) :=
  fn_ok (p := P__law_apart) (k := 0) T.F__law_apart sc__law_apart (fun _ _ _ _ _ _ hr => (b_one (s_ret (E.toB (e_op op_addA opd_add (E.ec (e_callB call_abs cd_abs (by rfl) T.n_abs (by decide +kernel) (a_cons (l := false) (E.toB (e_op op_sub opd_sub (E.toB (e_ix (E.ec (e_v 0)) (E.ec e_int))) (E.toB (e_ix (E.ec (e_v 1)) (E.ec e_int))))) a_nil))) (E.ec (e_callB call_abs cd_abs (by rfl) T.n_abs (by decide +kernel) (a_cons (l := false) (E.toB (e_op op_sub opd_sub (E.toB (e_ix (E.ec (e_v 0)) (E.ec e_int))) (E.toB (e_ix (E.ec (e_v 1)) (E.ec e_int))))) a_nil))))))))
theorem ok__law_above (T : Tx K mg base) : FnOk P w K mg base CX0 1 T.a__law_above T.d__law_above ["_law_many", "_law_joining_here"] (Sf false 2 wp__law_above) :=
  fn_ok (p := P__law_above) (k := 0) T.F__law_above sc__law_above (fun _ _ _ _ _ _ hr => (b_cons (s_own (i := 2) (e_op op_rep opd_rep (E.ec (E.fe (e_lst (a_cons (l := true) e_non a_nil)))) (E.ec (e_op op_sub opd_sub (E.toB (e_op op_mul opd_mul (E.toB e_int) (E.toB (e_v 0)))) (E.toB e_int)))) sc__law_above.nd rfl (Or.inl rfl))
    (b_cons (s_for (i_range1 (a_cons (l := false) (E.toB (e_callB call_lenA cd_len (by rfl) T.n_len (by decide +kernel) (a_cons (l := false) (E.toB (e_v 1)) a_nil))) a_nil) (by rfl) T.n_range) (g_name (i := 3) sc__law_above.nd rfl (.inl rfl))
    (b_one (s_for (i_seq (e_ix (E.ec (e_v 1)) (E.ec (e_v 3)))) (g_name (i := 4) sc__law_above.nd rfl (.inl rfl))
    (b_one (s_put 2 (e_op op_addA opd_add (E.ec (e_v 0)) (E.ec (e_v 3))) (E.toB (e_v 4)))) PassesOwn.never rfl)) PassesOwn.never rfl)
    (b_one (s_retO 2)))))
theorem ok__law_side (T : Tx K mg base) : FnOk P w K mg base CX0 1 T.a__law_side T.d__law_side ["_law_above_here", "_law_one", "_law_other"] (Sf false 3 wp__law_side) :=
  fn_ok (p := P__law_side) (k := 0) T.F__law_side sc__law_side (fun _ _ _ _ _ _ hr => (b_cons (s_own (i := 3) (e_lst (a_cons (l := true) (e_v 2) a_nil)) sc__law_side.nd rfl (Or.inl rfl))
    (b_cons (s_while (t_cmp op_isNA (OpD.eb opd_isN) (E.toB (e_ix (E.ec (e_v 0)) (E.ec (e_ix (e_o 3) (E.ec (e_neg (E.toB e_int))))))) (E.toB e_non) (nomark _))
    (b_one (s_append 3 (e_ix (E.ec (e_v 0)) (E.ec (e_ix (e_o 3) (E.ec (e_neg (E.toB e_int)))))) (hb := fun _ _ ho he => pe_bm PySem.F.plainAttrs_list PySem.F.slot_list_append PySem.F.type_list_append mt_append ho (pa_cons he pa_nil)))) PassesOwn.never)
    (b_frz 3 (b_cons (s_own (i := 4) (e_lst a_nil) sc__law_side.nd rfl (Or.inl rfl))
    (b_cons (s_while (t_cmp op_notIn_seq (OpD.eb (opd_in (neg := true))) (E.toB (e_v 1)) (E.toB (e_v 3)) (by rfl))
    (b_cons (s_append 4 (e_v 1) (hb := fun _ _ ho he => pe_bm PySem.F.plainAttrs_list PySem.F.slot_list_append PySem.F.type_list_append mt_append ho (pa_cons he pa_nil)))
    (b_one (s_set (i := 1) (e_ix (E.ec (e_v 0)) (E.ec (e_v 1))) sc__law_side.nd rfl (Or.inl rfl)))) PassesOwn.never)
    (b_one (s_retO 4))))))))
theorem ok__law_is_from (T : Tx K mg base) : FnOk P w K mg base CX0 1 T.a__law_is_from T.d__law_is_from ["_law_thing", "_law_low"] (Sf false 2 wp__law_is_from) :=
  fn_ok (p := P__law_is_from) (k := 0) T.F__law_is_from sc__law_is_from (fun _ _ _ _ _ _ hr => (b_one (s_ret (E.toB (e_and (E.toB (e_callB call_isi cd_isi (by rfl) T.n_isinstance (by decide +kernel) (a_cons (l := false) (E.toB (e_v 0)) (a_cons (l := false) (E.toB (e_ty (n := "int") (by rfl) T.n_int (by decide +kernel))) a_nil)))) (e_and (E.toB (e_not (E.toB (e_callB call_isi cd_isi (by rfl) T.n_isinstance (by decide +kernel) (a_cons (l := false) (E.toB (e_v 0)) (a_cons (l := false) (E.toB (e_ty (n := "bool") (by rfl) T.n_bool (by decide +kernel))) a_nil)))))) (e_one (e_cmp op_ge opd_ge (E.toB (e_v 0)) (E.toB (e_v 1)) (nomark _)))))))))
theorem ok__law_is_row (T : Tx K mg base) : FnOk P w K mg base CX0 2 T.a__law_is_row T.d__law_is_row ["_law_many", "_law_gap_here", "_law_thing"] (Sf false 3 wp__law_is_row) :=
  fn_ok (p := P__law_is_row) (k := 1) T.F__law_is_row sc__law_is_row (fun _ _ _ _ _ _ hr => (b_cons (s_if (w_t (w_or (t_not (t_val (E.toB (e_callB call_isi cd_isi (by rfl) T.n_isinstance (by decide +kernel) (a_cons (l := false) (E.toB (e_v 2)) (a_cons (l := false) (E.toB (e_ty (n := "tuple") (by rfl) T.n_tuple (by decide +kernel))) a_nil)))))) (w_or (t_cmp (op_neD hr.units) (OpD.eb opd_ne) (E.toB (e_callB call_lenA cd_len (by rfl) T.n_len (by decide +kernel) (a_cons (l := false) (E.toB (e_v 2)) a_nil))) (E.toB e_int) (nomark _)) (w_or1 (t_not (t_val (E.toB (e_callB call_isi cd_isi (by rfl) T.n_isinstance (by decide +kernel) (a_cons (l := false) (E.toB (e_ix (E.ec (e_v 2)) (E.ec e_int))) (a_cons (l := false) (E.toB (e_ty (n := "str") (by rfl) T.n_str (by decide +kernel))) a_nil)))))))))) (b_one (s_ret (E.toB e_bl))) b_nil)
    (b_cons (s_if (w_t (w_or (t_not (t_val (E.toB (e_call (mo := .e) (ok__law_is_from T) (hr.mono (by decide)) rfl T.g__law_is_from T.F__law_is_from.kp T.b__law_is_from (a_cons (l := true) (e_ix (E.ec (e_v 2)) (E.ec e_int)) (a_cons (l := true) e_int a_nil)) (.inl rfl))))) (w_or (t_not (t_val (E.toB (e_call (mo := .e) (ok__law_is_from T) (hr.mono (by decide)) rfl T.g__law_is_from T.F__law_is_from.kp T.b__law_is_from (a_cons (l := true) (e_ix (E.ec (e_v 2)) (E.ec e_int)) (a_cons (l := true) e_int a_nil)) (.inl rfl))))) (w_or1 (t_not (t_val (E.toB (e_call (mo := .e) (ok__law_is_from T) (hr.mono (by decide)) rfl T.g__law_is_from T.F__law_is_from.kp T.b__law_is_from (a_cons (l := true) (e_ix (E.ec (e_v 2)) (E.ec e_int)) (a_cons (l := true) e_int a_nil)) (.inl rfl))))))))) (b_one (s_ret (E.toB e_bl))) b_nil)
    (b_cons (s_if (w_t (w_or (t_cmp op_ge (OpD.eb opd_ge) (E.toB (e_ix (E.ec (e_v 2)) (E.ec e_int))) (E.toB (e_v 0)) (nomark _)) (w_or (t_cmp op_ge (OpD.eb opd_ge) (E.toB (e_ix (E.ec (e_v 2)) (E.ec e_int))) (E.toB (e_v 0)) (nomark _)) (w_or1 (t_cmp (op_eqD hr.units) (OpD.eb opd_eq) (E.toB (e_ix (E.ec (e_v 2)) (E.ec e_int))) (E.toB (e_ix (E.ec (e_v 2)) (E.ec e_int))) (nomark _)))))) (b_one (s_ret (E.toB e_bl))) b_nil)
    (b_one (s_ret (E.toB (e_or (E.toB (e_and (E.toB (e_cmp (op_eqD hr.units) opd_eq (E.toB (e_ix (E.ec (e_v 2)) (E.ec e_int))) (E.toB e_str) (nomark _))) (e_one (e_cmp op_lt opd_lt (E.toB (e_ix (E.ec (e_v 2)) (E.ec e_int))) (E.toB (e_ix (E.ec (e_v 2)) (E.ec e_int))) (nomark _))))) (e_one (e_and (E.toB (e_cmp (op_eqD hr.units) opd_eq (E.toB (e_ix (E.ec (e_v 2)) (E.ec e_int))) (E.toB e_str) (nomark _))) (e_one (e_cmp op_isNA opd_isN (E.toB (e_v 1)) (E.toB e_non) (nomark _)))))))))))))
theorem ok__law_bears (T : Tx K mg base) : FnOk P w K mg base CX0 2 T.a__law_bears T.d__law_bears ["_law_many", "_law_joining_here", "_law_rows_here"] (Sf false 3 wp__law_bears) :=
  fn_ok (p := P__law_bears) (k := 1) T.F__law_bears sc__law_bears (fun _ _ _ _ _ _ hr => (b_cons (s_set (i := 3) (e_call (mo := .e) (ok__law_above T) (hr.mono (by decide)) rfl T.g__law_above T.F__law_above.kp T.b__law_above (a_cons (l := true) (e_v 0) (a_cons (l := true) (e_v 1) a_nil)) (.inl rfl)) sc__law_bears.nd rfl (Or.inl rfl))
    (b_cons (s_own (i := 4) (e_op op_rep opd_rep (E.ec (E.fe (e_lst (a_cons (l := true) e_int a_nil)))) (E.ec (e_op op_sub opd_sub (E.toB (e_op op_mul opd_mul (E.toB e_int) (E.toB (e_v 0)))) (E.toB e_int)))) sc__law_bears.nd rfl (Or.inl rfl))
    (b_cons (s_for (i_seq (e_v 2)) (g_tup (by rfl) (gs_cons (g_name (i := 5) sc__law_bears.nd rfl (.inl rfl)) (gs_cons (g_name (i := 6) sc__law_bears.nd rfl (.inl rfl)) (gs_cons (g_name (i := 7) sc__law_bears.nd rfl (.inl rfl)) (gs_cons (g_name (i := 8) sc__law_bears.nd rfl (.inl rfl)) gs_nil)))))
    (b_cons (s_for (i_seq (e_call (mo := .e) (ok__law_side T) (hr.mono (by decide)) rfl T.g__law_side T.F__law_side.kp T.b__law_side (a_cons (l := true) (e_v 3) (a_cons (l := true) (e_v 6) (a_cons (l := true) (e_v 7) a_nil))) (.inl rfl))) (g_name (i := 9) sc__law_bears.nd rfl (.inl rfl))
    (b_one (s_put 4 (e_op op_addA opd_add (E.ec (e_ix (e_o 4) (E.ec (e_v 9)))) (E.ec (e_ix (E.ec (E.fe (e_lst (a_cons (l := true) (e_v 8) (a_cons (l := true) (e_op op_sub opd_sub (E.toB e_int) (E.toB (e_v 8))) a_nil))))) (E.ec (e_callTy call_int1 cd_int (by rfl) T.n_int (by decide +kernel) (a_cons (l := false) (E.toB (e_cmp (op_eqD hr.units) opd_eq (E.toB (e_v 5)) (E.toB e_str) (nomark _))) a_nil)))))) (E.toB (e_v 9)))) PassesOwn.never rfl)
    (b_one (s_for (i_seq (e_call (mo := .e) (ok__law_side T) (hr.mono (by decide)) rfl T.g__law_side T.F__law_side.kp T.b__law_side (a_cons (l := true) (e_v 3) (a_cons (l := true) (e_v 7) (a_cons (l := true) (e_v 6) a_nil))) (.inl rfl))) (g_name (i := 9) sc__law_bears.nd rfl (.inl rfl))
    (b_one (s_put 4 (e_op op_addA opd_add (E.ec (e_ix (e_o 4) (E.ec (e_v 9)))) (E.ec (e_v 8))) (E.toB (e_v 9)))) PassesOwn.never rfl))) PassesOwn.never rfl)
    (b_one (s_retO 4))))))
theorem ok__law_lowest (T : Tx K mg base) : FnOk P w K mg base CX0 1 T.a__law_lowest T.d__law_lowest ["_law_top", "_law_bottom"] (Sf false 2 wp__law_lowest) :=
  fn_ok (p := P__law_lowest) (k := 0) T.F__law_lowest sc__law_lowest (fun _ _ _ _ _ _ hr => (b_cons (s_par (i := 2) (j := 3) (a_cons (l := true) (e_callB call_abs cd_abs (by rfl) T.n_abs (by decide +kernel) (a_cons (l := false) (E.toB (e_v 0)) a_nil)) (a_cons (l := true) (e_v 1) a_nil)) (by rfl) sc__law_lowest.nd rfl rfl (by decide) rfl rfl (by rfl))
    (b_cons (s_while (t_cmp op_gt (OpD.eb opd_gt) (E.toB (e_v 3)) (E.toB e_int) (nomark _))
    (b_one (s_par (i := 2) (j := 3) (a_cons (l := true) (e_v 3) (a_cons (l := true) (e_op op_mod opd_mod (E.toB (e_v 2)) (E.toB (e_v 3))) a_nil)) (by rfl) sc__law_lowest.nd rfl rfl (by decide) rfl rfl (by rfl))) PassesOwn.never)
    (b_one (s_ret (E.toB (e_tup (a_cons (l := true) (e_op op_fdivW opd_divW (E.toB (e_v 0)) (E.toB (e_v 2))) (a_cons (l := true) (e_op op_fdivW opd_divW (E.toB (e_v 1)) (E.toB (e_v 2))) a_nil)))))))))
theorem ok__law_due (T : Tx K mg base) : FnOk P w K mg base CX0 3 T.a__law_due T.d__law_due ["_law_ends_here", "_law_joining_here", "_law_gap_here", "_law_thing"] (Sf false 4 wp__law_due) :=
  fn_ok (p := P__law_due) (k := 2) T.F__law_due sc__law_due (fun _ _ _ _ _ _ hr => (b_cons (s_if (w_t (w_or (t_not (t_val (E.toB (e_callB call_isi cd_isi (by rfl) T.n_isinstance (by decide +kernel) (a_cons (l := false) (E.toB (e_v 3)) (a_cons (l := false) (E.toB (e_ty (n := "tuple") (by rfl) T.n_tuple (by decide +kernel))) a_nil)))))) (w_or (t_cmp (op_neD hr.units) (OpD.eb opd_ne) (E.toB (e_callB call_lenA cd_len (by rfl) T.n_len (by decide +kernel) (a_cons (l := false) (E.toB (e_v 3)) a_nil))) (E.toB e_int) (nomark _)) (w_or1 (t_not (t_val (E.toB (e_call (mo := .e) (ok__law_is_from T) (hr.mono (by decide)) rfl T.g__law_is_from T.F__law_is_from.kp T.b__law_is_from (a_cons (l := true) (e_ix (E.ec (e_v 3)) (E.ec e_int)) (a_cons (l := true) e_int a_nil)) (.inl rfl))))))))) (b_one (s_ret (E.toB e_non))) b_nil)
    (b_cons (s_if (t_not (t_val (E.toB (e_callB call_isi cd_isi (by rfl) T.n_isinstance (by decide +kernel) (a_cons (l := false) (E.toB (e_ix (E.ec (e_v 3)) (E.ec e_int))) (a_cons (l := false) (E.toB (e_ty (n := "tuple") (by rfl) T.n_tuple (by decide +kernel))) a_nil)))))) (b_one (s_ret (E.toB e_non))) b_nil)
    (b_cons (s_if (t_cmp (op_neD hr.units) (OpD.eb opd_ne) (E.toB (e_lc (own := [("_law_row", 4)]) (i_seq (e_ix (E.ec (e_v 3)) (E.ec e_int))) (fun _ _ _ _ _ => (g_name (i := 4) sc__law_due.nd rfl (.inl rfl))) (fun _ _ _ _ _ => (ts_one (t_not (t_val (E.toB (e_call (mo := .e) (ok__law_is_row T) (hr.mono (by decide)) rfl T.g__law_is_row T.F__law_is_row.kp T.b__law_is_row (a_cons (l := true) (e_callB call_lenA cd_len (by rfl) T.n_len (by decide +kernel) (a_cons (l := false) (E.toB (e_v 0)) a_nil)) (a_cons (l := true) (e_v 2) (a_cons (l := true) (e_v 4) a_nil))) (.inl rfl))))))) (fun _ _ _ _ _ => (e_v 4)) rfl sc__law_due.nd (blkOk_by (N := N__law_due) (sc := defScope s__law_due) (by decide +kernel)) (fun _ h => h) rg_name)) (E.toB (e_lst a_nil)) (nomark _)) (b_one (s_ret (E.toB e_non))) b_nil)
    (b_cons (s_if (t_cmp (op_neD hr.units) (OpD.eb opd_ne) (E.toB (e_lc (own := [("_law_one", 5)]) (i_seq (e_call (mo := .e) (ok__law_bears T) (hr.mono (by decide)) rfl T.g__law_bears T.F__law_bears.kp T.b__law_bears (a_cons (l := true) (e_callB call_lenA cd_len (by rfl) T.n_len (by decide +kernel) (a_cons (l := false) (E.toB (e_v 0)) a_nil)) (a_cons (l := true) (e_v 1) (a_cons (l := true) (e_ix (E.ec (e_v 3)) (E.ec e_int)) a_nil))) (.inl rfl))) (fun _ _ _ _ _ => (g_name (i := 5) sc__law_due.nd rfl (.inl rfl))) (fun _ _ _ _ _ => (ts_one (t_cmp op_gt (OpD.eb opd_gt) (E.toB (e_v 5)) (E.toB (e_ix (E.ec (e_v 3)) (E.ec e_int))) (nomark _)))) (fun _ _ _ _ _ => (e_v 5)) rfl sc__law_due.nd (blkOk_by (N := N__law_due) (sc := defScope s__law_due) (by decide +kernel)) (fun _ h => h) rg_name)) (E.toB (e_lst a_nil)) (nomark _)) (b_one (s_ret (E.toB e_non))) b_nil)
    (b_cons (s_set (i := 6) e_int sc__law_due.nd rfl (Or.inl rfl))
    (b_cons (s_for (i_seq (e_ix (E.ec (e_v 3)) (E.ec e_int))) (g_tup (by rfl) (gs_cons (g_name (i := 7) sc__law_due.nd rfl (.inl rfl)) (gs_cons (g_name (i := 5) sc__law_due.nd rfl (.inl rfl)) (gs_cons (g_name (i := 8) sc__law_due.nd rfl (.inl rfl)) (gs_cons (g_name (i := 9) sc__law_due.nd rfl (.inl rfl)) gs_nil)))))
    (b_one (s_if (t_cmp (op_eqD hr.units) (OpD.eb opd_eq) (E.toB (e_v 7)) (E.toB e_str) (nomark _)) (b_one (s_set (i := 6) (e_op op_addA opd_add (E.ec (e_v 6)) (E.ec (e_op op_mul opd_mul (E.toB (e_v 9)) (E.toB (e_call (mo := .e) (ok__law_apart T) (hr.mono (by decide)) rfl T.g__law_apart T.F__law_apart.kp T.b__law_apart (a_cons (l := true) (e_ix (E.ec (e_v 0)) (E.ec (e_v 5))) (a_cons (l := true) (e_ix (E.ec (e_v 0)) (E.ec (e_v 8))) a_nil)) (.inl rfl)))))) sc__law_due.nd rfl (Or.inl rfl))) (b_cons (s_set (i := 10) (e_op op_sub opd_sub (E.toB (e_ix (E.ec (e_ix (E.ec (e_v 0)) (E.ec (e_v 8)))) (E.ec e_int))) (E.toB (e_ix (E.ec (e_ix (E.ec (e_v 0)) (E.ec (e_v 5)))) (E.ec e_int)))) sc__law_due.nd rfl (Or.inl rfl))
    (b_one (s_set (i := 6) (e_op op_sub opd_sub (E.toB (e_v 6)) (E.toB (e_op op_mul opd_mul (E.toB (e_v 9)) (E.toB (e_op op_addA opd_add (E.ec (e_v 2)) (E.ec (e_v 10))))))) sc__law_due.nd rfl (Or.inl rfl)))))) PassesOwn.never rfl)
    (b_one (s_ret (E.toB (e_call (mo := .e) (ok__law_lowest T) (hr.mono (by decide)) rfl T.g__law_lowest T.F__law_lowest.kp T.b__law_lowest (a_cons (l := true) (e_v 6) (a_cons (l := true) (e_ix (E.ec (e_v 3)) (E.ec e_int)) a_nil)) (.inl rfl))))))))))))
theorem ok__law_told (T : Tx K mg base) : FnOk P w K mg base CX0 8 T.a__law_told T.d__law_told ["_law_ends_here", "_law_joining_here", "_law_gap_here", "_law_thing", "_law_due_here"] (Sf false 5 wp__law_told) :=
  fn_ok (p := P__law_told) (k := 7) T.F__law_told sc__law_told (fun _ _ _ _ _ _ hr => (b_cons (s_set (i := 5) (e_call (mo := .e) (ok_times_shown T) (hr.mono (by decide)) rfl T.g_times_shown T.F_times_shown.kp T.b_times_shown (a_cons (l := true) (e_v 0) (a_cons (l := true) (e_v 1) (a_cons (l := true) (e_v 2) (a_cons (l := true) (e_v 3) a_nil)))) (.inl rfl)) sc__law_told.nd rfl (Or.inl rfl))
    (b_cons (s_if (t_cmp op_isA (OpD.eb opd_is) (E.toB (e_v 4)) (E.toB e_non) (nomark _)) (b_one (s_ret (E.toB (e_cmp op_isA opd_is (E.toB (e_v 5)) (E.toB e_non) (nomark _))))) b_nil)
    (b_cons (s_if (w_t (w_or (t_not (t_val (E.toB (e_callB call_isi cd_isi (by rfl) T.n_isinstance (by decide +kernel) (a_cons (l := false) (E.toB (e_v 5)) (a_cons (l := false) (E.toB (e_ty (n := "tuple") (by rfl) T.n_tuple (by decide +kernel))) a_nil)))))) (w_or1 (t_cmp (op_neD hr.units) (OpD.eb opd_ne) (E.toB (e_callB call_lenA cd_len (by rfl) T.n_len (by decide +kernel) (a_cons (l := false) (E.toB (e_v 5)) a_nil))) (E.toB e_int) (nomark _))))) (b_one (s_ret (E.toB e_bl))) b_nil)
    (b_cons (s_setLc (i := 6) (own := [("_law_one", 7), ("_law_low", 8)]) (i_zip (e_v 5) (e_v 4) (by rfl) T.n_zip) (fun _ _ _ _ _ => (g_tup (by rfl) (gs_cons (g_name (i := 7) sc__law_told.nd rfl (.inl rfl)) (gs_cons (g_name (i := 8) sc__law_told.nd rfl (.inl rfl)) gs_nil)))) (fun _ _ _ _ _ => ts_nil) (fun _ _ _ _ _ => (e_call (mo := .e) (ok__law_is_from T) (hr.mono (by decide)) rfl T.g__law_is_from T.F__law_is_from.kp T.b__law_is_from (a_cons (l := true) (e_v 7) (a_cons (l := true) (e_v 8) a_nil)) (.inl rfl))) rfl sc__law_told.nd rfl rfl (sw_true rfl rfl rfl (by decide +kernel)) (blkOk_by (N := N__law_told) (sc := defScope s__law_told) (by decide +kernel)) (fun _ h => h) (rg_tup (rgs_cons rg_name (rgs_cons rg_name rgs_nil))))
    (b_one (s_ret (E.toB (e_and (E.toB (e_cmp (op_eqD hr.units) opd_eq (E.toB (e_v 6)) (E.toB (e_lst (a_cons (l := true) e_bl (a_cons (l := true) e_bl a_nil)))) (nomark _))) (e_one (e_cmp (op_eqD hr.units) opd_eq (E.toB (e_v 5)) (E.toB (e_v 4)) (nomark _))))))))))))
theorem ok__law_gap (T : Tx K mg base) : FnOk P w K mg base CX0 2 T.a__law_gap T.d__law_gap ["_law_well_here"] (Sfc false 1 3 wp__law_gap) :=
  fn_okC (p := P__law_gap) (k := 1) T.F__law_gap sc__law_gap (fun _ _ _ _ _ _ hr => bc_le (bc_cons (sc_set (i := 1) (ec_calld (mo := .e) (okS__law_draw T) (hr.mono (by decide)) rfl T.g__law_draw T.F__law_draw.kp T.b__law_draw (ac_cons (l := true) (Pu.E.cd (e_v 0)) (ac_cons (l := true) (Pu.E.cd e_int) ac_nil)) (.inl rfl)) sc__law_gap.nd rfl (Or.inl rfl))
    (bc_one (sc_ret (ec_ix (Ec.ec (Ec.fe (ec_lst (ac_cons (l := true) (Pu.E.cd e_non) (ac_cons (l := true) (Pu.E.cd e_int) (ac_cons (l := true) (Pu.E.cd e_int) (ac_cons (l := true) (ec_calld (mo := .e) (okS__law_draw T) (hr.mono (by decide)) rfl T.g__law_draw T.F__law_draw.kp T.b__law_draw (ac_cons (l := true) (Pu.E.cd (e_v 0)) (ac_cons (l := true) (Pu.E.cd e_int) ac_nil)) (.inl rfl)) (ac_cons (l := true) (Pu.E.cd (e_powC 10 7 10000000)) (ac_cons (l := true) (ec_calld (mo := .e) (okS__law_draw T) (hr.mono (by decide)) rfl T.g__law_draw T.F__law_draw.kp T.b__law_draw (ac_cons (l := true) (Pu.E.cd (e_v 0)) (ac_cons (l := true) (Pu.E.cd (e_powC 10 6 1000000)) ac_nil)) (.inl rfl)) ac_nil))))))))) (Ec.ec (Pu.E.cd (e_v 1))))))) (Nat.le_of_ble_eq_true rfl))
theorem ok__law_times (T : Tx K mg base) : FnOk P w K mg base CX0 2 T.a__law_times T.d__law_times ["_law_well_here", "_law_way"] (Sfc false 2 3 wp__law_times) :=
  fn_okC (p := P__law_times) (k := 1) T.F__law_times sc__law_times (fun _ _ _ _ _ _ hr => bc_le (bc_cons (sc_if (Pu.T.cd (t_cmp (op_eqD hr.units) (OpD.eb opd_eq) (E.toB (e_v 1)) (E.toB e_int) (nomark _))) (bc_one (sc_ret (ec_op op_addA opd_add (Ec.ec (Pu.E.cd e_int)) (Ec.ec (ec_calld (mo := .e) (okS__law_draw T) (hr.mono (by decide)) rfl T.g__law_draw T.F__law_draw.kp T.b__law_draw (ac_cons (l := true) (Pu.E.cd (e_v 0)) (ac_cons (l := true) (Pu.E.cd e_int) ac_nil)) (.inl rfl)))))) bc_nil)
    (bc_one (sc_ret (ec_ix (Ec.ec (Ec.fe (ec_lst (ac_cons (l := true) (Pu.E.cd e_int) (ac_cons (l := true) (Pu.E.cd (e_powC 10 6 1000000)) (ac_cons (l := true) (ec_op op_addA opd_add (Ec.ec (Pu.E.cd e_int)) (Ec.ec (ec_calld (mo := .e) (okS__law_draw T) (hr.mono (by decide)) rfl T.g__law_draw T.F__law_draw.kp T.b__law_draw (ac_cons (l := true) (Pu.E.cd (e_v 0)) (ac_cons (l := true) (Pu.E.cd (e_powC 10 6 1000000)) ac_nil)) (.inl rfl)))) ac_nil)))))) (Ec.ec (ec_calld (mo := .e) (okS__law_draw T) (hr.mono (by decide)) rfl T.g__law_draw T.F__law_draw.kp T.b__law_draw (ac_cons (l := true) (Pu.E.cd (e_v 0)) (ac_cons (l := true) (Pu.E.cd e_int) ac_nil)) (.inl rfl))))))) (Nat.le_of_ble_eq_true rfl))
theorem ok__law_rows (T : Tx K mg base) : FnOk P w K mg base CX0 3 T.a__law_rows T.d__law_rows ["_law_well_here", "_law_many", "_law_gap_here"] (Sfc false 3 600003 wp__law_rows) :=
  fn_okC (p := P__law_rows) (k := 2) T.F__law_rows sc__law_rows (fun _ _ _ _ _ _ hr => bc_le (bc_cons (sc_set (i := 3) (ec_ix (Ec.ec (Ec.fe (Pu.E.cd (e_lst (a_cons (l := true) e_int (a_cons (l := true) e_int (a_cons (l := true) e_int (a_cons (l := true) e_int a_nil)))))))) (Ec.ec (ec_calld (mo := .e) (okS__law_draw T) (hr.mono (by decide)) rfl T.g__law_draw T.F__law_draw.kp T.b__law_draw (ac_cons (l := true) (Pu.E.cd (e_v 0)) (ac_cons (l := true) (Pu.E.cd e_int) ac_nil)) (.inl rfl)))) sc__law_rows.nd rfl (Or.inl rfl))
    (bc_cons (sc_set (i := 4) (ec_op op_fdiv opd_div (Ec.toB (ec_calld (mo := .e) (okS__law_draw T) (hr.mono (by decide)) rfl T.g__law_draw T.F__law_draw.kp T.b__law_draw (ac_cons (l := true) (Pu.E.cd (e_v 0)) (ac_cons (l := true) (Pu.E.cd e_int) ac_nil)) (.inl rfl))) (Ec.toB (Pu.E.cd e_int))) sc__law_rows.nd rfl (Or.inl rfl))
    (bc_cons (Pu.S.cd (s_own (i := 5) (e_lst a_nil) sc__law_rows.nd rfl (Or.inl rfl)))
    (bc_cons (sc_for (ic_range1 (ac_cons (l := false) (Ec.toB (ec_op op_mul opd_mul (Ec.toB (ec_calld (mo := .e) (okS__law_draw T) (hr.mono (by decide)) rfl T.g__law_draw T.F__law_draw.kp T.b__law_draw (ac_cons (l := true) (Pu.E.cd (e_v 0)) (ac_cons (l := true) (Pu.E.cd (e_v 3)) ac_nil)) (.inl rfl))) (Ec.toB (Pu.E.cd (e_callTy call_int1 cd_int (by rfl) T.n_int (by decide +kernel) (a_cons (l := false) (E.toB (e_cmp op_gt opd_gt (E.toB (e_v 1)) (E.toB e_int) (nomark _))) a_nil)))))) ac_nil) (by rfl) T.n_range) (g_name (i := 6) sc__law_rows.nd rfl (.inl rfl))
    (bc_cons (sc_set (i := 7) (ec_ix (Ec.ec (Ec.fe (Pu.E.cd (e_lst (a_cons (l := true) e_str (a_cons (l := true) e_str a_nil)))))) (Ec.ec (ec_op op_mul opd_mul (Ec.toB (ec_calld (mo := .e) (okS__law_draw T) (hr.mono (by decide)) rfl T.g__law_draw T.F__law_draw.kp T.b__law_draw (ac_cons (l := true) (Pu.E.cd (e_v 0)) (ac_cons (l := true) (Pu.E.cd e_int) ac_nil)) (.inl rfl))) (Ec.toB (Pu.E.cd (e_callTy call_int1 cd_int (by rfl) T.n_int (by decide +kernel) (a_cons (l := false) (E.toB (e_cmp op_isNA opd_isN (E.toB (e_v 2)) (E.toB e_non) (nomark _))) a_nil))))))) sc__law_rows.nd rfl (Or.inl rfl))
    (bc_cons (sc_set (i := 8) (ec_calld (mo := .e) (okS__law_draw T) (hr.mono (by decide)) rfl T.g__law_draw T.F__law_draw.kp T.b__law_draw (ac_cons (l := true) (Pu.E.cd (e_v 0)) (ac_cons (l := true) (Pu.E.cd (e_v 1)) ac_nil)) (.inl rfl)) sc__law_rows.nd rfl (Or.inl rfl))
    (bc_cons (sc_set (i := 9) (ec_op op_mod opd_mod (Ec.toB (ec_op op_addA opd_add (Ec.ec (Pu.E.cd (e_op op_addA opd_add (E.ec (e_v 8)) (E.ec e_int)))) (Ec.ec (ec_calld (mo := .e) (okS__law_draw T) (hr.mono (by decide)) rfl T.g__law_draw T.F__law_draw.kp T.b__law_draw (ac_cons (l := true) (Pu.E.cd (e_v 0)) (ac_cons (l := true) (Pu.E.cd (e_op op_sub opd_sub (E.toB (e_v 1)) (E.toB e_int))) ac_nil)) (.inl rfl))))) (Ec.toB (Pu.E.cd (e_v 1)))) sc__law_rows.nd rfl (Or.inl rfl))
    (bc_cons (Pu.S.cd (s_if (t_cmp (op_eqD hr.units) (OpD.eb opd_eq) (E.toB (e_v 7)) (E.toB e_str) (nomark _)) (b_one (s_asg (E.fe (e_callB cr_sortedI cd_sorted (by rfl) T.n_sorted (by decide +kernel) (a_cons (l := false) (E.toB (e_lst (a_cons (l := true) (e_v 8) (a_cons (l := true) (e_v 9) a_nil)))) a_nil))) (g_lst (by rfl) (gs_cons (g_name (i := 8) sc__law_rows.nd rfl (.inl rfl)) (gs_cons (g_name (i := 9) sc__law_rows.nd rfl (.inl rfl)) gs_nil))))) b_nil))
    (bc_one (sc_append 5 (ec_tup (ac_cons (l := true) (Pu.E.cd (e_v 7)) (ac_cons (l := true) (Pu.E.cd (e_v 8)) (ac_cons (l := true) (Pu.E.cd (e_v 9)) (ac_cons (l := true) (ec_calld (mo := .e) (ok__law_times T) (hr.mono (by decide)) rfl T.g__law_times T.F__law_times.kp T.b__law_times (ac_cons (l := true) (Pu.E.cd (e_v 0)) (ac_cons (l := true) (Pu.E.cd (e_v 4)) ac_nil)) (.inl rfl)) ac_nil))))) (hb := fun _ _ ho he => pe_bm PySem.F.plainAttrs_list PySem.F.slot_list_append PySem.F.type_list_append mt_append ho (pa_cons he pa_nil)))))))) PassesOwn.never rfl)
    (bc_frz 5 (bc_one (sc_ret (Pu.E.cd (e_tuple (E.ec (e_v 5)) (by rfl) T.n_tuple (by decide +kernel)))))))))) (Nat.le_of_ble_eq_true rfl))
theorem ok__law_order (T : Tx K mg base) : FnOk P w K mg base CX0 2 T.a__law_order T.d__law_order ["_law_well_here", "_law_many"] (Sfc false 2 100000 wp__law_order) :=
  fn_okC (p := P__law_order) (k := 1) T.F__law_order sc__law_order (fun _ _ _ _ _ _ hr => bc_le (bc_cons (Pu.S.cd (s_own (i := 2) (e_lstRg1 (E.toB (e_v 1)) rfl (by rfl) T.n_list (by rfl) T.n_range) sc__law_order.nd rfl (Or.inr rfl)))
    (bc_one (sc_retLcM (own := [("_law_k", 3)]) (ic_range1 (ac_cons (l := false) (Ec.toB (Pu.E.cd (e_v 1))) ac_nil) (by rfl) T.n_range) (fun _ _ _ _ _ => (g_name (i := 3) sc__law_order.nd rfl (.inl rfl))) (fun _ _ _ _ _ => (mkc_pop 2 (Ec.toB (ec_calld (mo := .e) (okS__law_draw T) (hr.mono (by decide)) rfl T.g__law_draw T.F__law_draw.kp T.b__law_draw (ac_cons (l := true) (Pu.E.cd (e_v 0)) (ac_cons (l := true) (Pu.E.cd (e_callB call_lenA cd_len (by rfl) T.n_len (by decide +kernel) (a_cons (l := false) (E.toB (e_o 2)) a_nil))) ac_nil)) (.inl rfl))) (fun _ _ ho he => pe_bm PySem.F.plainAttrs_list PySem.F.slot_list_pop PySem.F.type_list_pop mt_popAt ho (pa_cons he pa_nil)))) rfl sc__law_order.nd (blkOk_by (N := N__law_order) (sc := defScope s__law_order) (by decide +kernel)) (fun _ h => h) rg_name))) (Nat.le_of_ble_eq_true rfl))
theorem ok__law_numbered (T : Tx K mg base) : FnOk P w K mg base CX0 1 T.a__law_numbered T.d__law_numbered ["_law_ends_here", "_law_joining_here", "_law_rows_here", "_law_order_here"] (Sf false 4 wp__law_numbered) :=
  fn_ok (p := P__law_numbered) (k := 0) T.F__law_numbered sc__law_numbered (fun _ _ _ _ _ _ hr => (b_cons (s_set (i := 4) (E.fe (e_callTy (call_dictP rfl) cd_dictP (by rfl) T.n_dict (by decide +kernel) (a_cons (l := true) (E.fe (e_lc (own := [("_law_k", 5), ("_law_one", 6)]) (i_enum0 (e_v 3) (by rfl) T.n_enumerate) (fun _ _ _ _ _ => (g_tup (by rfl) (gs_cons (g_name (i := 5) sc__law_numbered.nd rfl (.inl rfl)) (gs_cons (g_name (i := 6) sc__law_numbered.nd rfl (.inl rfl)) gs_nil)))) (fun _ _ _ _ _ => ts_nil) (fun _ _ _ _ _ => (e_tup (a_cons (l := true) (e_v 6) (a_cons (l := true) (e_v 5) a_nil)))) rfl sc__law_numbered.nd (blkOk_by (N := N__law_numbered) (sc := defScope s__law_numbered) (by decide +kernel)) (fun _ h => h) (rg_tup (rgs_cons rg_name (rgs_cons rg_name rgs_nil))))) a_nil))) sc__law_numbered.nd rfl (Or.inr rfl))
    (b_cons (s_set (i := 7) (e_tuple (E.ec (E.fe (e_lc (own := [("_law_row", 9)]) (i_seq (e_v 1)) (fun _ _ _ _ _ => (g_name (i := 9) sc__law_numbered.nd rfl (.inl rfl))) (fun _ _ _ _ _ => ts_nil) (fun _ _ _ _ _ => (e_tuple (E.ec (E.fe (e_lc (own := [("_law_knot", 8)]) (i_seq (e_v 9)) (fun _ _ _ _ _ => (g_name (i := 8) sc__law_numbered.nd rfl (.inl rfl))) (fun _ _ _ _ _ => ts_nil) (fun _ _ _ _ _ => (e_dget2 (m := .e) (m' := .e) (hu_of hr) (E.ec (e_v 4)) (E.ec (e_v 8)) (e_v 8) ⟨rfl, rfl, rfl, rfl⟩)) rfl sc__law_numbered.nd (blkOk_by (by rfl)) (fun _ h => h) rg_name))) (by rfl) T.n_tuple (by decide +kernel))) rfl sc__law_numbered.nd (blkOk_by (N := N__law_numbered) (sc := defScope s__law_numbered) (by decide +kernel)) (fun _ h => h) rg_name))) (by rfl) T.n_tuple (by decide +kernel)) sc__law_numbered.nd rfl (Or.inl rfl))
    (b_cons (s_own (i := 10) (e_lst a_nil) sc__law_numbered.nd rfl (Or.inl rfl))
    (b_cons (s_for (i_seq (e_v 2)) (g_tup (by rfl) (gs_cons (g_name (i := 11) sc__law_numbered.nd rfl (.inl rfl)) (gs_cons (g_name (i := 6) sc__law_numbered.nd rfl (.inl rfl)) (gs_cons (g_name (i := 12) sc__law_numbered.nd rfl (.inl rfl)) (gs_cons (g_name (i := 13) sc__law_numbered.nd rfl (.inl rfl)) gs_nil)))))
    (b_cons (s_par (i := 6) (j := 12) (a_cons (l := true) (e_dgetO (hu_of hr) (E.ec (e_v 4)) (E.ec (e_v 6))) (a_cons (l := true) (e_dgetO (hu_of hr) (E.ec (e_v 4)) (E.ec (e_v 12))) a_nil)) (by rfl) sc__law_numbered.nd rfl rfl (by decide) rfl rfl (by rfl))
    (b_cons (s_if (t_cmp (op_eqD hr.units) (OpD.eb opd_eq) (E.toB (e_v 11)) (E.toB e_str) (nomark _)) (b_one (s_par (i := 6) (j := 12) (a_cons (l := true) (e_callB (call_minN rfl) cd_minN (by rfl) T.n_min (by decide +kernel) (a_cons (l := false) (E.toB (e_v 6)) (a_cons (l := false) (E.toB (e_v 12)) a_nil))) (a_cons (l := true) (e_callB (call_maxN rfl) cd_maxN (by rfl) T.n_max (by decide +kernel) (a_cons (l := false) (E.toB (e_v 6)) (a_cons (l := false) (E.toB (e_v 12)) a_nil))) a_nil)) (by rfl) sc__law_numbered.nd rfl rfl (by decide) rfl rfl (by rfl))) b_nil)
    (b_one (s_append 10 (e_tup (a_cons (l := true) (e_v 11) (a_cons (l := true) (e_v 6) (a_cons (l := true) (e_v 12) (a_cons (l := true) (e_v 13) a_nil))))) (hb := fun _ _ ho he => pe_bm PySem.F.plainAttrs_list PySem.F.slot_list_append PySem.F.type_list_append mt_append ho (pa_cons he pa_nil)))))) PassesOwn.never rfl)
    (b_frz 10 (b_one (s_ret (E.toB (e_tup (a_cons (l := true) (e_tuple (E.ec (E.fe (e_lc (own := [("_law_one", 6)]) (i_seq (e_v 3)) (fun _ _ _ _ _ => (g_name (i := 6) sc__law_numbered.nd rfl (.inl rfl))) (fun _ _ _ _ _ => ts_nil) (fun _ _ _ _ _ => (e_ix (E.ec (e_v 0)) (E.ec (e_v 6)))) rfl sc__law_numbered.nd (blkOk_by (N := N__law_numbered) (sc := defScope s__law_numbered) (by decide +kernel)) (fun _ h => h) rg_name))) (by rfl) T.n_tuple (by decide +kernel)) (a_cons (l := true) (e_v 7) (a_cons (l := true) (e_tuple (E.ec (e_v 10)) (by rfl) T.n_tuple (by decide +kernel)) a_nil)))))))))))))
theorem ok__law_parted (T : Tx K mg base) : FnOk P w K mg base CX0 1 T.a__law_parted T.d__law_parted ["_law_rows_here"] (Sf false 1 wp__law_parted) :=
  fn_ok (p := P__law_parted) (k := 0) T.F__law_parted sc__law_parted (fun _ _ _ _ _ _ hr => (b_cons (s_own (i := 1) (e_lst a_nil) sc__law_parted.nd rfl (Or.inl rfl))
    (b_cons (s_for (i_seq (e_v 0)) (g_name (i := 2) sc__law_parted.nd rfl (.inl rfl))
    (b_cons (s_if (t_cmp op_gt (OpD.eb opd_gt) (E.toB (e_ix (E.ec (e_v 2)) (E.ec e_int))) (E.toB e_int) (nomark _)) (b_one (s_append 1 (e_op op_addA opd_add (E.ec (e_slice (E.ec (e_v 2)) o_none (o_some (E.toB e_int)))) (E.ec (e_tup (a_cons (l := true) (e_op op_fdiv opd_div (E.toB (e_ix (E.ec (e_v 2)) (E.ec e_int))) (E.toB e_int)) a_nil)))) (hb := fun _ _ ho he => pe_bm PySem.F.plainAttrs_list PySem.F.slot_list_append PySem.F.type_list_append mt_append ho (pa_cons he pa_nil)))) b_nil)
    (b_one (s_append 1 (e_op op_addA opd_add (E.ec (e_slice (E.ec (e_v 2)) o_none (o_some (E.toB e_int)))) (E.ec (e_tup (a_cons (l := true) (e_op op_sub opd_sub (E.toB (e_ix (E.ec (e_v 2)) (E.ec e_int))) (E.toB (e_op op_fdiv opd_div (E.toB (e_ix (E.ec (e_v 2)) (E.ec e_int))) (E.toB e_int)))) a_nil)))) (hb := fun _ _ ho he => pe_bm PySem.F.plainAttrs_list PySem.F.slot_list_append PySem.F.type_list_append mt_append ho (pa_cons he pa_nil))))) PassesOwn.never rfl)
    (b_frz 1 (b_one (s_ret (E.toB (e_tuple (E.ec (e_v 1)) (by rfl) T.n_tuple (by decide +kernel)))))))))
end
end Ew
namespace Ew
open PySem PySem.Spec PyProof.Rows L2 Pu
variable [Tbs]
section
variable {P : Program} {w : World} {K : PySem.W.Frag} {mg : Str → Option Value} {base : Heap}
theorem ok_law (T : Tx K mg base) : FnOk P w K mg base CX0 9 T.a_law T.d_law ["_law_script"] (sp_lawT K Tbs.tb) := by
  refine T.F_law.ok sc_law (fun vs H Q _ h => ?_) (fun _ _ _ _ H vs Q _ hr h => ?_)
  · obtain ⟨a, ns, rfl, _⟩ := h
    rfl
  obtain ⟨a, ns, rfl, hS, hn, hT, k⟩ := h
  refine ⟨_, pss_cons (ps_for PassesOwn.never rfl (pi_range1 (by rfl) T.n_range (pa_cons (pe_callB (call_max2 rfl) (by rfl) T.n_max (by decide +kernel) (pa_cons pe_int (pa_cons (pe_callB (call_min2 rfl) (by rfl) T.n_min (by decide +kernel) (pa_cons (pe_callB (r := Ew.rLen K) Ew.call_len (by rfl) T.n_len (by decide +kernel) (pa_cons (pv 0) pa_nil)) (pa_cons pe_int pa_nil))) pa_nil))) pa_nil)) (pg_name (i := 1) sc_law.nd rfl (Or.inl rfl))
    (pss_cons (ps_set (i := 2) sc_law.nd rfl (Or.inl rfl) (pe_call (ok__law_well T) (hr.mono (by decide)) rfl T.g__law_well T.F__law_well.kp T.b__law_well .nil pass0 (pa_cons (pe_call (ok__law_cell_at T) (hr.mono (by decide)) rfl T.g__law_cell_at T.F__law_cell_at.kp T.b__law_cell_at .nil pass0 (pa_cons (pv 0) (pa_cons (pv 1) pa_nil))) pa_nil))) (Bc.pss (n := 2200014) (fr := false) (p := P_law) (bc_le (bc_cons (sc_set (i := 3) (ec_op op_addA opd_add (Ec.ec (Pu.E.cd e_int)) (Ec.ec (ec_calld (mo := .e) (okS__law_draw T) (hr.mono (by decide)) rfl T.g__law_draw T.F__law_draw.kp T.b__law_draw (ac_cons (l := true) (Pu.E.cd (e_v 2)) (ac_cons (l := true) (Pu.E.cd e_int) ac_nil)) (.inl rfl)))) sc_law.nd rfl (Or.inr rfl))
    (bc_cons (sc_set (i := 4) (ec_calld (mo := .e) (ok__law_gap T) (hr.mono (by decide)) rfl T.g__law_gap T.F__law_gap.kp T.b__law_gap (ac_cons (l := true) (Pu.E.cd (e_v 2)) ac_nil) (.inl rfl)) sc_law.nd rfl (Or.inl rfl))
    (bc_cons (sc_set (i := 5) (ec_calld (mo := .e) (ok__law_ends T) (hr.mono (by decide)) rfl T.g__law_ends T.F__law_ends.kp T.b__law_ends (ac_cons (l := true) (Pu.E.cd (e_v 2)) (ac_cons (l := true) (Pu.E.cd e_int) ac_nil)) (.inl rfl)) sc_law.nd rfl (Or.inl rfl))
    (bc_cons (sc_set (i := 6) (ec_calld (mo := .e) (ok__law_joining T) (hr.mono (by decide)) rfl T.g__law_joining T.F__law_joining.kp T.b__law_joining (ac_cons (l := true) (Pu.E.cd (e_v 2)) (ac_cons (l := true) (Pu.E.cd (e_callB call_lenA cd_len (by rfl) T.n_len (by decide +kernel) (a_cons (l := false) (E.toB (e_v 5)) a_nil))) ac_nil)) (.inl rfl)) sc_law.nd rfl (Or.inl rfl))
    (bc_cons (sc_set (i := 7) (ec_calld (mo := .e) (ok__law_rows T) (hr.mono (by decide)) rfl T.g__law_rows T.F__law_rows.kp T.b__law_rows (ac_cons (l := true) (Pu.E.cd (e_v 2)) (ac_cons (l := true) (Pu.E.cd (e_callB call_lenA cd_len (by rfl) T.n_len (by decide +kernel) (a_cons (l := false) (E.toB (e_v 5)) a_nil))) (ac_cons (l := true) (Pu.E.cd (e_v 4)) ac_nil))) (.inl rfl)) sc_law.nd rfl (Or.inl rfl))
    (bc_cons (sc_set (i := 8) (ec_calld (mo := .e) (ok__law_order T) (hr.mono (by decide)) rfl T.g__law_order T.F__law_order.kp T.b__law_order (ac_cons (l := true) (Pu.E.cd (e_v 2)) (ac_cons (l := true) (Pu.E.cd (e_callB call_lenA cd_len (by rfl) T.n_len (by decide +kernel) (a_cons (l := false) (E.toB (e_v 5)) a_nil))) ac_nil)) (.inl rfl)) sc_law.nd rfl (Or.inl rfl))
    (bc_cons (Pu.S.cd (s_set (i := 9) (e_callB (cr_max rfl) cd_maxL (by rfl) T.n_max (by decide +kernel) (a_cons (l := false) (E.toB (e_op op_addA opd_add (E.ec (E.fe (e_lst (a_cons (l := true) e_int a_nil)))) (E.ec (e_call (mo := .e) (ok__law_bears T) (hr.mono (by decide)) rfl T.g__law_bears T.F__law_bears.kp T.b__law_bears (a_cons (l := true) (e_callB call_lenA cd_len (by rfl) T.n_len (by decide +kernel) (a_cons (l := false) (E.toB (e_v 5)) a_nil)) (a_cons (l := true) (e_v 6) (a_cons (l := true) (e_v 7) a_nil))) (.inl rfl))))) a_nil)) sc_law.nd rfl (Or.inl rfl)))
    (bc_cons (Pu.S.cd (s_set (i := 10) (e_callB (call_maxN rfl) cd_maxN (by rfl) T.n_max (by decide +kernel) (a_cons (l := false) (E.toB e_int) (a_cons (l := false) (E.toB (e_v 9)) a_nil))) sc_law.nd rfl (Or.inl rfl)))
    (bc_cons (Pu.S.cd (s_set (i := 11) (e_tuple (E.ec (E.fe (e_lc (own := [("_law_row", 12)]) (i_seq (e_v 6)) (fun _ _ _ _ _ => (g_name (i := 12) sc_law.nd rfl (.inl rfl))) (fun _ _ _ _ _ => ts_nil) (fun _ _ _ _ _ => (e_rev0 (E.ec (e_v 12)))) rfl sc_law.nd (blkOk_by (N := N_law) (sc := defScope s_law) (by decide +kernel)) (fun _ h => h) rg_name))) (by rfl) T.n_tuple (by decide +kernel)) sc_law.nd rfl (Or.inl rfl)))
    (bc_cons (Pu.S.cd (s_set (i := 13) (e_call (mo := .e) (ok__law_numbered T) (hr.mono (by decide)) rfl T.g__law_numbered T.F__law_numbered.kp T.b__law_numbered (a_cons (l := true) (e_v 5) (a_cons (l := true) (e_v 6) (a_cons (l := true) (e_v 7) (a_cons (l := true) (e_v 8) a_nil)))) (.inl rfl)) sc_law.nd rfl (Or.inl rfl)))
    (bc_cons (Pu.S.cd (s_set (i := 14) (e_tuple (E.ec (E.fe (e_lc (own := [("_law_row", 12)]) (i_seq (e_v 7)) (fun _ _ _ _ _ => (g_name (i := 12) sc_law.nd rfl (.inl rfl))) (fun _ _ _ _ _ => ts_nil) (fun _ _ _ _ _ => (e_op op_addA opd_add (E.ec (e_slice (E.ec (e_v 12)) o_none (o_some (E.toB e_int)))) (E.ec (e_tup (a_cons (l := true) (e_op op_mul opd_mul (E.toB (e_ix (E.ec (e_v 12)) (E.ec e_int))) (E.toB (e_v 3))) a_nil))))) rfl sc_law.nd (blkOk_by (N := N_law) (sc := defScope s_law) (by decide +kernel)) (fun _ h => h) rg_name))) (by rfl) T.n_tuple (by decide +kernel)) sc_law.nd rfl (Or.inl rfl)))
    (bc_cons (Pu.S.cd (s_own (i := 15) (e_lst (a_cons (l := true) (e_tup (a_cons (l := true) (e_v 5) (a_cons (l := true) (e_v 6) (a_cons (l := true) (e_v 10) (a_cons (l := true) (e_v 7) a_nil))))) (a_cons (l := true) (e_tup (a_cons (l := true) (e_v 5) (a_cons (l := true) (e_v 6) (a_cons (l := true) (e_v 10) (a_cons (l := true) (e_rev0 (E.ec (e_v 7))) a_nil))))) (a_cons (l := true) (e_tup (a_cons (l := true) (e_v 5) (a_cons (l := true) (e_v 11) (a_cons (l := true) (e_v 10) (a_cons (l := true) (e_v 7) a_nil))))) a_nil)))) sc_law.nd rfl (Or.inl rfl)))
    (bc_cons (Pu.S.cd (s_own (i := 15) (e_op op_addA opd_addF (e_o 15) (E.ec (E.fe (e_lst (a_cons (l := true) (e_tup (a_cons (l := true) (e_v 5) (a_cons (l := true) (e_v 6) (a_cons (l := true) (e_v 10) (a_cons (l := true) (e_call (mo := .e) (ok__law_parted T) (hr.mono (by decide)) rfl T.g__law_parted T.F__law_parted.kp T.b__law_parted (a_cons (l := true) (e_v 7) a_nil) (.inl rfl)) a_nil))))) (a_cons (l := true) (e_tup (a_cons (l := true) (e_v 5) (a_cons (l := true) (e_v 6) (a_cons (l := true) (e_op op_mul opd_mul (E.toB (e_v 10)) (E.toB (e_v 3))) (a_cons (l := true) (e_v 14) a_nil))))) a_nil)))))) sc_law.nd rfl (Or.inl rfl)))
    (bc_cons (Pu.S.cd (s_append 15 (e_op op_addA opd_add (E.ec (e_slice (E.ec (e_v 13)) o_none (o_some (E.toB e_int)))) (E.ec (e_tup (a_cons (l := true) (e_v 10) (a_cons (l := true) (e_ix (E.ec (e_v 13)) (E.ec e_int)) a_nil))))) (hb := fun _ _ ho he => pe_bm PySem.F.plainAttrs_list PySem.F.slot_list_append PySem.F.type_list_append mt_append ho (pa_cons he pa_nil))))
    (bc_frz 15 (bc_cons (Pu.S.cd (s_set (i := 16) (e_call (mo := .e) (ok__law_due T) (hr.mono (by decide)) rfl T.g__law_due T.F__law_due.kp T.b__law_due (a_cons (l := true) (e_v 5) (a_cons (l := true) (e_v 6) (a_cons (l := true) (e_v 4) (a_cons (l := true) (e_tup (a_cons (l := true) (e_v 10) (a_cons (l := true) (e_v 7) a_nil))) a_nil)))) (.inl rfl)) sc_law.nd rfl (Or.inl rfl)))
    (bc_one (sc_for (ic_seq (Pu.E.cd (e_v 15))) (g_tup (by rfl) (gs_cons (g_name (i := 17) sc_law.nd rfl (.inl rfl)) (gs_cons (g_name (i := 18) sc_law.nd rfl (.inl rfl)) (gs_cons (g_name (i := 19) sc_law.nd rfl (.inl rfl)) (gs_cons (g_name (i := 20) sc_law.nd rfl (.inl rfl)) gs_nil)))))
    (bc_cons (sc_if (Pu.T.cd (w_t (w_or (t_cmp op_isA (OpD.eb opd_is) (E.toB (e_v 16)) (E.toB e_non) (nomark _)) (w_or1 (t_not (t_val (E.toB (e_call (mo := .e) (ok__law_told T) (hr.mono (by decide)) rfl T.g__law_told T.F__law_told.kp T.b__law_told (a_cons (l := true) (e_v 17) (a_cons (l := true) (e_v 18) (a_cons (l := true) (e_v 4) (a_cons (l := true) (e_tup (a_cons (l := true) (e_v 19) (a_cons (l := true) (e_v 20) a_nil))) (a_cons (l := true) (e_v 16) a_nil))))) (.inl rfl))))))))) (bc_one (sc_ret (Pu.E.cd e_bl))) bc_nil)
    (bc_one (sc_if (Pu.T.cd (w_t (w_and (t_cmp op_gt (OpD.eb opd_gt) (E.toB (e_v 9)) (E.toB e_int) (nomark _)) (w_and1 (t_cmp op_isNA (OpD.eb opd_isN) (E.toB (e_call (mo := .e) (ok_times_shown T) (hr.mono (by decide)) rfl T.g_times_shown T.F_times_shown.kp T.b_times_shown (a_cons (l := true) (e_v 17) (a_cons (l := true) (e_v 18) (a_cons (l := true) (e_v 4) (a_cons (l := true) (e_tup (a_cons (l := true) (e_op op_sub opd_sub (E.toB (e_v 19)) (E.toB e_int)) (a_cons (l := true) (e_v 20) a_nil))) a_nil)))) (.inl rfl))) (E.toB e_non) (nomark _)))))) (bc_one (sc_ret (Pu.E.cd e_bl))) bc_nil))) PassesOwn.never rfl)))))))))))))))))) (Nat.le_of_ble_eq_true rfl))))) (pss_one (ps_ret pe_bl)), ?_⟩
  refine ⟨_, rfl, a, _, rfl, .inl hS, _, _, rfl, _, _, rfl, _, rfl, ?_, ?_, ?_⟩
  · rw [List.length_map]
    split <;> split <;> omega
  · rw [List.length_map]
    split <;> split <;> omega
  generalize (Int.toNat _) = J
  refine ⟨fun i m σ H' => m = J - i ∧ i ≤ J ∧ σ.length = 18 + 3 ∧ σ[0]? = some (some (.ref a)) ∧ SqL K H' a (ns.map V.int) ∧ Tabs H', ⟨J, by simp, Nat.zero_le _, rfl, rfl, hS, hT⟩, ?_⟩
  rintro i m σ H' ⟨rfl, hi, hl, h0, hS', hT'⟩
  by_cases hlt : i < J
  · refine .inr ⟨hlt, fun σ2 H2 => σ2.length = 18 + 3 ∧ σ2[0]? = some (some (.ref a)) ∧ SqL K H2 a (ns.map V.int) ∧ Tabs H2, fun σ2 H2 h2 => ⟨J - (i + 1), by omega, rfl, hlt, h2⟩, fun x H2 hy => ?_⟩
    obtain ⟨rfl, rfl⟩ := hy
    have l1 : (σ.set 1 (some (V.int (0 + (i : Nat))))).length = 18 + 3 := by rw [List.length_set]; exact hl
    have g0 : (σ.set 1 (some (V.int (0 + (i : Nat)))))[0]? = some (some (.ref a)) := by rw [List.getElem?_set_ne (by decide)]; exact h0
    have g1 : (σ.set 1 (some (V.int (0 + (i : Nat)))))[1]? = some (some (V.int (0 + (i : Nat)))) := List.getElem?_set_self (by omega)
    show tSeq _ _ _ (σ.set 1 (some (V.int (0 + (i : Nat))))) _
    generalize (σ.set 1 (some (V.int (0 + (i : Nat))))) = τ at l1 g0 g1 ⊢
    refine ⟨_, g0, _, g1, sp__law_cell_at.mk hS' hn (by omega) fun c => sp__law_well.mk fun p hp g s => ?_⟩
    refine turn_ok (Nat.le_of_ble_eq_true rfl) (by rw [List.length_set]; exact l1) (by rw [List.getElem?_set_ne (by decide)]; exact g0) (by rw [List.getElem?_set_ne (by decide)]; exact g1) (List.getElem?_set_self (by omega)) hp hT' hS' (law_pure (by omega)) fun σ' H3 q1 q2 q3 q4 => ⟨q1, q2, q3, q4⟩
  · exact .inl ⟨by show J ≤ i; omega, k _⟩
end
omit [Tbs] in
set_option maxHeartbeats 0 in
theorem all_mk {l : PySem.W.OpenLaw} {w : World} {K : PySem.W.Frag} {h : Heap} {mg : Str → Option Value} {fa : Addr} (X : K.In h) (G : h.Ns mainGlobals mg) (hfa : mg "law" = some (.ref fa))
    {f0 f1 f2 f3 f4 f5 f6 f7 f8 f9 f10 f11 f12 f13 f14 f15 f16 f17 f18 f19 f20 f21 f22 f23 f24 f25 f26 f27 f28 f29 f30 f31 f32 f33 f34 f35 : Addr}
    {od0 an0 od1 an1 od2 an2 od3 an3 od4 an4 od5 an5 od6 an6 od7 an7 od8 an8 od9 an9 od10 an10 od11 an11 od12 an12 od13 an13 od14 an14 od15 an15 od16 an16 od17 an17 od18 an18 od19 an19 od20 an20 od21 an21 od22 an22 od23 an23 od24 an24 od25 an25 od26 an26 od27 an27 od28 an28 od29 an29 od30 an30 od31 an31 od32 an32 od33 an33 od34 an34 od35 an35 : Option Addr} {sl0 sl1 sl2 sl3 sl4 sl5 sl6 sl7 sl8 sl9 sl10 sl11 sl12 sl13 sl14 sl15 sl16 sl17 sl18 sl19 sl20 sl21 sl22 sl23 sl24 sl25 sl26 sl27 sl28 sl29 sl30 sl31 sl32 sl33 sl34 sl35 : Array (Option Value)} {oc0 kV0 dc0 pm0 ct0 cd0 oc1 kV1 dc1 pm1 ct1 cd1 oc2 kV2 dc2 pm2 ct2 cd2 oc3 kV3 dc3 pm3 ct3 cd3 oc4 kV4 dc4 pm4 ct4 cd4 oc5 kV5 dc5 pm5 ct5 cd5 oc6 kV6 dc6 pm6 ct6 oc7 kV7 dc7 pm7 ct7 oc8 kV8 dc8 pm8 ct8 oc9 kV9 dc9 pm9 ct9 cd9 oc10 kV10 dc10 pm10 ct10 cd10 oc11 kV11 dc11 pm11 ct11 cd11 oc12 kV12 dc12 pm12 ct12 cd12 oc13 kV13 dc13 pm13 ct13 cd13 oc14 kV14 dc14 pm14 ct14 cd14 oc15 kV15 dc15 pm15 ct15 cd15 oc16 kV16 dc16 pm16 ct16 cd16 oc17 kV17 dc17 pm17 ct17 cd17 oc18 kV18 dc18 pm18 ct18 cd18 oc19 kV19 dc19 pm19 ct19 cd19 oc20 kV20 dc20 pm20 ct20 cd20 oc21 kV21 dc21 pm21 ct21 cd21 oc22 kV22 dc22 pm22 ct22 cd22 oc23 kV23 dc23 pm23 ct23 cd23 oc24 kV24 dc24 pm24 ct24 cd24 oc25 kV25 dc25 pm25 ct25 cd25 oc26 kV26 dc26 pm26 ct26 cd26 oc27 kV27 dc27 pm27 ct27 cd27 oc28 kV28 dc28 pm28 ct28 cd28 oc29 kV29 dc29 pm29 ct29 cd29 oc30 kV30 dc30 pm30 ct30 cd30 oc31 kV31 dc31 pm31 ct31 cd31 oc32 kV32 dc32 pm32 ct32 cd32 oc33 kV33 dc33 pm33 ct33 cd33 oc34 kV34 dc34 pm34 ct34 cd34 oc35 kV35 dc35 pm35 ct35 cd35 : Value}
    {q6 p6 : Addr} {ec6 : Value} {ed6 : Option Addr} {ev6 : Array Value} {es6 : Array (Option Value)}
    {q7 p7 : Addr} {ec7 : Value} {ed7 : Option Addr} {ev7 : Array Value} {es7 : Array (Option Value)}
    {q8 p8 : Addr} {ec8 : Value} {ed8 : Option Addr} {ev8 : Array Value} {es8 : Array (Option Value)}
    (a0 : PySem.W.nsIn K mainGlobals "chain" = some (some (.ref f0))) (l0 : K.lookup f0 = some ⟨oc0, od0, .func (PySem.W.fnOf "chain" "chain" (defArgs s_chain) (defBody s_chain) (defScope s_chain) .none kV0 dc0 pm0 an0 cd0 ct0), sl0⟩) (c0 : PySem.W.codeIn K cd0 "chain" = true) (k0 : PySem.W.keepIn K (.ref f0) = true)
    (a1 : PySem.W.nsIn K mainGlobals "ahead" = some (some (.ref f1))) (l1 : K.lookup f1 = some ⟨oc1, od1, .func (PySem.W.fnOf "ahead" "ahead" (defArgs s_ahead) (defBody s_ahead) (defScope s_ahead) .none kV1 dc1 pm1 an1 cd1 ct1), sl1⟩) (c1 : PySem.W.codeIn K cd1 "ahead" = true) (k1 : PySem.W.keepIn K (.ref f1) = true)
    (a2 : PySem.W.nsIn K mainGlobals "lowest" = some (some (.ref f2))) (l2 : K.lookup f2 = some ⟨oc2, od2, .func (PySem.W.fnOf "lowest" "lowest" (defArgs s_lowest) (defBody s_lowest) (defScope s_lowest) .none kV2 dc2 pm2 an2 cd2 ct2), sl2⟩) (c2 : PySem.W.codeIn K cd2 "lowest" = true) (k2 : PySem.W.keepIn K (.ref f2) = true)
    (a3 : PySem.W.nsIn K mainGlobals "common_factor" = some (some (.ref f3))) (l3 : K.lookup f3 = some ⟨oc3, od3, .func (PySem.W.fnOf "common_factor" "common_factor" (defArgs s_common_factor) (defBody s_common_factor) (defScope s_common_factor) .none kV3 dc3 pm3 an3 cd3 ct3), sl3⟩) (c3 : PySem.W.codeIn K cd3 "common_factor" = true) (k3 : PySem.W.keepIn K (.ref f3) = true)
    (a4 : PySem.W.nsIn K mainGlobals "steps" = some (some (.ref f4))) (l4 : K.lookup f4 = some ⟨oc4, od4, .func (PySem.W.fnOf "steps" "steps" (defArgs s_steps) (defBody s_steps) (defScope s_steps) .none kV4 dc4 pm4 an4 cd4 ct4), sl4⟩) (c4 : PySem.W.codeIn K cd4 "steps" = true) (k4 : PySem.W.keepIn K (.ref f4) = true)
    (a5 : PySem.W.nsIn K mainGlobals "is_whole" = some (some (.ref f5))) (l5 : K.lookup f5 = some ⟨oc5, od5, .func (PySem.W.fnOf "is_whole" "is_whole" (defArgs s_is_whole) (defBody s_is_whole) (defScope s_is_whole) .none kV5 dc5 pm5 an5 cd5 ct5), sl5⟩) (c5 : PySem.W.codeIn K cd5 "is_whole" = true) (k5 : PySem.W.keepIn K (.ref f5) = true)
    (a6 : PySem.W.nsIn K mainGlobals "are_wholes" = some (some (.ref f6))) (l6 : K.lookup f6 = some ⟨oc6, od6, .func (PySem.W.fnOf "are_wholes" "are_wholes" (defArgs s_are_wholes) (defBody s_are_wholes) (defScope s_are_wholes) .none kV6 dc6 pm6 an6 (.ref q6) ct6), sl6⟩) (c6 : PySem.W.codeIn K (.ref q6) "are_wholes" = true) (k6 : PySem.W.keepIn K (.ref f6) = true)
    (u6 : K.lookup q6 = some ⟨ec6, ed6, .fields ev6, es6⟩) (w6 : ev6[11]? = some (.ref p6)) (v6 : K.lookup p6 = none)
    (a7 : PySem.W.nsIn K mainGlobals "times_shown" = some (some (.ref f7))) (l7 : K.lookup f7 = some ⟨oc7, od7, .func (PySem.W.fnOf "times_shown" "times_shown" (defArgs s_times_shown) (defBody s_times_shown) (defScope s_times_shown) .none kV7 dc7 pm7 an7 (.ref q7) ct7), sl7⟩) (c7 : PySem.W.codeIn K (.ref q7) "times_shown" = true) (k7 : PySem.W.keepIn K (.ref f7) = true)
    (u7 : K.lookup q7 = some ⟨ec7, ed7, .fields ev7, es7⟩) (w7 : ev7[11]? = some (.ref p7)) (v7 : K.lookup p7 = none)
    (a8 : PySem.W.nsIn K mainGlobals "has_form" = some (some (.ref f8))) (l8 : K.lookup f8 = some ⟨oc8, od8, .func (PySem.W.fnOf "has_form" "has_form" (defArgs s_has_form) (defBody s_has_form) (defScope s_has_form) .none kV8 dc8 pm8 an8 (.ref q8) ct8), sl8⟩) (c8 : PySem.W.codeIn K (.ref q8) "has_form" = true) (k8 : PySem.W.keepIn K (.ref f8) = true)
    (u8 : K.lookup q8 = some ⟨ec8, ed8, .fields ev8, es8⟩) (w8 : ev8[11]? = some (.ref p8)) (v8 : K.lookup p8 = none)
    (a9 : PySem.W.nsIn K mainGlobals "is_row" = some (some (.ref f9))) (l9 : K.lookup f9 = some ⟨oc9, od9, .func (PySem.W.fnOf "is_row" "is_row" (defArgs s_is_row) (defBody s_is_row) (defScope s_is_row) .none kV9 dc9 pm9 an9 cd9 ct9), sl9⟩) (c9 : PySem.W.codeIn K cd9 "is_row" = true) (k9 : PySem.W.keepIn K (.ref f9) = true)
    (a10 : PySem.W.nsIn K mainGlobals "all_borne" = some (some (.ref f10))) (l10 : K.lookup f10 = some ⟨oc10, od10, .func (PySem.W.fnOf "all_borne" "all_borne" (defArgs s_all_borne) (defBody s_all_borne) (defScope s_all_borne) .none kV10 dc10 pm10 an10 cd10 ct10), sl10⟩) (c10 : PySem.W.codeIn K cd10 "all_borne" = true) (k10 : PySem.W.keepIn K (.ref f10) = true)
    (a11 : PySem.W.nsIn K mainGlobals "borne_by" = some (some (.ref f11))) (l11 : K.lookup f11 = some ⟨oc11, od11, .func (PySem.W.fnOf "borne_by" "borne_by" (defArgs s_borne_by) (defBody s_borne_by) (defScope s_borne_by) .none kV11 dc11 pm11 an11 cd11 ct11), sl11⟩) (c11 : PySem.W.codeIn K cd11 "borne_by" = true) (k11 : PySem.W.keepIn K (.ref f11) = true)
    (a12 : PySem.W.nsIn K mainGlobals "worth_of" = some (some (.ref f12))) (l12 : K.lookup f12 = some ⟨oc12, od12, .func (PySem.W.fnOf "worth_of" "worth_of" (defArgs s_worth_of) (defBody s_worth_of) (defScope s_worth_of) .none kV12 dc12 pm12 an12 cd12 ct12), sl12⟩) (c12 : PySem.W.codeIn K cd12 "worth_of" = true) (k12 : PySem.W.keepIn K (.ref f12) = true)
    (a13 : PySem.W.nsIn K mainGlobals "_law_cell_at" = some (some (.ref f13))) (l13 : K.lookup f13 = some ⟨oc13, od13, .func (PySem.W.fnOf "_law_cell_at" "_law_cell_at" (defArgs s__law_cell_at) (defBody s__law_cell_at) (defScope s__law_cell_at) .none kV13 dc13 pm13 an13 cd13 ct13), sl13⟩) (c13 : PySem.W.codeIn K cd13 "_law_cell_at" = true) (k13 : PySem.W.keepIn K (.ref f13) = true)
    (a14 : PySem.W.nsIn K mainGlobals "_law_well" = some (some (.ref f14))) (l14 : K.lookup f14 = some ⟨oc14, od14, .func (PySem.W.fnOf "_law_well" "_law_well" (defArgs s__law_well) (defBody s__law_well) (defScope s__law_well) .none kV14 dc14 pm14 an14 cd14 ct14), sl14⟩) (c14 : PySem.W.codeIn K cd14 "_law_well" = true) (k14 : PySem.W.keepIn K (.ref f14) = true)
    (a15 : PySem.W.nsIn K mainGlobals "_law_draw" = some (some (.ref f15))) (l15 : K.lookup f15 = some ⟨oc15, od15, .func (PySem.W.fnOf "_law_draw" "_law_draw" (defArgs s__law_draw) (defBody s__law_draw) (defScope s__law_draw) .none kV15 dc15 pm15 an15 cd15 ct15), sl15⟩) (c15 : PySem.W.codeIn K cd15 "_law_draw" = true) (k15 : PySem.W.keepIn K (.ref f15) = true)
    (a16 : PySem.W.nsIn K mainGlobals "_law_number" = some (some (.ref f16))) (l16 : K.lookup f16 = some ⟨oc16, od16, .func (PySem.W.fnOf "_law_number" "_law_number" (defArgs s__law_number) (defBody s__law_number) (defScope s__law_number) .none kV16 dc16 pm16 an16 cd16 ct16), sl16⟩) (c16 : PySem.W.codeIn K cd16 "_law_number" = true) (k16 : PySem.W.keepIn K (.ref f16) = true)
    (a17 : PySem.W.nsIn K mainGlobals "_law_start" = some (some (.ref f17))) (l17 : K.lookup f17 = some ⟨oc17, od17, .func (PySem.W.fnOf "_law_start" "_law_start" (defArgs s__law_start) (defBody s__law_start) (defScope s__law_start) .none kV17 dc17 pm17 an17 cd17 ct17), sl17⟩) (c17 : PySem.W.codeIn K cd17 "_law_start" = true) (k17 : PySem.W.keepIn K (.ref f17) = true)
    (a18 : PySem.W.nsIn K mainGlobals "_law_ends" = some (some (.ref f18))) (l18 : K.lookup f18 = some ⟨oc18, od18, .func (PySem.W.fnOf "_law_ends" "_law_ends" (defArgs s__law_ends) (defBody s__law_ends) (defScope s__law_ends) .none kV18 dc18 pm18 an18 cd18 ct18), sl18⟩) (c18 : PySem.W.codeIn K cd18 "_law_ends" = true) (k18 : PySem.W.keepIn K (.ref f18) = true)
    (a19 : PySem.W.nsIn K mainGlobals "_law_joining" = some (some (.ref f19))) (l19 : K.lookup f19 = some ⟨oc19, od19, .func (PySem.W.fnOf "_law_joining" "_law_joining" (defArgs s__law_joining) (defBody s__law_joining) (defScope s__law_joining) .none kV19 dc19 pm19 an19 cd19 ct19), sl19⟩) (c19 : PySem.W.codeIn K cd19 "_law_joining" = true) (k19 : PySem.W.keepIn K (.ref f19) = true)
    (a20 : PySem.W.nsIn K mainGlobals "_law_apart" = some (some (.ref f20))) (l20 : K.lookup f20 = some ⟨oc20, od20, .func (PySem.W.fnOf "_law_apart" "_law_apart" (defArgs s__law_apart) (defBody s__law_apart) (defScope s__law_apart) .none kV20 dc20 pm20 an20 cd20 ct20), sl20⟩) (c20 : PySem.W.codeIn K cd20 "_law_apart" = true) (k20 : PySem.W.keepIn K (.ref f20) = true)
    (a21 : PySem.W.nsIn K mainGlobals "_law_above" = some (some (.ref f21))) (l21 : K.lookup f21 = some ⟨oc21, od21, .func (PySem.W.fnOf "_law_above" "_law_above" (defArgs s__law_above) (defBody s__law_above) (defScope s__law_above) .none kV21 dc21 pm21 an21 cd21 ct21), sl21⟩) (c21 : PySem.W.codeIn K cd21 "_law_above" = true) (k21 : PySem.W.keepIn K (.ref f21) = true)
    (a22 : PySem.W.nsIn K mainGlobals "_law_side" = some (some (.ref f22))) (l22 : K.lookup f22 = some ⟨oc22, od22, .func (PySem.W.fnOf "_law_side" "_law_side" (defArgs s__law_side) (defBody s__law_side) (defScope s__law_side) .none kV22 dc22 pm22 an22 cd22 ct22), sl22⟩) (c22 : PySem.W.codeIn K cd22 "_law_side" = true) (k22 : PySem.W.keepIn K (.ref f22) = true)
    (a23 : PySem.W.nsIn K mainGlobals "_law_is_from" = some (some (.ref f23))) (l23 : K.lookup f23 = some ⟨oc23, od23, .func (PySem.W.fnOf "_law_is_from" "_law_is_from" (defArgs s__law_is_from) (defBody s__law_is_from) (defScope s__law_is_from) .none kV23 dc23 pm23 an23 cd23 ct23), sl23⟩) (c23 : PySem.W.codeIn K cd23 "_law_is_from" = true) (k23 : PySem.W.keepIn K (.ref f23) = true)
    (a24 : PySem.W.nsIn K mainGlobals "_law_is_row" = some (some (.ref f24))) (l24 : K.lookup f24 = some ⟨oc24, od24, .func (PySem.W.fnOf "_law_is_row" "_law_is_row" (defArgs s__law_is_row) (defBody s__law_is_row) (defScope s__law_is_row) .none kV24 dc24 pm24 an24 cd24 ct24), sl24⟩) (c24 : PySem.W.codeIn K cd24 "_law_is_row" = true) (k24 : PySem.W.keepIn K (.ref f24) = true)
    (a25 : PySem.W.nsIn K mainGlobals "_law_bears" = some (some (.ref f25))) (l25 : K.lookup f25 = some ⟨oc25, od25, .func (PySem.W.fnOf "_law_bears" "_law_bears" (defArgs s__law_bears) (defBody s__law_bears) (defScope s__law_bears) .none kV25 dc25 pm25 an25 cd25 ct25), sl25⟩) (c25 : PySem.W.codeIn K cd25 "_law_bears" = true) (k25 : PySem.W.keepIn K (.ref f25) = true)
    (a26 : PySem.W.nsIn K mainGlobals "_law_lowest" = some (some (.ref f26))) (l26 : K.lookup f26 = some ⟨oc26, od26, .func (PySem.W.fnOf "_law_lowest" "_law_lowest" (defArgs s__law_lowest) (defBody s__law_lowest) (defScope s__law_lowest) .none kV26 dc26 pm26 an26 cd26 ct26), sl26⟩) (c26 : PySem.W.codeIn K cd26 "_law_lowest" = true) (k26 : PySem.W.keepIn K (.ref f26) = true)
    (a27 : PySem.W.nsIn K mainGlobals "_law_due" = some (some (.ref f27))) (l27 : K.lookup f27 = some ⟨oc27, od27, .func (PySem.W.fnOf "_law_due" "_law_due" (defArgs s__law_due) (defBody s__law_due) (defScope s__law_due) .none kV27 dc27 pm27 an27 cd27 ct27), sl27⟩) (c27 : PySem.W.codeIn K cd27 "_law_due" = true) (k27 : PySem.W.keepIn K (.ref f27) = true)
    (a28 : PySem.W.nsIn K mainGlobals "_law_told" = some (some (.ref f28))) (l28 : K.lookup f28 = some ⟨oc28, od28, .func (PySem.W.fnOf "_law_told" "_law_told" (defArgs s__law_told) (defBody s__law_told) (defScope s__law_told) .none kV28 dc28 pm28 an28 cd28 ct28), sl28⟩) (c28 : PySem.W.codeIn K cd28 "_law_told" = true) (k28 : PySem.W.keepIn K (.ref f28) = true)
    (a29 : PySem.W.nsIn K mainGlobals "_law_gap" = some (some (.ref f29))) (l29 : K.lookup f29 = some ⟨oc29, od29, .func (PySem.W.fnOf "_law_gap" "_law_gap" (defArgs s__law_gap) (defBody s__law_gap) (defScope s__law_gap) .none kV29 dc29 pm29 an29 cd29 ct29), sl29⟩) (c29 : PySem.W.codeIn K cd29 "_law_gap" = true) (k29 : PySem.W.keepIn K (.ref f29) = true)
    (a30 : PySem.W.nsIn K mainGlobals "_law_times" = some (some (.ref f30))) (l30 : K.lookup f30 = some ⟨oc30, od30, .func (PySem.W.fnOf "_law_times" "_law_times" (defArgs s__law_times) (defBody s__law_times) (defScope s__law_times) .none kV30 dc30 pm30 an30 cd30 ct30), sl30⟩) (c30 : PySem.W.codeIn K cd30 "_law_times" = true) (k30 : PySem.W.keepIn K (.ref f30) = true)
    (a31 : PySem.W.nsIn K mainGlobals "_law_rows" = some (some (.ref f31))) (l31 : K.lookup f31 = some ⟨oc31, od31, .func (PySem.W.fnOf "_law_rows" "_law_rows" (defArgs s__law_rows) (defBody s__law_rows) (defScope s__law_rows) .none kV31 dc31 pm31 an31 cd31 ct31), sl31⟩) (c31 : PySem.W.codeIn K cd31 "_law_rows" = true) (k31 : PySem.W.keepIn K (.ref f31) = true)
    (a32 : PySem.W.nsIn K mainGlobals "_law_order" = some (some (.ref f32))) (l32 : K.lookup f32 = some ⟨oc32, od32, .func (PySem.W.fnOf "_law_order" "_law_order" (defArgs s__law_order) (defBody s__law_order) (defScope s__law_order) .none kV32 dc32 pm32 an32 cd32 ct32), sl32⟩) (c32 : PySem.W.codeIn K cd32 "_law_order" = true) (k32 : PySem.W.keepIn K (.ref f32) = true)
    (a33 : PySem.W.nsIn K mainGlobals "_law_numbered" = some (some (.ref f33))) (l33 : K.lookup f33 = some ⟨oc33, od33, .func (PySem.W.fnOf "_law_numbered" "_law_numbered" (defArgs s__law_numbered) (defBody s__law_numbered) (defScope s__law_numbered) .none kV33 dc33 pm33 an33 cd33 ct33), sl33⟩) (c33 : PySem.W.codeIn K cd33 "_law_numbered" = true) (k33 : PySem.W.keepIn K (.ref f33) = true)
    (a34 : PySem.W.nsIn K mainGlobals "_law_parted" = some (some (.ref f34))) (l34 : K.lookup f34 = some ⟨oc34, od34, .func (PySem.W.fnOf "_law_parted" "_law_parted" (defArgs s__law_parted) (defBody s__law_parted) (defScope s__law_parted) .none kV34 dc34 pm34 an34 cd34 ct34), sl34⟩) (c34 : PySem.W.codeIn K cd34 "_law_parted" = true) (k34 : PySem.W.keepIn K (.ref f34) = true)
    (a35 : PySem.W.nsIn K mainGlobals "law" = some (some (.ref f35))) (l35 : K.lookup f35 = some ⟨oc35, od35, .func (PySem.W.fnOf "law" "law" (defArgs s_law) (defBody s_law) (defScope s_law) .none kV35 dc35 pm35 an35 cd35 ct35), sl35⟩) (c35 : PySem.W.codeIn K cd35 "law" = true) (k35 : PySem.W.keepIn K (.ref f35) = true)
    (z_len : PySem.W.nsIn K mainGlobals "len" = some none)
    (z_int : PySem.W.nsIn K mainGlobals "int" = some none)
    (z_range : PySem.W.nsIn K mainGlobals "range" = some none)
    (z_max : PySem.W.nsIn K mainGlobals "max" = some none)
    (z_min : PySem.W.nsIn K mainGlobals "min" = some none)
    (z_enumerate : PySem.W.nsIn K mainGlobals "enumerate" = some none)
    (z_tuple : PySem.W.nsIn K mainGlobals "tuple" = some none)
    (z_abs : PySem.W.nsIn K mainGlobals "abs" = some none)
    (z_bool : PySem.W.nsIn K mainGlobals "bool" = some none)
    (z_isinstance : PySem.W.nsIn K mainGlobals "isinstance" = some none)
    (z_all : PySem.W.nsIn K mainGlobals "all" = some none)
    (z_any : PySem.W.nsIn K mainGlobals "any" = some none)
    (z_sum : PySem.W.nsIn K mainGlobals "sum" = some none)
    (z_list : PySem.W.nsIn K mainGlobals "list" = some none)
    (z_str : PySem.W.nsIn K mainGlobals "str" = some none)
    (z_zip : PySem.W.nsIn K mainGlobals "zip" = some none)
    (z_sorted : PySem.W.nsIn K mainGlobals "sorted" = some none)
    (z_dict : PySem.W.nsIn K mainGlobals "dict" = some none)
    : ∃ (fd : FuncData) (cs : List (Addr × Addr)), (∀ p ∈ cs, ∃ x ∈ [("are_wholes" : Str), ("times_shown" : Str), ("has_form" : Str)], PySem.W.tabIn K x = some p) ∧ (∀ p ∈ cs, K.lookup p.2 = none) ∧ (∀ (s : Shared) (v : Value), BindsTo s fd ⟨[v], []⟩ [("_law_script", v)]) ∧ ∀ base : Heap, K.In base → base.Ns mainGlobals mg → (∀ p ∈ cs, GxR.TabB base mg p.1 p.2) → FnOk l.prog w K mg base CX0 9 fa fd ["_law_script"] (Pu.sp_lawT K (cs.map (·.2))) := by
  letI : Tbs := ⟨[p6, p7, p8], w⟩
  have e := hfa.symm.trans (PySem.W.mg_of X G a35)
  cases e
  have F0 := fun_mk (st := s_chain) l0 c0 k0
  have F1 := fun_mk (st := s_ahead) l1 c1 k1
  have F2 := fun_mk (st := s_lowest) l2 c2 k2
  have F3 := fun_mk (st := s_common_factor) l3 c3 k3
  have F4 := fun_mk (st := s_steps) l4 c4 k4
  have F5 := fun_mk (st := s_is_whole) l5 c5 k5
  have F6 := fun_mk (st := s_are_wholes) l6 c6 k6
  have F7 := fun_mk (st := s_times_shown) l7 c7 k7
  have F8 := fun_mk (st := s_has_form) l8 c8 k8
  have F9 := fun_mk (st := s_is_row) l9 c9 k9
  have F10 := fun_mk (st := s_all_borne) l10 c10 k10
  have F11 := fun_mk (st := s_borne_by) l11 c11 k11
  have F12 := fun_mk (st := s_worth_of) l12 c12 k12
  have F13 := fun_mk (st := s__law_cell_at) l13 c13 k13
  have F14 := fun_mk (st := s__law_well) l14 c14 k14
  have F15 := fun_mk (st := s__law_draw) l15 c15 k15
  have F16 := fun_mk (st := s__law_number) l16 c16 k16
  have F17 := fun_mk (st := s__law_start) l17 c17 k17
  have F18 := fun_mk (st := s__law_ends) l18 c18 k18
  have F19 := fun_mk (st := s__law_joining) l19 c19 k19
  have F20 := fun_mk (st := s__law_apart) l20 c20 k20
  have F21 := fun_mk (st := s__law_above) l21 c21 k21
  have F22 := fun_mk (st := s__law_side) l22 c22 k22
  have F23 := fun_mk (st := s__law_is_from) l23 c23 k23
  have F24 := fun_mk (st := s__law_is_row) l24 c24 k24
  have F25 := fun_mk (st := s__law_bears) l25 c25 k25
  have F26 := fun_mk (st := s__law_lowest) l26 c26 k26
  have F27 := fun_mk (st := s__law_due) l27 c27 k27
  have F28 := fun_mk (st := s__law_told) l28 c28 k28
  have F29 := fun_mk (st := s__law_gap) l29 c29 k29
  have F30 := fun_mk (st := s__law_times) l30 c30 k30
  have F31 := fun_mk (st := s__law_rows) l31 c31 k31
  have F32 := fun_mk (st := s__law_order) l32 c32 k32
  have F33 := fun_mk (st := s__law_numbered) l33 c33 k33
  have F34 := fun_mk (st := s__law_parted) l34 c34 k34
  have F35 := fun_mk (st := s_law) l35 c35 k35
  have b0 := F0.binds (ps := ["many", "joining", "knot"]) fun _ _ _ _ _ _ us hl => match us, hl with | [_, _, _], _ => rfl
  have b1 := F1.binds (ps := ["many", "joining", "one", "other"]) fun _ _ _ _ _ _ us hl => match us, hl with | [_, _, _, _], _ => rfl
  have b2 := F2.binds (ps := ["bottom", "numbers"]) fun _ _ _ _ _ _ us hl => match us, hl with | [_, _], _ => rfl
  have b3 := F3.binds (ps := ["one", "other"]) fun _ _ _ _ _ _ us hl => match us, hl with | [_, _], _ => rfl
  have b4 := F4.binds (ps := ["one", "other"]) fun _ _ _ _ _ _ us hl => match us, hl with | [_, _], _ => rfl
  have b5 := F5.binds (ps := ["thing"]) fun _ _ _ _ _ _ us hl => match us, hl with | [_], _ => rfl
  have b6 := F6.binds (ps := ["thing", "many"]) fun _ _ _ _ _ _ us hl => match us, hl with | [_, _], _ => rfl
  have b7 := F7.binds (ps := ["ends", "joining", "gap", "thing"]) fun _ _ _ _ _ _ us hl => match us, hl with | [_, _, _, _], _ => rfl
  have b8 := F8.binds (ps := ["many", "gap", "thing"]) fun _ _ _ _ _ _ us hl => match us, hl with | [_, _, _], _ => rfl
  have b9 := F9.binds (ps := ["many", "gap", "thing"]) fun _ _ _ _ _ _ us hl => match us, hl with | [_, _, _], _ => rfl
  have b10 := F10.binds (ps := ["many", "joining", "rows"]) fun _ _ _ _ _ _ us hl => match us, hl with | [_, _, _], _ => rfl
  have b11 := F11.binds (ps := ["many", "joining", "row"]) fun _ _ _ _ _ _ us hl => match us, hl with | [_, _, _], _ => rfl
  have b12 := F12.binds (ps := ["ends", "gap", "row"]) fun _ _ _ _ _ _ us hl => match us, hl with | [_, _, _], _ => rfl
  have b13 := F13.binds (ps := ["_law_script", "_law_k"]) fun _ _ _ _ _ _ us hl => match us, hl with | [_, _], _ => rfl
  have b14 := F14.binds (ps := ["_law_cell"]) fun _ _ _ _ _ _ us hl => match us, hl with | [_], _ => rfl
  have b15 := F15.binds (ps := ["_law_well_here", "_law_many"]) fun _ _ _ _ _ _ us hl => match us, hl with | [_, _], _ => rfl
  have b16 := F16.binds (ps := ["_law_well_here", "_law_way"]) fun _ _ _ _ _ _ us hl => match us, hl with | [_, _], _ => rfl
  have b17 := F17.binds (ps := ["_law_well_here", "_law_way"]) fun _ _ _ _ _ _ us hl => match us, hl with | [_, _], _ => rfl
  have b18 := F18.binds (ps := ["_law_well_here", "_law_most"]) fun _ _ _ _ _ _ us hl => match us, hl with | [_, _], _ => rfl
  have b19 := F19.binds (ps := ["_law_well_here", "_law_many"]) fun _ _ _ _ _ _ us hl => match us, hl with | [_, _], _ => rfl
  have b20 := F20.binds (ps := ["_law_one", "_law_other"]) fun _ _ _ _ _ _ us hl => match us, hl with | [_, _], _ => rfl
  have b21 := F21.binds (ps := ["_law_many", "_law_joining_here"]) fun _ _ _ _ _ _ us hl => match us, hl with | [_, _], _ => rfl
  have b22 := F22.binds (ps := ["_law_above_here", "_law_one", "_law_other"]) fun _ _ _ _ _ _ us hl => match us, hl with | [_, _, _], _ => rfl
  have b23 := F23.binds (ps := ["_law_thing", "_law_low"]) fun _ _ _ _ _ _ us hl => match us, hl with | [_, _], _ => rfl
  have b24 := F24.binds (ps := ["_law_many", "_law_gap_here", "_law_thing"]) fun _ _ _ _ _ _ us hl => match us, hl with | [_, _, _], _ => rfl
  have b25 := F25.binds (ps := ["_law_many", "_law_joining_here", "_law_rows_here"]) fun _ _ _ _ _ _ us hl => match us, hl with | [_, _, _], _ => rfl
  have b26 := F26.binds (ps := ["_law_top", "_law_bottom"]) fun _ _ _ _ _ _ us hl => match us, hl with | [_, _], _ => rfl
  have b27 := F27.binds (ps := ["_law_ends_here", "_law_joining_here", "_law_gap_here", "_law_thing"]) fun _ _ _ _ _ _ us hl => match us, hl with | [_, _, _, _], _ => rfl
  have b28 := F28.binds (ps := ["_law_ends_here", "_law_joining_here", "_law_gap_here", "_law_thing", "_law_due_here"]) fun _ _ _ _ _ _ us hl => match us, hl with | [_, _, _, _, _], _ => rfl
  have b29 := F29.binds (ps := ["_law_well_here"]) fun _ _ _ _ _ _ us hl => match us, hl with | [_], _ => rfl
  have b30 := F30.binds (ps := ["_law_well_here", "_law_way"]) fun _ _ _ _ _ _ us hl => match us, hl with | [_, _], _ => rfl
  have b31 := F31.binds (ps := ["_law_well_here", "_law_many", "_law_gap_here"]) fun _ _ _ _ _ _ us hl => match us, hl with | [_, _, _], _ => rfl
  have b32 := F32.binds (ps := ["_law_well_here", "_law_many"]) fun _ _ _ _ _ _ us hl => match us, hl with | [_, _], _ => rfl
  have b33 := F33.binds (ps := ["_law_ends_here", "_law_joining_here", "_law_rows_here", "_law_order_here"]) fun _ _ _ _ _ _ us hl => match us, hl with | [_, _, _, _], _ => rfl
  have b34 := F34.binds (ps := ["_law_rows_here"]) fun _ _ _ _ _ _ us hl => match us, hl with | [_], _ => rfl
  have b35 := F35.binds (ps := ["_law_script"]) fun _ _ _ _ _ _ us hl => match us, hl with | [_], _ => rfl
  refine ⟨PySem.W.fnOf "law" "law" (defArgs s_law) (defBody s_law) (defScope s_law) .none kV35 dc35 pm35 an35 cd35 ct35, [(q6, p6), (q7, p7), (q8, p8)], fun p hp => ?_, fun p hp => ?_, fun s v => .of_eq rfl, fun base _ _ TB => ?_⟩
  · simp only [List.mem_cons, List.not_mem_nil, or_false] at hp
    rcases hp with rfl | rfl | rfl
    · exact ⟨"are_wholes", by simp, Pu.tabIn_mk a6 l6 rfl u6 w6⟩
    · exact ⟨"times_shown", by simp, Pu.tabIn_mk a7 l7 rfl u7 w7⟩
    · exact ⟨"has_form", by simp, Pu.tabIn_mk a8 l8 rfl u8 w8⟩
  · simp only [List.mem_cons, List.not_mem_nil, or_false] at hp
    rcases hp with rfl | rfl | rfl
    · exact v6
    · exact v7
    · exact v8
  let T : Tx K mg base := ⟨_, _, F0, b0, PySem.W.mg_of X G a0, _, _, F1, b1, PySem.W.mg_of X G a1, _, _, F2, b2, PySem.W.mg_of X G a2, _, _, F3, b3, PySem.W.mg_of X G a3, _, _, F4, b4, PySem.W.mg_of X G a4, _, _, F5, b5, PySem.W.mg_of X G a5, _, _, F6, b6, PySem.W.mg_of X G a6, q6, p6, rfl, TB (q6, p6) (by simp), show p6 ∈ [p6, p7, p8] by simp, _, _, F7, b7, PySem.W.mg_of X G a7, q7, p7, rfl, TB (q7, p7) (by simp), show p7 ∈ [p6, p7, p8] by simp, _, _, F8, b8, PySem.W.mg_of X G a8, q8, p8, rfl, TB (q8, p8) (by simp), show p8 ∈ [p6, p7, p8] by simp, _, _, F9, b9, PySem.W.mg_of X G a9, _, _, F10, b10, PySem.W.mg_of X G a10, _, _, F11, b11, PySem.W.mg_of X G a11, _, _, F12, b12, PySem.W.mg_of X G a12, _, _, F13, b13, PySem.W.mg_of X G a13, _, _, F14, b14, PySem.W.mg_of X G a14, _, _, F15, b15, PySem.W.mg_of X G a15, _, _, F16, b16, PySem.W.mg_of X G a16, _, _, F17, b17, PySem.W.mg_of X G a17, _, _, F18, b18, PySem.W.mg_of X G a18, _, _, F19, b19, PySem.W.mg_of X G a19, _, _, F20, b20, PySem.W.mg_of X G a20, _, _, F21, b21, PySem.W.mg_of X G a21, _, _, F22, b22, PySem.W.mg_of X G a22, _, _, F23, b23, PySem.W.mg_of X G a23, _, _, F24, b24, PySem.W.mg_of X G a24, _, _, F25, b25, PySem.W.mg_of X G a25, _, _, F26, b26, PySem.W.mg_of X G a26, _, _, F27, b27, PySem.W.mg_of X G a27, _, _, F28, b28, PySem.W.mg_of X G a28, _, _, F29, b29, PySem.W.mg_of X G a29, _, _, F30, b30, PySem.W.mg_of X G a30, _, _, F31, b31, PySem.W.mg_of X G a31, _, _, F32, b32, PySem.W.mg_of X G a32, _, _, F33, b33, PySem.W.mg_of X G a33, _, _, F34, b34, PySem.W.mg_of X G a34, _, _, F35, b35, PySem.W.mg_of X G a35, PySem.W.mg_none_of X G z_len, PySem.W.mg_none_of X G z_int, PySem.W.mg_none_of X G z_range, PySem.W.mg_none_of X G z_max, PySem.W.mg_none_of X G z_min, PySem.W.mg_none_of X G z_enumerate, PySem.W.mg_none_of X G z_tuple, PySem.W.mg_none_of X G z_abs, PySem.W.mg_none_of X G z_bool, PySem.W.mg_none_of X G z_isinstance, PySem.W.mg_none_of X G z_all, PySem.W.mg_none_of X G z_any, PySem.W.mg_none_of X G z_sum, PySem.W.mg_none_of X G z_list, PySem.W.mg_none_of X G z_str, PySem.W.mg_none_of X G z_zip, PySem.W.mg_none_of X G z_sorted, PySem.W.mg_none_of X G z_dict⟩
  exact ok_law T
end Ew
open PySem PySem.W PyProof.Rows
set_option maxRecDepth 100000 in
set_option maxHeartbeats 0 in
theorem PySem.Challenge.cw_evenwires_k50_whole_the_same_fraction_holds : PySem.Challenge.rw_evenwires_k50_whole_the_same_fraction.Holds := by
  w_on; o_law; k_head; (case hw => w_witness2)
  k_fill
  refine Pu.walkT (l := PySem.Challenge.rw_evenwires_k50_whole_the_same_fraction) (k := 9) rfl rfl ⟨rfl, by decide, by decide⟩ (fun w h Y => PySem.W.kIn_of Y) ["are_wholes", "times_shown", "has_form"] (by first | rfl | decide +kernel) ?F
  case F =>
    intro w mg fa h KX G hmg
    refine' Ew.all_mk KX G hmg ?a0 ?l0 ?c0 ?k0 ?a1 ?l1 ?c1 ?k1 ?a2 ?l2 ?c2 ?k2 ?a3 ?l3 ?c3 ?k3 ?a4 ?l4 ?c4 ?k4 ?a5 ?l5 ?c5 ?k5 ?a6 ?l6 ?c6 ?k6 ?u6 ?w6 ?v6 ?a7 ?l7 ?c7 ?k7 ?u7 ?w7 ?v7 ?a8 ?l8 ?c8 ?k8 ?u8 ?w8 ?v8 ?a9 ?l9 ?c9 ?k9 ?a10 ?l10 ?c10 ?k10 ?a11 ?l11 ?c11 ?k11 ?a12 ?l12 ?c12 ?k12 ?a13 ?l13 ?c13 ?k13 ?a14 ?l14 ?c14 ?k14 ?a15 ?l15 ?c15 ?k15 ?a16 ?l16 ?c16 ?k16 ?a17 ?l17 ?c17 ?k17 ?a18 ?l18 ?c18 ?k18 ?a19 ?l19 ?c19 ?k19 ?a20 ?l20 ?c20 ?k20 ?a21 ?l21 ?c21 ?k21 ?a22 ?l22 ?c22 ?k22 ?a23 ?l23 ?c23 ?k23 ?a24 ?l24 ?c24 ?k24 ?a25 ?l25 ?c25 ?k25 ?a26 ?l26 ?c26 ?k26 ?a27 ?l27 ?c27 ?k27 ?a28 ?l28 ?c28 ?k28 ?a29 ?l29 ?c29 ?k29 ?a30 ?l30 ?c30 ?k30 ?a31 ?l31 ?c31 ?k31 ?a32 ?l32 ?c32 ?k32 ?a33 ?l33 ?c33 ?k33 ?a34 ?l34 ?c34 ?k34 ?a35 ?l35 ?c35 ?k35 ?z_len ?z_int ?z_range ?z_max ?z_min ?z_enumerate ?z_tuple ?z_abs ?z_bool ?z_isinstance ?z_all ?z_any ?z_sum ?z_list ?z_str ?z_zip ?z_sorted ?z_dict
    (case a0 => k_is)
    (case l0 => k_is)
    (case c0 => k_is)
    (case k0 => k_is)
    (case a1 => k_is)
    (case l1 => k_is)
    (case c1 => k_is)
    (case k1 => k_is)
    (case a2 => k_is)
    (case l2 => k_is)
    (case c2 => k_is)
    (case k2 => k_is)
    (case a3 => k_is)
    (case l3 => k_is)
    (case c3 => k_is)
    (case k3 => k_is)
    (case a4 => k_is)
    (case l4 => k_is)
    (case c4 => k_is)
    (case k4 => k_is)
    (case a5 => k_is)
    (case l5 => k_is)
    (case c5 => k_is)
    (case k5 => k_is)
    (case a6 => k_is)
    (case l6 => k_is)
    (case c6 => k_is)
    (case k6 => k_is)
    (case u6 => k_is)
    (case w6 => exact rfl)
    (case v6 => exact rfl)
    (case a7 => k_is)
    (case l7 => k_is)
    (case c7 => k_is)
    (case k7 => k_is)
    (case u7 => k_is)
    (case w7 => exact rfl)
    (case v7 => exact rfl)
    (case a8 => k_is)
    (case l8 => k_is)
    (case c8 => k_is)
    (case k8 => k_is)
    (case u8 => k_is)
    (case w8 => exact rfl)
    (case v8 => exact rfl)
    (case a9 => k_is)
    (case l9 => k_is)
    (case c9 => k_is)
    (case k9 => k_is)
    (case a10 => k_is)
    (case l10 => k_is)
    (case c10 => k_is)
    (case k10 => k_is)
    (case a11 => k_is)
    (case l11 => k_is)
    (case c11 => k_is)
    (case k11 => k_is)
    (case a12 => k_is)
    (case l12 => k_is)
    (case c12 => k_is)
    (case k12 => k_is)
    (case a13 => k_is)
    (case l13 => k_is)
    (case c13 => k_is)
    (case k13 => k_is)
    (case a14 => k_is)
    (case l14 => k_is)
    (case c14 => k_is)
    (case k14 => k_is)
    (case a15 => k_is)
    (case l15 => k_is)
    (case c15 => k_is)
    (case k15 => k_is)
    (case a16 => k_is)
    (case l16 => k_is)
    (case c16 => k_is)
    (case k16 => k_is)
    (case a17 => k_is)
    (case l17 => k_is)
    (case c17 => k_is)
    (case k17 => k_is)
    (case a18 => k_is)
    (case l18 => k_is)
    (case c18 => k_is)
    (case k18 => k_is)
    (case a19 => k_is)
    (case l19 => k_is)
    (case c19 => k_is)
    (case k19 => k_is)
    (case a20 => k_is)
    (case l20 => k_is)
    (case c20 => k_is)
    (case k20 => k_is)
    (case a21 => k_is)
    (case l21 => k_is)
    (case c21 => k_is)
    (case k21 => k_is)
    (case a22 => k_is)
    (case l22 => k_is)
    (case c22 => k_is)
    (case k22 => k_is)
    (case a23 => k_is)
    (case l23 => k_is)
    (case c23 => k_is)
    (case k23 => k_is)
    (case a24 => k_is)
    (case l24 => k_is)
    (case c24 => k_is)
    (case k24 => k_is)
    (case a25 => k_is)
    (case l25 => k_is)
    (case c25 => k_is)
    (case k25 => k_is)
    (case a26 => k_is)
    (case l26 => k_is)
    (case c26 => k_is)
    (case k26 => k_is)
    (case a27 => k_is)
    (case l27 => k_is)
    (case c27 => k_is)
    (case k27 => k_is)
    (case a28 => k_is)
    (case l28 => k_is)
    (case c28 => k_is)
    (case k28 => k_is)
    (case a29 => k_is)
    (case l29 => k_is)
    (case c29 => k_is)
    (case k29 => k_is)
    (case a30 => k_is)
    (case l30 => k_is)
    (case c30 => k_is)
    (case k30 => k_is)
    (case a31 => k_is)
    (case l31 => k_is)
    (case c31 => k_is)
    (case k31 => k_is)
    (case a32 => k_is)
    (case l32 => k_is)
    (case c32 => k_is)
    (case k32 => k_is)
    (case a33 => k_is)
    (case l33 => k_is)
    (case c33 => k_is)
    (case k33 => k_is)
    (case a34 => k_is)
    (case l34 => k_is)
    (case c34 => k_is)
    (case k34 => k_is)
    (case a35 => k_is)
    (case l35 => k_is)
    (case c35 => k_is)
    (case k35 => k_is)
    (case z_len => k_is)
    (case z_int => k_is)
    (case z_range => k_is)
    (case z_max => k_is)
    (case z_min => k_is)
    (case z_enumerate => k_is)
    (case z_tuple => k_is)
    (case z_abs => k_is)
    (case z_bool => k_is)
    (case z_isinstance => k_is)
    (case z_all => k_is)
    (case z_any => k_is)
    (case z_sum => k_is)
    (case z_list => k_is)
    (case z_str => k_is)
    (case z_zip => k_is)
    (case z_sorted => k_is)
    (case z_dict => k_is)

import PyProof.Rows.All
import Wide.All
import OpenK.AllK
import Wide.FinOn
import HandS.ForMost
import HandS.IsInst
import HandS.Style
import HandS.Wide
import HandS.NoneIn
import HandS.Codes
import HandS.TupAny
import HandS.TupLe
import HandS.Conv
import HandS.Deep
import HandS.AnyAll
import HandS.Strs
import HandS.Iter
import HandS.SortKw
import KE.GoesEnumKw
import KE.GoesNew
import KE.GoesMore
import HandS.RevRange
import HandS.SortInts
import HandS.Zip
import KE.GoesEnum
import HandS.More
import KE.DataMinMax
import KE.KTupSum
import HandS.TupMul
import HandS.SetFor
import HandS.Defaults
import PyProof.ReprRoads
import PyProof.ReprLen
import KE.KSortTupG
import PySem.Challenge.RW_evenwires_k58_joined_by_halves
set_option Elab.async false
set_option linter.all false
set_option maxRecDepth 100000
namespace Ew
open PySem PySem.Spec PyProof.Rows L2

/-- what may have happened between two heaps: only what stands in S is changed; tuples and locked things stay -/
structure Evo (S : List Addr) (H H' : Hp) : Prop where
  old : ∀ a o, H a = some o → a ∉ S → H' a = some o
  tup : ∀ a xs, H a = some (.tup xs) → H' a = some (.tup xs)
  frz : ∀ a o u, H a = some (.frz o u) → H' a = some (.frz o u)
section
variable {K : PySem.W.Frag} {S S' : List Addr} {H H1 H2 H' : Hp} {a p q : Addr} {o x y : HO} {xs ys : List V}
theorem get_new (hp : H p = none) (h : H a = some x) : upd H p o a = some x := by rw [upd_ne (ne_of_none h hp)]; exact h
theorem get_ne (hn : a ≠ p) (h : H a = some x) : upd H p o a = some x := by rw [upd_ne hn]; exact h
theorem Evo.refl (S : List Addr) (H : Hp) : Evo S H H := ⟨fun _ _ h _ => h, fun _ _ h => h, fun _ _ _ h => h⟩
theorem Evo.trans (e : Evo S H H1) (f : Evo S H1 H2) : Evo S H H2 := ⟨fun a o h n => f.old a o (e.old a o h n) n, fun a xs h => f.tup a xs (e.tup a xs h), fun a o u h => f.frz a o u (e.frz a o u h)⟩
/-- a new thing -/
theorem Evo.new (e : Evo S H H1) (hp : H1 p = none) : Evo S H (upd H1 p o) :=
  ⟨fun a u h n => get_new hp (e.old a u h n), fun a ys h => get_new hp (e.tup a ys h), fun a u v h => get_new hp (e.frz a u v h)⟩
/-- a thing that was not there at the beginning is changed -/
theorem Evo.mut (e : Evo S H H1) (hp : H p = none) : Evo S H (upd H1 p o) :=
  ⟨fun a u h n => get_ne (ne_of_none h hp) (e.old a u h n), fun a ys h => get_ne (ne_of_none h hp) (e.tup a ys h), fun a u v h => get_ne (ne_of_none h hp) (e.frz a u v h)⟩
/-- a thing of S is changed -/
theorem Evo.set (e : Evo S H H1) (hp : p ∈ S) (hm : ∀ ys, H p ≠ some (.tup ys)) (hf : ∀ u v, H p ≠ some (.frz u v)) : Evo S H (upd H1 p o) :=
  ⟨fun a u h n => get_ne (fun z => n (z ▸ hp)) (e.old a u h n), fun a ys h => get_ne (fun z => hm ys (z ▸ h)) (e.tup a ys h), fun a u v h => get_ne (fun z => hf u v (z ▸ h)) (e.frz a u v h)⟩
/-- a callee's changes -/
theorem Evo.call (e : Evo S H H1) (f : Evo S' H1 H2) (h : ∀ s ∈ S', s ∈ S ∨ H s = none) : Evo S H H2 :=
  ⟨fun a o ha n => f.old a o (e.old a o ha n) fun m => (h a m).elim n (fun z => nomatch (ha.symm.trans z)), fun a xs h => f.tup a xs (e.tup a xs h), fun a o u h => f.frz a o u (e.frz a o u h)⟩
theorem Evo.call0 (e : Evo S H H1) (f : Evo [] H1 H2) : Evo S H H2 := e.call f fun _ h => by cases h
theorem Evo.get (e : Evo S H H') (hn : a ∉ S) (h : H a = some x) : H' a = some x := e.old a x h hn
theorem Evo.sqT (e : Evo S H H') (h : SqT K H a xs) : SqT K H' a xs := by
  rcases h with (h | ⟨o, h⟩) | h
  · exact .inl (.inl (e.tup _ _ h))
  · exact .inl (.inr ⟨o, e.frz _ _ _ h⟩)
  · exact .inr h
theorem Evo.fresh (e : Evo [] H H') (h : H' p = none) : H p = none := by
  cases q : H p with
  | none => rfl
  | some o =>
    rw [e.old p o q (by intro z; cases z)] at h
    cases h
theorem sqT_new (hp : H p = none) (h : SqT K H a xs) : SqT K (upd H p o) a xs := ((Evo.refl [] H).new hp).sqT h
theorem sqT_mut (hm : H p = some (.lst ys)) (h : SqT K H a xs) : SqT K (upd H p o) a xs := by
  rcases h with (h | ⟨o, h⟩) | h
  · exact .inl (.inl (get_ne (ne_of h hm (by intro z; cases z)) h))
  · exact .inl (.inr ⟨o, get_ne (ne_of h hm (by intro z; cases z)) h⟩)
  · exact .inr h
theorem sqT_mutD {kvs : List (Key × V)} (hm : H p = some (.dK kvs)) (h : SqT K H a xs) : SqT K (upd H p o) a xs := by
  rcases h with (h | ⟨o, h⟩) | h
  · exact .inl (.inl (get_ne (ne_of h hm (by intro z; cases z)) h))
  · exact .inl (.inr ⟨o, get_ne (ne_of h hm (by intro z; cases z)) h⟩)
  · exact .inr h
end
theorem sz {n : Nat} (h : n ≤ 100000) : n ≤ sizeLine := Nat.le_trans h (by decide)
theorem szl {n : Nat} (h : n < 100000) : n < sizeLine := Nat.lt_of_lt_of_le h (by decide)
section
variable {H : Hp} {a : Addr} {kvs kvs' : List (Key × V)} {s : Str} {v : V}
theorem dget (h : H a = some (.dK kvs)) (e : valV kvs (.inr s) = some v) : DGet H a (.str s) (some v) := e ▸ DGet.k (k := Sum.inr s) h
theorem dput (h : H a = some (.dK kvs)) (hl : kvs.length ≤ 1000) (e : putK kvs (.inr s) v = kvs') : DPut H a (.str s) v (upd H a (.dK kvs')) := e ▸ DPut.k (k := Sum.inr s) h (small1000 hl)
end
/-- a test by its answer -/
theorem iteD {c : Prop} [Decidable c] {A B : Prop} (h1 : c → A) (h2 : ¬ c → B) : if decide c = true then A else B := by
  by_cases h : c
  · rw [if_pos (decide_eq_true h)]; exact h1 h
  · rw [if_neg (by rw [decide_eq_false h]; exact Bool.false_ne_true)]; exact h2 h
theorem iteN {c : Prop} [Decidable c] {A B : Prop} (h1 : ¬ c → A) (h2 : c → B) : if (!decide c) = true then A else B := by
  by_cases h : c
  · rw [if_neg (by rw [decide_eq_true h]; exact Bool.false_ne_true)]; exact h2 h
  · rw [if_pos (by rw [decide_eq_false h]; rfl)]; exact h1 h
theorem iteB {b : Bool} {A B : Prop} (h1 : b = true → A) (h2 : b = false → B) : if b = true then A else B := by
  cases b with
  | true => exact h1 rfl
  | false => exact h2 rfl
end Ew
namespace Ew
open PySem PySem.Spec PyProof.Rows L2
/-! readings by lemmas: what is asked, in the form that it has when it is asked -/
section
variable {K : PySem.W.Frag} {H : Hp} {a b p : Addr} {xs ys : List V} {i : Int} {v x y : V} {R : V → Prop} {kvs kvs' : List (Key × V)} {s : Str}
theorem ixT (h : SqT K H p xs) (e : atI xs i = some v) (k : R v) : ∃ p' xs' i' v', V.ref p = .ref p' ∧ V.int i = .int i' ∧ SqT K H p' xs' ∧ atI xs' i' = some v' ∧ R v' := ⟨p, xs, i, v, rfl, rfl, h, e, k⟩
theorem ixL (h : SqL K H p xs) (e : atI xs i = some v) (k : R v) : ∃ p' xs' i' v', V.ref p = .ref p' ∧ V.int i = .int i' ∧ SqL K H p' xs' ∧ atI xs' i' = some v' ∧ R v' := ⟨p, xs, i, v, rfl, rfl, h, e, k⟩
theorem dgetE (h : H a = some (.dK kvs)) (e : valV kvs (.inr s) = some v) (k : R v) : ∃ a' v', V.ref a = .ref a' ∧ DGet H a' (.str s) (some v') ∧ R v' := ⟨a, v, rfl, dget h e, k⟩
theorem dputE {R : Hp → Prop} (h : H a = some (.dK kvs)) (e : putK kvs (.inr s) v = kvs') (k : R (upd H a (.dK kvs'))) (hl : kvs.length ≤ 1000) : ∃ a' H4, V.ref a = .ref a' ∧ DPut H a' (.str s) v H4 ∧ R H4 := ⟨a, _, rfl, dput h hl e, k⟩
theorem lenT {R : List V → Prop} (h : SqT K H p xs) (k : R xs) : ∃ p' ys, [V.ref p] = [.ref p'] ∧ (SqL K H p' ys ∨ SqT K H p' ys) ∧ R ys := ⟨p, xs, rfl, .inr h, k⟩
theorem lenL {R : List V → Prop} (h : SqL K H p xs) (k : R xs) : ∃ p' ys, [V.ref p] = [.ref p'] ∧ (SqL K H p' ys ∨ SqT K H p' ys) ∧ R ys := ⟨p, xs, rfl, .inl h, k⟩
theorem iib {R : Bool → Prop} {x : V} {n : String} {t : Value} {r : Bool} (ht : TyOf K H x t) (hb : PySem.W.kitOne K t (.type n) = some r) (k : R r) : ∃ (x' c : V) (t u : Value) (b : Bool), [x, V.ty n] = [x', c] ∧ ClsV c u ∧ TyX K H x' t ∧ PySem.W.kitOne K t u = some b ∧ R b :=
  ⟨x, .ty n, t, .type n, r, rfl, .ty n, .base ht, hb, k⟩
theorem lt2 {b : Bool} {r : V} : ∀ {i : Int}, 0 ≤ i → i < 2 → i = 0 ∨ i = 1 := by intro i h1 h2; omega
end
theorem apd {H : Hp} {l : Addr} {xs : List V} {y : V} {R : Addr → List V → V → Prop} (h : H l = some (.lst xs)) (hl : xs.length ≤ 1000) (k : R l xs y) : ∃ l' xs' y', V.ref l = .ref l' ∧ [y] = [y'] ∧ H l' = some (.lst xs') ∧ xs'.length < sizeLine ∧ R l' xs' y' :=
  ⟨l, xs, y, rfl, rfl, h, small1000 hl, k⟩
end Ew
namespace Ew
open PySem PySem.Spec PyProof.Rows L2
theorem tup_mut {H : Hp} {a p : Addr} {o : HO} {xs ys : List V} (hm : H p = some (.lst ys)) (h : H a = some (.tup xs)) : upd H p o a = some (.tup xs) := get_ne (ne_of h hm (by intro z; cases z)) h
theorem tup_mutD {H : Hp} {a p : Addr} {o : HO} {xs : List V} {kvs : List (Key × V)} (hm : H p = some (.dK kvs)) (h : H a = some (.tup xs)) : upd H p o a = some (.tup xs) := get_ne (ne_of h hm (by intro z; cases z)) h
theorem Evo.tupE {S : List Addr} {H H' : Hp} {a : Addr} {xs : List V} (e : Evo S H H') (h : H a = some (.tup xs)) : H' a = some (.tup xs) := e.tup a xs h
/-- a written power -/
theorem op_powC {X : Cx} (b e r : Int) (hc : CPow b e := by exact ⟨by decide, by decide, by decide⟩) (hr : b ^ e.toNat = r := by rfl) : OpR X (binaryOp .Pow) (fun x y H Q => x = .int b ∧ y = .int e ∧ Q (.int r) H) :=
  fun pins s σ H x y v u Q I rx ry h => op_pow pins s σ H x y v u Q I rx ry ⟨b, e, h.1, h.2.1, hc, by show Q (.int (b ^ e.toNat)) H; rw [hr]; exact h.2.2⟩
end Ew
namespace Ew
open PySem PySem.Spec PyProof.Rows L2
/-! data that are rows of whole numbers -/
def intsOf : List V → Option (List Int)
  | [] => some []
  | .int i :: r => match intsOf r with
    | some z => some (i :: z)
    | none => none
  | _ => none
theorem intsOf_map : ∀ {vs : List V} {xs : List Int}, intsOf vs = some xs → vs = xs.map V.int
  | [], _, h => by cases h; rfl
  | .int i :: r, xs, h => by
    unfold intsOf at h
    cases e : intsOf r with
    | none => rw [e] at h; cases h
    | some z =>
      rw [e] at h
      cases h
      rw [intsOf_map e]
      rfl
  | .non :: _, _, h => by cases h
  | .bl _ :: _, _, h => by cases h
  | .str _ :: _, _, h => by cases h
  | .byt _ :: _, _, h => by cases h
  | .flt _ :: _, _, h => by cases h
  | .ref _ :: _, _, h => by cases h
  | .ty _ :: _, _, h => by cases h
theorem intsOf_of : ∀ xs : List Int, intsOf (xs.map V.int) = some xs
  | [] => rfl
  | x :: r => by
    show (match intsOf (r.map V.int) with | some z => some (x :: z) | none => none) = _
    rw [intsOf_of r]
theorem dpInts {K : PySem.W.Frag} {H : Hp} : ∀ xs : List Int, DpAll K H (xs.map V.int) (xs.map PyData.int)
  | [] => .nil
  | x :: r => .cons (.int x) (dpInts r)
theorem canInts : ∀ xs : List Int, PyData.canLayAll0 (xs.map PyData.int) = true
  | [] => by simp [PyData.canLayAll0]
  | x :: r => by
    show PyData.canLayAll0 (PyData.int x :: r.map PyData.int) = true
    simp [PyData.canLayAll0, PyData.canLay0, canInts r]
theorem depInts : ∀ xs : List Int, PyData.depthAll (xs.map PyData.int) ≤ 1
  | [] => by simp [PyData.depthAll]
  | x :: r => by
    show PyData.depthAll (PyData.int x :: r.map PyData.int) ≤ 1
    have h := depInts r
    simp [PyData.depthAll, PyData.depth]
    omega
theorem shInts (xs : List Int) : SeqAt.shaped (.tuple (xs.map PyData.int)) = true := by
  have h := depInts xs
  simp [SeqAt.shaped, PyData.canLay0, canInts xs, PyData.depth]
  omega
theorem shIntsL (xs : List Int) : SeqAt.shaped (.list (xs.map PyData.int)) = true := by
  have h := depInts xs
  simp [SeqAt.shaped, PyData.canLay0, canInts xs, PyData.depth]
  omega
theorem eqvAllInts : ∀ xs ys : List Int, PyData.eqvAll (xs.map PyData.int) (ys.map PyData.int) = decide (xs = ys)
  | [], [] => by simp [PyData.eqvAll]
  | [], y :: _ => by simp [PyData.eqvAll]
  | x :: _, [] => by simp [PyData.eqvAll]
  | x :: r, y :: q => by
    show PyData.eqvAll (PyData.int x :: r.map PyData.int) (PyData.int y :: q.map PyData.int) = _
    have e : PyData.eqvAll (PyData.int x :: r.map PyData.int) (PyData.int y :: q.map PyData.int) = ((x == y) && PyData.eqvAll (r.map PyData.int) (q.map PyData.int)) := by simp [PyData.eqvAll, PyData.eqv]
    rw [e, eqvAllInts r q]
    by_cases h : x = y
    · by_cases h2 : r = q
      · simp [h, h2]
      · simp [h, h2]
    · simp [h]
theorem eqvT (xs ys : List Int) : PyData.eqv (.tuple (xs.map PyData.int)) (.tuple (ys.map PyData.int)) = decide (xs = ys) := by
  rw [← eqvAllInts]; simp [PyData.eqv]
theorem eqvL (xs ys : List Int) : PyData.eqv (.list (xs.map PyData.int)) (.list (ys.map PyData.int)) = decide (xs = ys) := by
  rw [← eqvAllInts]; simp [PyData.eqv]
section
variable {K : PySem.W.Frag} {H : Hp} {a b p : Addr} {vs us : List V} {xs ys : List Int} {R : V → Prop}
/-- == of data: its answer -/
def EqR (K : PySem.W.Frag) (H : Hp) (x y : V) (c : Bool) : Prop := ∃ d e, Dp K H x d ∧ Dp K H y e ∧ SeqAt.shaped d = true ∧ SeqAt.shaped e = true ∧ PyData.eqv d e = c
def rEqX (K : PySem.W.Frag) : R2 := fun x y H Q => ∃ c, EqR K H x y c ∧ Q (.bl c) H
def rNeX (K : PySem.W.Frag) : R2 := fun x y H Q => ∃ c, EqR K H x y c ∧ Q (.bl (!c)) H
theorem op_eqX {X : Cx} (hu : X.A.units + 64 < cLine) : OpR X (compareOp .Eq) (rEqX X.K) := fun pins s σ H x y v u Q I rx ry ⟨c, ⟨d, e, h1, h2, h3, h4, h5⟩, q⟩ =>
  op_eqD hu pins s σ H x y v u Q I rx ry ⟨d, e, h1, h2, h3, h4, h5 ▸ q⟩
theorem op_neX {X : Cx} (hu : X.A.units + 64 < cLine) : OpR X (compareOp .NotEq) (rNeX X.K) := fun pins s σ H x y v u Q I rx ry ⟨c, ⟨d, e, h1, h2, h3, h4, h5⟩, q⟩ =>
  op_neD hu pins s σ H x y v u Q I rx ry ⟨d, e, h1, h2, h3, h4, h5 ▸ q⟩
theorem eqT (h1 : H a = some (.tup vs)) (h2 : H b = some (.tup us)) (e1 : intsOf vs = some xs) (e2 : intsOf us = some ys) : EqR K H (.ref a) (.ref b) (decide (xs = ys)) := by
  have q1 := intsOf_map e1; have q2 := intsOf_map e2; subst q1 q2
  exact ⟨_, _, .tup (SqT.of h1) (dpInts xs), .tup (SqT.of h2) (dpInts ys), shInts _, shInts _, eqvT _ _⟩
theorem eqL (h1 : H a = some (.lst vs)) (h2 : H b = some (.lst us)) (e1 : intsOf vs = some xs) (e2 : intsOf us = some ys) : EqR K H (.ref a) (.ref b) (decide (xs = ys)) := by
  have q1 := intsOf_map e1; have q2 := intsOf_map e2; subst q1 q2
  exact ⟨_, _, .lst (SqL.of h1) (dpInts xs), .lst (SqL.of h2) (dpInts ys), shIntsL _, shIntsL _, eqvL _ _⟩
end
theorem sqL_new {K : PySem.W.Frag} {H : Hp} {a p : Addr} {o : HO} {xs : List V} (hp : H p = none) (h : SqL K H a xs) : SqL K (upd H p o) a xs := by
  rcases h with (h | ⟨o, h⟩) | h
  · exact .inl (.inl (get_new hp h))
  · exact .inl (.inr ⟨o, get_new hp h⟩)
  · exact .inr h
theorem cut63 {xs : List V} (h : xs.length ≤ 63) : cutV xs none (some 63) = xs := by
  unfold cutV
  rw [show HT.sIx xs.length xs.length (some 63) = min 63 xs.length from HT.sIx_nat xs.length xs.length 63, HT.sIx_none, List.drop_zero, Nat.sub_zero]
  exact List.take_of_length_le (by omega)
end Ew
namespace Ew
open PySem PySem.Spec PyProof.Rows L2
/-! == of whole numbers, of truths -/
theorem decV {i j : Int} : decide (V.int i = V.int j) = decide (i = j) := by
  by_cases h : i = j
  · subst h; simp
  · rw [decide_eq_false h, decide_eq_false fun e => h (V.int.inj e)]
theorem decB {i j : Bool} : decide (V.bl i = V.bl j) = decide (i = j) := by
  by_cases h : i = j
  · subst h; simp
  · rw [decide_eq_false h, decide_eq_false fun e => h (V.bl.inj e)]
section
variable {X : Cx}
theorem op_eqI : OpR X (compareOp .Eq) (fun x y H Q => ∃ i j, x = .int i ∧ y = .int j ∧ Q (.bl (decide (i = j))) H) := fun pins s σ H x y v u Q I rx ry ⟨i, j, h1, h2, q⟩ =>
  op_eq pins s σ H x y v u Q I rx ry ⟨by rw [h1, h2]; rfl, by rw [h1, h2, decV]; exact q⟩
theorem op_neI : OpR X (compareOp .NotEq) (fun x y H Q => ∃ i j, x = .int i ∧ y = .int j ∧ Q (.bl (!decide (i = j))) H) := fun pins s σ H x y v u Q I rx ry ⟨i, j, h1, h2, q⟩ =>
  op_ne pins s σ H x y v u Q I rx ry ⟨by rw [h1, h2]; rfl, by rw [h1, h2, decV]; exact q⟩
theorem op_eqB : OpR X (compareOp .Eq) (fun x y H Q => ∃ i j, x = .bl i ∧ y = .bl j ∧ Q (.bl (decide (i = j))) H) := fun pins s σ H x y v u Q I rx ry ⟨i, j, h1, h2, q⟩ =>
  op_eq pins s σ H x y v u Q I rx ry ⟨by rw [h1, h2]; rfl, by rw [h1, h2, decB]; exact q⟩
theorem op_neB : OpR X (compareOp .NotEq) (fun x y H Q => ∃ i j, x = .bl i ∧ y = .bl j ∧ Q (.bl (!decide (i = j))) H) := fun pins s σ H x y v u Q I rx ry ⟨i, j, h1, h2, q⟩ =>
  op_ne pins s σ H x y v u Q I rx ry ⟨by rw [h1, h2]; rfl, by rw [h1, h2, decB]; exact q⟩
end
end Ew
namespace Ew
open PySem PySem.Spec PyProof.Rows L2
theorem Qeq {Q : VK} {H : Hp} {v v' : V} (e : v = v') (k : Q v H) : Q v' H := e ▸ k
section
variable {K : PySem.W.Frag} {H : Hp} {R : Bool → Prop}
theorem ii_ii {a : Int} (k : R true) : ∃ (x' c : V) (t u : Value) (b : Bool), [V.int a, V.ty "int"] = [x', c] ∧ ClsV c u ∧ TyX K H x' t ∧ PySem.W.kitOne K t u = some b ∧ R b := iib (.int _) (kit_ty (by decide +kernel)) k
theorem ii_ib {a : Int} (k : R false) : ∃ (x' c : V) (t u : Value) (b : Bool), [V.int a, V.ty "bool"] = [x', c] ∧ ClsV c u ∧ TyX K H x' t ∧ PySem.W.kitOne K t u = some b ∧ R b := iib (.int _) (kit_ty (by decide +kernel)) k
theorem ii_it {a : Int} (k : R false) : ∃ (x' c : V) (t u : Value) (b : Bool), [V.int a, V.ty "tuple"] = [x', c] ∧ ClsV c u ∧ TyX K H x' t ∧ PySem.W.kitOne K t u = some b ∧ R b := iib (.int _) (kit_ty (by decide +kernel)) k
theorem ii_bb {a : Bool} (k : R true) : ∃ (x' c : V) (t u : Value) (b : Bool), [V.bl a, V.ty "bool"] = [x', c] ∧ ClsV c u ∧ TyX K H x' t ∧ PySem.W.kitOne K t u = some b ∧ R b := iib (.bl _) (kit_ty (by decide +kernel)) k
theorem ii_bi {a : Bool} (k : R true) : ∃ (x' c : V) (t u : Value) (b : Bool), [V.bl a, V.ty "int"] = [x', c] ∧ ClsV c u ∧ TyX K H x' t ∧ PySem.W.kitOne K t u = some b ∧ R b := iib (.bl _) (kit_ty (by decide +kernel)) k
theorem ii_tt {a : Addr} {xs : List V} (h : H a = some (.tup xs)) (k : R true) : ∃ (x' c : V) (t u : Value) (b : Bool), [V.ref a, V.ty "tuple"] = [x', c] ∧ ClsV c u ∧ TyX K H x' t ∧ PySem.W.kitOne K t u = some b ∧ R b := iib (.tup h) (kit_ty (by decide +kernel)) k
end
end Ew
namespace Ew
open PySem PySem.Spec PyProof.Rows L2
def rLen (K : PySem.W.Frag) : List V → Hp → VK → Prop := fun xs H Q => ∃ p ys, xs = [.ref p] ∧ (SqL K H p ys ∨ SqT K H p ys) ∧ Q (.int ys.length) H
theorem call_len {X : Cx} : CallR X (.builtin "len") (rLen X.K) := call_len_seq
def rTupleOf (K : PySem.W.Frag) : List V → Hp → VK → Prop := fun xs H Q => ∃ p ys, xs = [.ref p] ∧ ((SqL K H p ys ∧ ∀ l, H l = none → Q (.ref l) (upd H l (.tup ys))) ∨ (SqT K H p ys ∧ Q (.ref p) H))
theorem call_tuple {X : Cx} : CallR X (.type "tuple") (rTupleOf X.K) := call_tuple_of
end Ew
namespace Ew
open PySem PySem.Spec PyProof.Rows L2
/-- [a, b][int(test)] -/
theorem ixB {K : PySem.W.Frag} {H : Hp} {p : Addr} {a0 a1 : V} {b : Bool} {R : V → Prop} (h : SqL K H p [a0, a1]) (k0 : b = false → R a0) (k1 : b = true → R a1) :
    ∃ p' xs' i' v', V.ref p = .ref p' ∧ V.int (if b = true then 1 else 0) = .int i' ∧ SqL K H p' xs' ∧ atI xs' i' = some v' ∧ R v' := by
  cases b with
  | false => exact ⟨p, _, 0, a0, rfl, rfl, h, rfl, k0 rfl⟩
  | true => exact ⟨p, _, 1, a1, rfl, rfl, h, rfl, k1 rfl⟩
theorem inI {x : Int} {xs : List Int} : inV (.int x) (xs.map V.int) = decide (x ∈ xs) := by
  induction xs with
  | nil => rfl
  | cons y r ih =>
    have e : inV (.int x) ((y :: r).map V.int) = (eqV (.int y) (.int x) || inV (.int x) (r.map V.int)) := rfl
    rw [e, ih]
    have e2 : eqV (.int y) (.int x) = decide (y = x) := by
      show (y == x) = _
      by_cases h : y = x
      · simp [h]
      · simp [h]
    rw [e2]
    by_cases h : y = x
    · simp [h]
    · have h' : ¬ x = y := fun e => h e.symm
      simp [h, h']
end Ew
namespace Ew
abbrev ab (x : Int) : Int := if x < 0 then -x else x
end Ew
namespace Ew
open PySem PySem.Spec PyProof.Rows L2
def isImm : HO → Bool
  | .tup _ => true
  | _ => false
theorem Evo.getI {S : List Addr} {H H' : Hp} {a : Addr} {x : HO} (e : Evo S H H') (h : H a = some x) (hx : isImm x = true) : H' a = some x := by
  cases x with
  | tup xs => exact e.tup a xs h
  | _ => cases hx
theorem getI_mut {H : Hp} {a p : Addr} {o x : HO} {ys : List V} (hm : H p = some (.lst ys)) (h : H a = some x) (hx : isImm x = true) : upd H p o a = some x :=
  get_ne (ne_of h hm (by intro z; rw [z] at hx; cases hx)) h
theorem getI_mutD {H : Hp} {a p : Addr} {o x : HO} {kvs : List (Key × V)} (hm : H p = some (.dK kvs)) (h : H a = some x) (hx : isImm x = true) : upd H p o a = some x :=
  get_ne (ne_of h hm (by intro z; rw [z] at hx; cases hx)) h
end Ew
namespace Ew
open PySem PySem.Spec PyProof.Rows L2
/-! lists of rows of whole numbers -/
inductive RowsAt (H : Hp) : List V → List (List Int) → Prop
  | nil : RowsAt H [] []
  | cons {a : Addr} {vs : List V} {r : List Int} {rs : List (List Int)} : H a = some (.tup (r.map V.int)) → RowsAt H vs rs → RowsAt H (.ref a :: vs) (r :: rs)
theorem RowsAt.mono {H H' : Hp} (f : ∀ a xs, H a = some (.tup xs) → H' a = some (.tup xs)) : ∀ {vs : List V} {rs : List (List Int)}, RowsAt H vs rs → RowsAt H' vs rs
  | _, _, .nil => .nil
  | _, _, .cons h t => .cons (f _ _ h) (RowsAt.mono f t)
theorem RowsAt.evo {S : List Addr} {H H' : Hp} {vs : List V} {rs : List (List Int)} (e : Evo S H H') (h : RowsAt H vs rs) : RowsAt H' vs rs := h.mono e.tup
theorem RowsAt.new {H : Hp} {p : Addr} {o : HO} {vs : List V} {rs : List (List Int)} (h : RowsAt H vs rs) (hp : H p = none) : RowsAt (upd H p o) vs rs := h.mono fun _ _ q => get_new hp q
theorem RowsAt.mut {H : Hp} {p : Addr} {o : HO} {ys vs : List V} {rs : List (List Int)} (h : RowsAt H vs rs) (hp : H p = some (.lst ys)) : RowsAt (upd H p o) vs rs := h.mono fun _ _ q => tup_mut hp q
theorem RowsAt.length {H : Hp} : ∀ {vs : List V} {rs : List (List Int)}, RowsAt H vs rs → vs.length = rs.length
  | _, _, .nil => rfl
  | _, _, .cons _ t => congrArg Nat.succ (RowsAt.length t)
theorem RowsAt.snoc {H : Hp} {a : Addr} {r : List Int} (h : H a = some (.tup (r.map V.int))) : ∀ {vs : List V} {rs : List (List Int)}, RowsAt H vs rs → RowsAt H (vs ++ [.ref a]) (rs ++ [r])
  | _, _, .nil => .cons h .nil
  | _, _, .cons q t => .cons q (RowsAt.snoc h t)
theorem RowsAt.get {H : Hp} : ∀ {vs : List V} {rs : List (List Int)} {i : Nat} {r : List Int}, RowsAt H vs rs → rs[i]? = some r → ∃ a, vs[i]? = some (.ref a) ∧ H a = some (.tup (r.map V.int))
  | _, _, _, _, .nil, e => by cases e
  | _, _, 0, _, .cons q _, e => by cases e; exact ⟨_, rfl, q⟩
  | _, _, i + 1, _, .cons _ t, e => RowsAt.get (i := i) t e
theorem RowsAt.dp {K : PySem.W.Frag} {H : Hp} : ∀ {vs : List V} {rs : List (List Int)}, RowsAt H vs rs → DpAll K H vs (rs.map fun r => .tuple (r.map PyData.int))
  | _, _, .nil => .nil
  | _, _, .cons h t => .cons (.tup (SqT.of h) (dpInts _)) (RowsAt.dp t)
theorem canRows : ∀ rs : List (List Int), PyData.canLayAll0 (rs.map fun r => .tuple (r.map PyData.int)) = true
  | [] => by simp [PyData.canLayAll0]
  | r :: q => by
    show PyData.canLayAll0 (PyData.tuple (r.map PyData.int) :: q.map fun r => .tuple (r.map PyData.int)) = true
    have h := canRows q
    simp only [PyData.canLayAll0, PyData.canLay0, canInts r, h]
    rfl
theorem depRows : ∀ rs : List (List Int), PyData.depthAll (rs.map fun r => .tuple (r.map PyData.int)) ≤ 2
  | [] => by simp [PyData.depthAll]
  | r :: q => by
    show PyData.depthAll (PyData.tuple (r.map PyData.int) :: q.map fun r => .tuple (r.map PyData.int)) ≤ 2
    have h := depRows q
    have h2 := depInts r
    simp only [PyData.depthAll, PyData.depth]
    omega
theorem shRows (rs : List (List Int)) : SeqAt.shaped (.list (rs.map fun r => .tuple (r.map PyData.int))) = true := by
  have h := depRows rs
  have h2 := canRows rs
  simp [SeqAt.shaped, PyData.canLay0, h2, PyData.depth]
  omega
theorem shRowsT (rs : List (List Int)) : SeqAt.shaped (.tuple (rs.map fun r => .tuple (r.map PyData.int))) = true := by
  have h := depRows rs
  have h2 := canRows rs
  simp [SeqAt.shaped, PyData.canLay0, h2, PyData.depth]
  omega
theorem eqNil {K : PySem.W.Frag} {H : Hp} {l e : Addr} {vs : List V} {rs : List (List Int)} (h : H l = some (.lst vs)) (hr : RowsAt H vs rs) (he : H e = some (.lst [])) : EqR K H (.ref l) (.ref e) (decide (rs = [])) := by
  refine ⟨_, _, .lst (SqL.of h) hr.dp, .lst (SqL.of he) .nil, shRows rs, shRows [], ?_⟩
  cases rs with
  | nil => simp [PyData.eqv, PyData.eqvAll]
  | cons r q => simp [PyData.eqv, PyData.eqvAll]
end Ew
namespace Ew
open PySem PySem.Spec PyProof.Rows L2
theorem RowsAt.last {H : Hp} : ∀ {vs : List V} {rs : List (List Int)}, RowsAt H vs rs → rs ≠ [] → ∃ vs' q rs' r, vs = vs' ++ [.ref q] ∧ rs = rs' ++ [r] ∧ H q = some (.tup (r.map V.int))
  | _, _, .nil, h => absurd rfl h
  | _, _, @RowsAt.cons _ a vs r rs h t, _ => by
    cases rs with
    | nil =>
      cases t
      exact ⟨[], a, [], r, rfl, rfl, h⟩
    | cons r1 rs1 =>
      obtain ⟨vs', q, rs', r', e1, e2, hq⟩ := RowsAt.last t (by intro z; cases z)
      exact ⟨.ref a :: vs', q, r :: rs', r', by rw [e1]; rfl, by rw [e2]; rfl, hq⟩
end Ew
namespace Ew
open PySem PySem.Spec PyProof.Rows L2
/-- an item of a written row of whole numbers, at any place within it -/
theorem ixI {K : PySem.W.Frag} {H : Hp} {p : Addr} {vs : List V} {ns : List Int} {i : Int} {R : V → Prop} (h : SqL K H p vs) (e : intsOf vs = some ns) (h0 : 0 ≤ i) (h1 : i < ns.length) (k : ∀ z, z ∈ ns → R (.int z)) :
    ∃ p' xs' i' v', V.ref p = .ref p' ∧ V.int i = .int i' ∧ SqL K H p' xs' ∧ atI xs' i' = some v' ∧ R v' := by
  have q := intsOf_map e
  subst q
  have hi : i.toNat < ns.length := by omega
  refine ⟨p, _, i, .int ns[i.toNat], rfl, rfl, h, ?_, k _ (List.getElem_mem hi)⟩
  exact at_of (j := i.toNat) (by omega) (by rw [List.getElem?_map, List.getElem?_eq_getElem hi]; rfl)
/-- a list or a tuple -/
def Sq2 (H : Hp) (a : Addr) (vs : List V) : Prop := H a = some (.lst vs) ∨ H a = some (.tup vs)
theorem ixQ {K : PySem.W.Frag} {H : Hp} {p : Addr} {xs : List V} {i : Int} {v : V} {R : V → Prop} {Z : Prop} (h : Sq2 H p xs) (e : atI xs i = some v) (k : R v) :
    (∃ p' xs' i' v', V.ref p = .ref p' ∧ V.int i = .int i' ∧ SqL K H p' xs' ∧ atI xs' i' = some v' ∧ R v') ∨ (∃ p' xs' i' v', V.ref p = .ref p' ∧ V.int i = .int i' ∧ SqT K H p' xs' ∧ atI xs' i' = some v' ∧ R v') ∨ Z := by
  rcases h with h | h
  · exact .inl (ixL (SqL.of h) e k)
  · exact .inr (.inl (ixT (SqT.of h) e k))
end Ew
namespace Ew
open PySem PySem.Spec PyProof.Rows L2
/-! slices, by what they come to -/
def rSlE (K : PySem.W.Frag) : V → Option Int → Option Int → Hp → VK → Prop := fun x lo hi H Q => ∃ a xs ys, x = .ref a ∧ SqL K H a xs ∧ cutV xs lo hi = ys ∧ ∀ p, H p = none → Q (.ref p) (upd H p (.lst ys))
theorem sl_listE {X : Cx} : SlR X (rSlE X.K) := fun pins s σ H x v vl vu lo hi sl Q I rx hs pl pu ⟨a, xs, ys, h1, h2, h3, h4⟩ =>
  sl_list pins s σ H x v vl vu lo hi sl Q I rx hs pl pu ⟨a, xs, h1, h2, fun p hp => h3 ▸ h4 p hp⟩
def rSlTE (K : PySem.W.Frag) : V → Option Int → Option Int → Hp → VK → Prop := fun x lo hi H Q => ∃ a xs ys, x = .ref a ∧ SqT K H a xs ∧ cutV xs lo hi = ys ∧ ys.length < xs.length ∧ ∀ p, H p = none → Q (.ref p) (upd H p (.tup ys))
theorem sl_tupE {X : Cx} : SlR X (rSlTE X.K) := fun pins s σ H x v vl vu lo hi sl Q I rx hs pl pu ⟨a, xs, ys, h1, h2, h3, h5, h4⟩ =>
  sl_tup pins s σ H x v vl vu lo hi sl Q I rx hs pl pu ⟨a, xs, h1, h2, fun ⟨e1, e2⟩ => by
    have e3 : cutV xs lo hi = xs := by unfold cutV; rw [e1, e2]; simp
    rw [← h3, e3] at h5
    exact Nat.lt_irrefl _ h5, fun p hp => h3 ▸ h4 p hp⟩
section
variable {a b c d : V}
theorem cut_lo2 : cutV [a, b, c, d] none (some 2) = [a, b] := rfl
theorem cut_hi2 : cutV [a, b, c, d] (some 2) none = [c, d] := rfl
end
end Ew

/-- the tables of codes of the defs that hold generator expressions -/
class Tbs where
  tb : List PySem.Addr
  wd : PySem.World
namespace Pu
open PySem PySem.Spec PyProof.Rows L2
variable [Tbs]

/-! Data without places: what a value shows. -/
inductive D where
  | non | bl (b : Bool) | int (i : Int) | str (s : Str) | ty (n : String)
  | tup (xs : List D) | lst (xs : List D) | dic (kvs : List (Key × D))
  | deck (n : Nat)
  | dpr (kvs : List (List Int × Int))
  | st (ns : List Int)
  | bor (xs : List D)
/-- the members of a set -/
def memB (ns : List Int) : Int → Bool := fun j => decide (j ∈ ns)

/-- a dict by pairs of whole numbers, its values whole numbers -/
def dtV (ds : List (List Int × Int)) : List (List Key × V) := ds.map fun q => (q.1.map Sum.inl, V.int q.2)
/-! the decks of the laws: what a deck at dk with its cells at c is, by its kind -/
def dkA (c : Addr) (l s n : Int) : List (Key × V) := [(.inr "cells", .ref c), (.inr "left", .int l), (.inr "seed", .int s), (.inr "count", .int n)]
def dkB (c : Addr) (a r s : Int) : List (Key × V) := [(.inr "cells", .ref c), (.inr "at", .int a), (.inr "rest", .int r), (.inr "seed", .int s)]
def dkC (c : Addr) (g s t : Int) : List (Key × V) := [(.inr "cells", .ref c), (.inr "great", .int g), (.inr "seed", .int s), (.inr "turn", .int t)]
def dkE (c : Addr) (s : Int) : List (Key × V) := [(.inr "cells", .ref c), (.inr "seed", .int s)]
def DkF : Nat → Hp → Addr → Addr → Prop
  | 1, H, dk, c => ∃ (l s n : Int) (cs : List Int), H dk = some (.dK (dkA c l s n)) ∧ H c = some (.lst (cs.map V.int)) ∧ 0 ≤ s ∧ s < 4294967296
  | 2, H, dk, c => ∃ (a r s : Int) (cs : List Int), H dk = some (.dK (dkB c a r s)) ∧ H c = some (.lst (cs.map V.int)) ∧ 0 ≤ a ∧ 0 ≤ s ∧ s < 4294967296
  | 3, H, dk, c => ∃ (s n g : Int) (cs : List Int), H dk = some (.lst [.ref c, .int s, .int n, .int g]) ∧ H c = some (.lst (cs.map V.int)) ∧ True
  | 4, H, dk, c => ∃ (g s t : Int) (cs : List Int), H dk = some (.dK (dkC c g s t)) ∧ H c = some (.lst (cs.map V.int)) ∧ True
  | 5, H, dk, c => ∃ (s n _g : Int) (cs : List Int), H dk = some (.lst [.ref c, .int s, .int n]) ∧ H c = some (.lst (cs.map V.int)) ∧ 0 ≤ s ∧ s < 4294967296
  | 7, H, dk, c => ∃ (s _n _g : Int) (cs : List Int), H dk = some (.dK (dkE c s)) ∧ H c = some (.lst (cs.map V.int)) ∧ 0 ≤ s ∧ s < 4294967296
  | _, _, _, _ => False
theorem DkF.keep {n : Nat} {H H' : Hp} {dk c : Addr} (h : DkF n H dk c) (h1 : ∀ o, H dk = some o → H' dk = some o) (h2 : ∀ o, H c = some o → H' c = some o) : DkF n H' dk c := by
  unfold DkF at h ⊢
  split at h
  · obtain ⟨l, s, n, cs, e1, e2, r⟩ := h; exact ⟨l, s, n, cs, h1 _ e1, h2 _ e2, r⟩
  · obtain ⟨l, s, n, cs, e1, e2, r⟩ := h; exact ⟨l, s, n, cs, h1 _ e1, h2 _ e2, r⟩
  · obtain ⟨l, s, n, cs, e1, e2, r⟩ := h; exact ⟨l, s, n, cs, h1 _ e1, h2 _ e2, r⟩
  · obtain ⟨l, s, n, cs, e1, e2, r⟩ := h; exact ⟨l, s, n, cs, h1 _ e1, h2 _ e2, r⟩
  · obtain ⟨l, s, n, cs, e1, e2, r⟩ := h; exact ⟨l, s, n, cs, h1 _ e1, h2 _ e2, r⟩
  · obtain ⟨l, s, n, cs, e1, e2, r⟩ := h; exact ⟨l, s, n, cs, h1 _ e1, h2 _ e2, r⟩
  · exact h.elim
theorem DkF.al {n : Nat} {H : Hp} {dk c : Addr} (h : DkF n H dk c) : H dk ≠ none ∧ H c ≠ none := by
  have nt : ∀ {u : HO}, some u ≠ none := fun q => by cases q
  unfold DkF at h
  split at h
  · obtain ⟨l, s, n, cs, e1, e2, r⟩ := h; rw [e1, e2]; exact ⟨nt, nt⟩
  · obtain ⟨l, s, n, cs, e1, e2, r⟩ := h; rw [e1, e2]; exact ⟨nt, nt⟩
  · obtain ⟨l, s, n, cs, e1, e2, r⟩ := h; rw [e1, e2]; exact ⟨nt, nt⟩
  · obtain ⟨l, s, n, cs, e1, e2, r⟩ := h; rw [e1, e2]; exact ⟨nt, nt⟩
  · obtain ⟨l, s, n, cs, e1, e2, r⟩ := h; rw [e1, e2]; exact ⟨nt, nt⟩
  · obtain ⟨l, s, n, cs, e1, e2, r⟩ := h; rw [e1, e2]; exact ⟨nt, nt⟩
  · exact h.elim
/-- the zone of places that calls may change: the law's deck (nt: its kind, 0: none) -/
structure Zn where
  dk : Addr
  c : Addr
  nt : Nat
  /-- a list that is borrowed -/
  bo : Option Addr := Option.none
def Zn.Z (z : Zn) : Addr → Prop := fun a => (z.nt ≠ 0 ∧ (a = z.dk ∨ a = z.c)) ∨ a ∈ Tbs.tb
/-- the tables stand -/
def Tabs (H : Hp) : Prop := ∀ P ∈ Tbs.tb, GxR.TabG H P
def Zn.ok (z : Zn) (H : Hp) (a : Addr) : Prop := a = z.dk ∧ z.nt ≠ 0 ∧ DkF z.nt H z.dk z.c
theorem Zn.keep (z : Zn) : ∀ (H H' : Hp) (a : Addr), z.ok H a → (∀ b o, z.Z b → H b = some o → H' b = some o) → z.ok H' a := fun H H' a ⟨h1, h2, h3⟩ k => ⟨h1, h2, h3.keep (fun o q => k _ o (.inl ⟨h2, .inl rfl⟩) q) fun o q => k _ o (.inl ⟨h2, .inr rfl⟩) q⟩
/-- no deck yet -/
def Zn.none : Zn := ⟨0, 0, 0, Option.none⟩

mutual
/-- the value v shows d; no list or dict of it stands in M -/
inductive Is (z : Zn) (M : Addr → Prop) (H : Hp) : V → D → Prop
  | non : Is z M H .non .non
  | bl (b : Bool) : Is z M H (.bl b) (.bl b)
  | int (i : Int) : Is z M H (.int i) (.int i)
  | str (s : Str) : Is z M H (.str s) (.str s)
  | ty (n : String) : Is z M H (.ty n) (.ty n)
  | tup {a : Addr} {vs : List V} {ds : List D} : H a = some (.tup vs) → ¬ M a → IsA z M H vs ds → Is z M H (.ref a) (.tup ds)
  | lst {a : Addr} {vs : List V} {ds : List D} : H a = some (.lst vs) → ¬ M a → IsA z M H vs ds → Is z M H (.ref a) (.lst ds)
  | dic {a : Addr} {vs : List (Key × V)} {ds : List (Key × D)} : H a = some (.dK vs) → ¬ M a → IsK z M H vs ds → Is z M H (.ref a) (.dic ds)
  | deck {a : Addr} : z.ok H a → Is z M H (.ref a) (.deck z.nt)
  | dpr {a : Addr} {ds : List (List Int × Int)} : H a = some (.dT (dtV ds)) → ¬ M a → Is z M H (.ref a) (.dpr ds)
  | st {a : Addr} {ns : List Int} {n : Nat} : H a = some (SetO Tbs.wd a (memB ns) n) → n ≤ ns.length → ¬ M a → Is z M H (.ref a) (.st ns)
  | bor {a : Addr} {vs : List V} {ds : List D} : H a = some (.lst vs) → ¬ M a → IsA z M H vs ds → Is z M H (.ref a) (.bor ds)
inductive IsA (z : Zn) (M : Addr → Prop) (H : Hp) : List V → List D → Prop
  | nil : IsA z M H [] []
  | cons {v : V} {d : D} {vs : List V} {ds : List D} : Is z M H v d → IsA z M H vs ds → IsA z M H (v :: vs) (d :: ds)
inductive IsK (z : Zn) (M : Addr → Prop) (H : Hp) : List (Key × V) → List (Key × D) → Prop
  | nil : IsK z M H [] []
  | cons {k : Key} {v : V} {d : D} {vs : List (Key × V)} {ds : List (Key × D)} : Is z M H v d → IsK z M H vs ds → IsK z M H ((k, v) :: vs) ((k, d) :: ds)
end

section
variable {z : Zn} {M M' : Addr → Prop} {H H' : Hp}
mutual
theorem Is.gen (h1 : ∀ a o, H a = some o → ¬ M a → H' a = some o ∧ ¬ M' a) (h2 : ∀ a, z.ok H a → z.ok H' a) : ∀ {v : V} {d : D}, Is z M H v d → Is z M' H' v d
  | _, _, .non => .non
  | _, _, .bl b => .bl b
  | _, _, .int i => .int i
  | _, _, .str s => .str s
  | _, _, .ty n => .ty n
  | _, _, .tup e n r => .tup (h1 _ _ e n).1 (h1 _ _ e n).2 (IsA.gen h1 h2 r)
  | _, _, .lst e n r => .lst (h1 _ _ e n).1 (h1 _ _ e n).2 (IsA.gen h1 h2 r)
  | _, _, .dic e n r => .dic (h1 _ _ e n).1 (h1 _ _ e n).2 (IsK.gen h1 h2 r)
  | _, _, .deck e => .deck (h2 _ e)
  | _, _, .dpr e n => .dpr (h1 _ _ e n).1 (h1 _ _ e n).2
  | _, _, .st e l n => .st (h1 _ _ e n).1 l (h1 _ _ e n).2
  | _, _, .bor e n r => .bor (h1 _ _ e n).1 (h1 _ _ e n).2 (IsA.gen h1 h2 r)
theorem IsA.gen (h1 : ∀ a o, H a = some o → ¬ M a → H' a = some o ∧ ¬ M' a) (h2 : ∀ a, z.ok H a → z.ok H' a) : ∀ {v : List V} {d : List D}, IsA z M H v d → IsA z M' H' v d
  | _, _, .nil => .nil
  | _, _, .cons h t => .cons (Is.gen h1 h2 h) (IsA.gen h1 h2 t)
theorem IsK.gen (h1 : ∀ a o, H a = some o → ¬ M a → H' a = some o ∧ ¬ M' a) (h2 : ∀ a, z.ok H a → z.ok H' a) : ∀ {v : List (Key × V)} {d : List (Key × D)}, IsK z M H v d → IsK z M' H' v d
  | _, _, .nil => .nil
  | _, _, .cons h t => .cons (Is.gen h1 h2 h) (IsK.gen h1 h2 t)
end
theorem IsA.length : ∀ {vs : List V} {ds : List D}, IsA z M H vs ds → vs.length = ds.length
  | _, _, .nil => rfl
  | _, _, .cons _ t => congrArg Nat.succ (IsA.length t)
theorem IsA.append : ∀ {vs us : List V} {ds es : List D}, IsA z M H vs ds → IsA z M H us es → IsA z M H (vs ++ us) (ds ++ es)
  | _, _, _, _, .nil, h => h
  | _, _, _, _, .cons q t, h => .cons q (IsA.append t h)
theorem IsA.get : ∀ {vs : List V} {ds : List D} {i : Nat} {d : D}, IsA z M H vs ds → ds[i]? = some d → ∃ v, vs[i]? = some v ∧ Is z M H v d
  | _, _, _, _, .nil, e => by cases e
  | _, _, 0, _, .cons q _, e => by cases e; exact ⟨_, rfl, q⟩
  | _, _, i + 1, _, .cons _ t, e => IsA.get (i := i) t e
theorem IsA.take : ∀ {vs : List V} {ds : List D} (n : Nat), IsA z M H vs ds → IsA z M H (vs.take n) (ds.take n)
  | _, _, 0, _ => .nil
  | _, _, _ + 1, .nil => .nil
  | _, _, n + 1, .cons q t => .cons q (IsA.take n t)
theorem IsA.drop : ∀ {vs : List V} {ds : List D} (n : Nat), IsA z M H vs ds → IsA z M H (vs.drop n) (ds.drop n)
  | _, _, 0, h => h
  | _, _, _ + 1, .nil => .nil
  | _, _, n + 1, .cons _ t => IsA.drop n t
theorem IsA.set {v : V} {d : D} (h : Is z M H v d) : ∀ {vs : List V} {ds : List D} (n : Nat), IsA z M H vs ds → IsA z M H (vs.set n v) (ds.set n d)
  | _, _, _, .nil => .nil
  | _, _, 0, .cons _ t => .cons h t
  | _, _, n + 1, .cons q t => .cons q (IsA.set h n t)
theorem IsA.eraseIdx : ∀ {vs : List V} {ds : List D} (n : Nat), IsA z M H vs ds → IsA z M H (vs.eraseIdx n) (ds.eraseIdx n)
  | _, _, _, .nil => .nil
  | _, _, 0, .cons _ t => t
  | _, _, n + 1, .cons q t => .cons q (IsA.eraseIdx n t)
theorem IsA.reverse {vs : List V} {ds : List D} (h : IsA z M H vs ds) : IsA z M H vs.reverse ds.reverse := by
  induction h using IsA.rec (motive_1 := fun _ _ _ => True) (motive_3 := fun _ _ _ => True) with
  | nil => exact .nil
  | cons q t _ ih =>
    rw [List.reverse_cons, List.reverse_cons]
    exact ih.append (.cons q .nil)
  | _ => trivial
theorem IsA.dropLast : ∀ {vs : List V} {ds : List D}, IsA z M H vs ds → IsA z M H vs.dropLast ds.dropLast
  | _, _, .nil => .nil
  | _, _, .cons _ .nil => .nil
  | _, _, .cons q (.cons r t) => .cons q (IsA.dropLast (.cons r t))
theorem IsA.ints : ∀ {vs : List V} {ns : List Int}, IsA z M H vs (ns.map D.int) → vs = ns.map V.int
  | _, [], .nil => rfl
  | _, n :: ns, .cons q t => by cases q; rw [IsA.ints t]; rfl
theorem IsA.ofInts : ∀ (ns : List Int), IsA z M H (ns.map V.int) (ns.map D.int)
  | [] => .nil
  | n :: ns => .cons (.int n) (IsA.ofInts ns)
end

/-! what may happen to the heap -/
structure Evo (z : Zn) (H H' : Hp) : Prop where
  old : ∀ a o, H a = some o → ¬ z.Z a → H' a = some o
  al : ∀ a, H a ≠ none → H' a ≠ none
  dk : ∀ a, z.ok H a → z.ok H' a
  tab : Tabs H → Tabs H'
section
variable {z : Zn} {M M' : Addr → Prop} {H H1 H2 H' : Hp} {p : Addr} {o : HO} {v : V} {d : D}
theorem Tabs.at (h : Tabs H) {P : Addr} (hP : P ∈ Tbs.tb) : H P ≠ none := by
  obtain ⟨ps, e, _⟩ := h P hP
  rw [e]; intro q; cases q
theorem Tabs.new (h : Tabs H) (hp : H p = none) : Tabs (upd H p o) := fun P hP => by
  obtain ⟨ps, e, t⟩ := h P hP
  exact ⟨ps, by rw [upd_ne (ne_of_none e hp)]; exact e, t⟩
theorem Tabs.mut (h : Tabs H) (hp : ¬ z.Z p) : Tabs (upd H p o) := fun P hP => by
  obtain ⟨ps, e, t⟩ := h P hP
  exact ⟨ps, by rw [upd_ne (fun w => hp (.inr (by rw [← w]; exact hP)))]; exact e, t⟩
theorem Evo.refl (z : Zn) (H : Hp) : Evo z H H := ⟨fun _ _ h _ => h, fun _ h => h, fun _ h => h, fun h => h⟩
theorem Evo.trans (a : Evo z H H1) (b : Evo z H1 H2) : Evo z H H2 := ⟨fun x o h n => b.old x o (a.old x o h n) n, fun x h => b.al x (a.al x h), fun x h => b.dk x (a.dk x h), fun h => b.tab (a.tab h)⟩
theorem Evo.fresh (a : Evo z H H1) (h : H1 p = none) : H p = none := by
  cases q : H p with
  | none => rfl
  | some o => exact absurd h (a.al p (by rw [q]; intro z; cases z))
theorem ok_new (hp : H p = none) {a : Addr} (h : z.ok H a) : z.ok (upd H p o) a :=
  z.keep _ _ _ h fun b u _ e => by rw [upd_ne (ne_of_none e hp)]; exact e
theorem ok_mut (hp : ¬ z.Z p) {a : Addr} (h : z.ok H a) : z.ok (upd H p o) a :=
  z.keep _ _ _ h fun b u zb e => by rw [upd_ne (fun q => hp (by rw [← q]; exact zb))]; exact e
theorem Evo.new (a : Evo z H H1) (hp : H1 p = none) : Evo z H (upd H1 p o) :=
  ⟨fun x u h n => by rw [upd_ne (ne_of_none (a.old x u h n) hp)]; exact a.old x u h n, fun x h => by
    by_cases e : x = p
    · rw [e, upd_same]; intro z; cases z
    · rw [upd_ne e]; exact a.al x h, fun x h => ok_new hp (a.dk x h), fun h => (a.tab h).new hp⟩
/-- a thing that was not there at first is changed -/
theorem Evo.mut (a : Evo z H H1) (hp : H p = none) (hz : ¬ z.Z p) : Evo z H (upd H1 p o) :=
  ⟨fun x u h n => by rw [upd_ne (ne_of_none h hp)]; exact a.old x u h n, fun x h => by
    by_cases e : x = p
    · rw [e, upd_same]; intro z; cases z
    · rw [upd_ne e]; exact a.al x h, fun x h => ok_mut hz (a.dk x h), fun h => (a.tab h).mut hz⟩
theorem Is.evo (hM : ∀ a, z.Z a → M a) (e : Evo z H H') (h : Is z M H v d) : Is z M H' v d := h.gen (fun a o q n => ⟨e.old a o q (fun x => n (hM a x)), n⟩) e.dk
theorem IsA.evo {vs : List V} {ds : List D} (hM : ∀ a, z.Z a → M a) (e : Evo z H H') (h : IsA z M H vs ds) : IsA z M H' vs ds := h.gen (fun a o q n => ⟨e.old a o q (fun x => n (hM a x)), n⟩) e.dk
theorem Is.weak (hM : ∀ a, M' a → M a) (h : Is z M H v d) : Is z M' H v d := h.gen (fun a o q n => ⟨q, fun x => n (hM a x)⟩) fun _ h => h
theorem IsA.weak {vs : List V} {ds : List D} (hM : ∀ a, M' a → M a) (h : IsA z M H vs ds) : IsA z M' H vs ds := h.gen (fun a o q n => ⟨q, fun x => n (hM a x)⟩) fun _ h => h
theorem Is.new (hp : H p = none) (h : Is z M H v d) : Is z M (upd H p o) v d := h.gen (fun a u q n => ⟨by rw [upd_ne (ne_of_none q hp)]; exact q, n⟩) fun _ h => ok_new hp h
theorem IsA.new {vs : List V} {ds : List D} (hp : H p = none) (h : IsA z M H vs ds) : IsA z M (upd H p o) vs ds := h.gen (fun a u q n => ⟨by rw [upd_ne (ne_of_none q hp)]; exact q, n⟩) fun _ h => ok_new hp h
end

theorem DkF.notbl {n : Nat} {H : Hp} {dk c P : Addr} {ps : Array Value} (h : DkF n H dk c) (e : H P = some (.tbl ps)) : dk ≠ P ∧ c ≠ P := by
  unfold DkF at h
  split at h
  all_goals first
    | exact h.elim
    | (obtain ⟨l, s, n, cs, e1, e2, r⟩ := h
       refine ⟨fun w => ?_, fun w => ?_⟩
       · rw [w, e] at e1; cases e1
       · rw [w, e] at e2; cases e2)
/-- a draw leaves the tables -/
theorem tab_deck {n : Nat} {H H' : Hp} {dk c : Addr} (d : DkF n H dk c) (ev : ∀ b o, H b = some o → b ∉ [dk, c] → H' b = some o) (h : Tabs H) : Tabs H' := fun P hP => by
  obtain ⟨ps, e, t⟩ := h P hP
  obtain ⟨n1, n2⟩ := d.notbl e
  exact ⟨ps, ev P _ e (by simp only [List.mem_cons, List.not_mem_nil, or_false, not_or]; exact ⟨fun w => n1 w.symm, fun w => n2 w.symm⟩), t⟩
/-- what the thing at a holds -/
def Con (z : Zn) (M : Addr → Prop) (H : Hp) (a : Addr) : D → Prop
  | .tup ds => ∃ vs, H a = some (.tup vs) ∧ IsA z M H vs ds
  | .lst ds => ∃ vs, H a = some (.lst vs) ∧ IsA z M H vs ds
  | .dic ds => ∃ vs, H a = some (.dK vs) ∧ IsK z M H vs ds
  | .dpr ds => H a = some (.dT (dtV ds))
  | .st ns => ∃ n, H a = some (SetO Tbs.wd a (memB ns) n) ∧ n ≤ ns.length
  | .bor ds => z.bo = some a ∧ ∃ vs, H a = some (.lst vs) ∧ IsA z M H vs ds
  | _ => False
section
variable {z : Zn} {M M' : Addr → Prop} {H H' : Hp} {a : Addr} {d : D}
theorem Con.gen (ha : ∀ o, H a = some o → H' a = some o) (h1 : ∀ a o, H a = some o → ¬ M a → H' a = some o ∧ ¬ M' a) (h2 : ∀ a, z.ok H a → z.ok H' a) (h : Con z M H a d) : Con z M' H' a d := by
  cases d with
  | tup ds => obtain ⟨vs, e, r⟩ := h; exact ⟨vs, ha _ e, r.gen h1 h2⟩
  | lst ds => obtain ⟨vs, e, r⟩ := h; exact ⟨vs, ha _ e, r.gen h1 h2⟩
  | dic ds => obtain ⟨vs, e, r⟩ := h; exact ⟨vs, ha _ e, r.gen h1 h2⟩
  | dpr ds => exact ha _ h
  | st ns => obtain ⟨n, e, l⟩ := h; exact ⟨n, ha _ e, l⟩
  | bor ds => obtain ⟨w, vs, e, r⟩ := h; exact ⟨w, vs, ha _ e, r.gen h1 h2⟩
  | _ => exact h.elim
theorem Con.is (n : ¬ M a) (h : Con z M H a d) : Is z M H (.ref a) d := by
  cases d with
  | tup ds => obtain ⟨vs, e, r⟩ := h; exact .tup e n r
  | lst ds => obtain ⟨vs, e, r⟩ := h; exact .lst e n r
  | dic ds => obtain ⟨vs, e, r⟩ := h; exact .dic e n r
  | dpr ds => exact .dpr h n
  | st ns => obtain ⟨m, e, l⟩ := h; exact .st e l n
  | bor ds => obtain ⟨w, vs, e, r⟩ := h; exact .bor e n r
  | _ => exact h.elim
theorem Con.some (h : Con z M H a d) : ∃ o, H a = some o := by
  cases d with
  | tup ds => obtain ⟨vs, e, r⟩ := h; exact ⟨_, e⟩
  | lst ds => obtain ⟨vs, e, r⟩ := h; exact ⟨_, e⟩
  | dic ds => obtain ⟨vs, e, r⟩ := h; exact ⟨_, e⟩
  | dpr ds => exact ⟨_, h⟩
  | st ns => obtain ⟨m, e, l⟩ := h; exact ⟨_, e⟩
  | bor ds => obtain ⟨w, vs, e, r⟩ := h; exact ⟨_, e⟩
  | _ => exact h.elim
theorem Is.con {ds : List D} {v : V} (h : Is z M H v (.lst ds)) : ∃ a, v = .ref a ∧ Con z M H a (.lst ds) := by
  cases h with
  | lst e n r => exact ⟨_, rfl, _, e, r⟩
end

/-! slots -/
abbrev Sl := List (Option V)
abbrev AP := Addr → Prop
inductive SV where
  | no | val (d : D) | own (d : D)
/-- the places that no plain value of the slots has: the zone, what X names, what slots own -/
def Ms (z : Zn) (X : AP) (σ : Sl) (env : List SV) : AP := fun a => z.Z a ∨ X a ∨ ∃ (i : Nat) (d : D), env[i]? = some (.own d) ∧ σ[i]? = some (some (V.ref a))
structure Ok (z : Zn) (X : AP) (H0 H : Hp) (σ : Sl) (env : List SV) : Prop where
  len : σ.length = env.length
  evo : Evo z H0 H
  zal : ∀ a, z.Z a → H a ≠ none
  xal : ∀ a, X a → H a ≠ none ∧ ¬ z.Z a
  val : ∀ (i : Nat) (d : D), env[i]? = some (.val d) → ∃ v, σ[i]? = some (some v) ∧ Is z (Ms z X σ env) H v d
  own : ∀ (i : Nat) (d : D), env[i]? = some (.own d) → ∃ a, σ[i]? = some (some (V.ref a)) ∧ Con z (Ms z X σ env) H a d ∧ ¬ z.Z a ∧ ¬ X a ∧ H0 a = none
  inj : ∀ (i j : Nat) (a : Addr) (d e : D), env[i]? = some (.own d) → env[j]? = some (.own e) → σ[i]? = some (some (V.ref a)) → σ[j]? = some (some (V.ref a)) → i = j
  tab : Tabs H
/-- what stood outside M stands, outside M' -/
structure Fr (z : Zn) (X : AP) (M : AP) (H : Hp) (M' : AP) (H' : Hp) : Prop where
  old : ∀ a o, H a = some o → ¬ M a → H' a = some o ∧ ¬ M' a
  dk : ∀ a, z.ok H a → z.ok H' a
  al : ∀ a, H a ≠ none → H' a ≠ none
section
variable {z : Zn} {X : AP} {H0 H H' H1 H2 : Hp} {σ σ' : Sl} {env env' : List SV} {M M1 M2 : AP}
theorem Fr.refl : Fr z X M H M H := ⟨fun _ _ h n => ⟨h, n⟩, fun _ h => h, fun _ h => h⟩
theorem Fr.trans (a : Fr z X M H M1 H1) (b : Fr z X M1 H1 M2 H2) : Fr z X M H M2 H2 := ⟨fun x o h n => b.old x o (a.old x o h n).1 (a.old x o h n).2, fun x h => b.dk x (a.dk x h), fun x h => b.al x (a.al x h)⟩
theorem Fr.is {v : V} {d : D} (f : Fr z X M H M1 H1) (h : Is z M H v d) : Is z M1 H1 v d := h.gen f.old f.dk
theorem Fr.isA {v : List V} {d : List D} (f : Fr z X M H M1 H1) (h : IsA z M H v d) : IsA z M1 H1 v d := h.gen f.old f.dk
theorem Ok.keepX (k : Ok z X H0 H σ env) (e : Evo z H H') : ∀ a, X a → H' a = H a := fun a h => by
  cases q : H a with
  | none => exact absurd q (k.xal a h).1
  | some o => exact e.old a o q (k.xal a h).2
theorem Ok.fr (k : Ok z X H0 H σ env) (e : Evo z H H') : Fr z X (Ms z X σ env) H (Ms z X σ env) H' := ⟨fun a o h n => ⟨e.old a o h fun x => n (.inl x), n⟩, e.dk, e.al⟩
theorem Ok.go (k : Ok z X H0 H σ env) (e : Evo z H H') : Ok z X H0 H' σ env :=
  ⟨k.len, k.evo.trans e, fun a h => e.al a (k.zal a h), fun a h => ⟨e.al a (k.xal a h).1, (k.xal a h).2⟩, fun i d h => let ⟨v, h1, h2⟩ := k.val i d h; ⟨v, h1, h2.evo (fun _ h => .inl h) e⟩,
   fun i d h => let ⟨a, h1, h2, h3, h4⟩ := k.own i d h; ⟨a, h1, h2.gen (fun o q => e.old a o q h3) (fun b o q n => ⟨e.old b o q fun x => n (.inl x), n⟩) e.dk, h3, h4⟩, k.inj, e.tab k.tab⟩
theorem set_own {i j : Nat} {d e : D} (h : (env.set i (.val d))[j]? = some (.own e)) : j ≠ i ∧ env[j]? = some (.own e) := by
  by_cases hj : i = j
  · subst hj
    rw [List.getElem?_set] at h
    split at h
    · split at h <;> cases h
    · exact absurd rfl (by assumption)
  · rw [List.getElem?_set_ne hj] at h
    exact ⟨fun q => hj q.symm, h⟩
/-- a plain store: the slot i shows d -/
theorem Ok.set (k : Ok z X H0 H σ env) {i : Nat} {v : V} {d : D} (hv : Is z (Ms z X σ env) H v d) : Ok z X H0 H (σ.set i (some v)) (env.set i (.val d)) ∧ Fr z X (Ms z X σ env) H (Ms z X (σ.set i (some v)) (env.set i (.val d))) H := by
  have sub : ∀ a, Ms z X (σ.set i (some v)) (env.set i (.val d)) a → Ms z X σ env a := by
    rintro a (h | h | ⟨j, e, h1, h2⟩)
    · exact .inl h
    · exact .inr (.inl h)
    · obtain ⟨hj, h1⟩ := set_own h1
      rw [List.getElem?_set_ne (Ne.symm hj)] at h2
      exact .inr (.inr ⟨j, e, h1, h2⟩)
  refine ⟨⟨by simp [k.len], k.evo, k.zal, k.xal, fun j e h => ?_, fun j e h => ?_, fun j l a e f h1 h2 h3 h4 => ?_, k.tab⟩, ⟨fun a o q n => ⟨q, fun x => n (sub a x)⟩, fun _ h => h, fun _ h => h⟩⟩
  · by_cases hj : i = j
    · subst hj
      rw [List.getElem?_set] at h
      split at h
      · split at h
        · rename_i hl
          cases h
          refine ⟨v, ?_, hv.weak sub⟩
          rw [List.getElem?_set_self (by rw [k.len]; exact hl)]
        · cases h
      · exact absurd rfl (by assumption)
    · rw [List.getElem?_set_ne hj] at h ⊢
      obtain ⟨u, h1, h2⟩ := k.val j e h
      exact ⟨u, h1, h2.weak sub⟩
  · obtain ⟨hj, h⟩ := set_own h
    rw [List.getElem?_set_ne (Ne.symm hj)]
    obtain ⟨a, h1, h2, h3, h4⟩ := k.own j e h
    exact ⟨a, h1, h2.gen (fun _ q => q) (fun b o q n => ⟨q, fun x => n (sub b x)⟩) fun _ h => h, h3, h4⟩
  · obtain ⟨hj, h1⟩ := set_own h1
    obtain ⟨hl, h2⟩ := set_own h2
    rw [List.getElem?_set_ne (Ne.symm hj)] at h3
    rw [List.getElem?_set_ne (Ne.symm hl)] at h4
    exact k.inj j l a e f h1 h2 h3 h4
abbrev AP.or (X : AP) (a : Addr) : AP := fun b => X b ∨ b = a
/-- a store of a new thing that the slot owns -/
theorem Ok.take (k : Ok z X H0 H σ env) {i : Nat} {a : Addr} {d : D} (hl : i < env.length) (e : Evo z H H') (hn : H a = none) (hc : Con z (Ms z (X.or a) σ env) H' a d) :
    Ok z X H0 H' (σ.set i (some (V.ref a))) (env.set i (.own d)) ∧ Fr z X (Ms z X σ env) H (Ms z X (σ.set i (some (V.ref a))) (env.set i (.own d))) H' := by
  have hz : ¬ z.Z a := fun q => k.zal a q hn
  have hx : ¬ X a := fun q => (k.xal a q).1 hn
  have ms : ∀ b, Ms z X (σ.set i (some (V.ref a))) (env.set i (.own d)) b → Ms z (X.or a) σ env b := by
    rintro b (h | h | ⟨j, f, h1, h2⟩)
    · exact .inl h
    · exact .inr (.inl (.inl h))
    · by_cases hj : i = j
      · subst hj
        rw [List.getElem?_set_self (by rw [k.len]; exact hl)] at h2
        cases h2
        exact .inr (.inl (.inr rfl))
      · rw [List.getElem?_set_ne hj] at h1 h2
        exact .inr (.inr ⟨j, f, h1, h2⟩)
  have ms2 : ∀ b, Ms z (X.or a) σ env b → Ms z X σ env b ∨ b = a := by
    rintro b (h | (h | h) | h)
    · exact .inl (.inl h)
    · exact .inl (.inr (.inl h))
    · exact .inr h
    · exact .inl (.inr (.inr h))
  have old : ∀ b o, H b = some o → ¬ Ms z X σ env b → H' b = some o ∧ ¬ Ms z X (σ.set i (some (V.ref a))) (env.set i (.own d)) b := fun b o q n =>
    ⟨e.old b o q fun x => n (.inl x), fun x => (ms2 b (ms b x)).elim n fun y => by rw [y, hn] at q; cases q⟩
  refine ⟨⟨by simp [k.len], k.evo.trans e, fun b h => e.al b (k.zal b h), fun b h => ⟨e.al b (k.xal b h).1, (k.xal b h).2⟩, fun j f h => ?_, fun j f h => ?_, fun j l b f g h1 h2 h3 h4 => ?_, e.tab k.tab⟩, ⟨old, e.dk, e.al⟩⟩
  · by_cases hj : i = j
    · subst hj
      rw [List.getElem?_set_self hl] at h
      cases h
    · rw [List.getElem?_set_ne hj] at h ⊢
      obtain ⟨u, h1, h2⟩ := k.val j f h
      exact ⟨u, h1, h2.gen old e.dk⟩
  · by_cases hj : i = j
    · subst hj
      rw [List.getElem?_set_self hl] at h
      cases h
      exact ⟨a, by rw [List.getElem?_set_self (by rw [k.len]; exact hl)], hc.gen (fun _ q => q) (fun b o q n => ⟨q, fun x => n (ms b x)⟩) fun _ h => h, hz, hx, k.evo.fresh hn⟩
    · rw [List.getElem?_set_ne hj] at h ⊢
      obtain ⟨b, h1, h2, h3, h4⟩ := k.own j f h
      exact ⟨b, h1, h2.gen (fun o q => e.old b o q h3) old e.dk, h3, h4⟩
  · have own' : ∀ (j : Nat) (f : D), (env.set i (.own d))[j]? = some (.own f) → j ≠ i → env[j]? = some (.own f) := fun j f h hj => by rw [List.getElem?_set_ne (Ne.symm hj)] at h; exact h
    have no : ∀ (j : Nat) (f : D), env[j]? = some (.own f) → σ[j]? = some (some (V.ref a)) → False := fun j f h1 h2 => by
      obtain ⟨b, h3, h4, _⟩ := k.own j f h1
      rw [h2] at h3
      cases h3
      obtain ⟨o, h5⟩ := h4.some
      rw [hn] at h5
      cases h5
    by_cases hj : j = i
    · by_cases hl2 : l = i
      · rw [hj, hl2]
      · rw [hj, List.getElem?_set_self (by rw [k.len]; exact hl)] at h3
        cases h3
        rw [List.getElem?_set_ne (Ne.symm hl2)] at h4
        exact (no l g (own' l g h2 hl2) h4).elim
    · by_cases hl2 : l = i
      · rw [hl2, List.getElem?_set_self (by rw [k.len]; exact hl)] at h4
        cases h4
        rw [List.getElem?_set_ne (Ne.symm hj)] at h3
        exact (no j f (own' j f h1 hj) h3).elim
      · rw [List.getElem?_set_ne (Ne.symm hj)] at h3
        rw [List.getElem?_set_ne (Ne.symm hl2)] at h4
        exact k.inj j l b f g (own' j f h1 hj) (own' l g h2 hl2) h3 h4
/-- what a slot owns is changed -/
theorem Ok.mut (k : Ok z X H0 H σ env) {i : Nat} {a : Addr} {d d' : D} {o : HO} (hi : env[i]? = some (.own d)) (hs : σ[i]? = some (some (V.ref a))) (hc : Con z (Ms z X σ env) (upd H a o) a d') :
    Ok z X H0 (upd H a o) σ (env.set i (.own d')) ∧ Fr z X (Ms z X σ env) H (Ms z X σ (env.set i (.own d'))) (upd H a o) := by
  have hl : i < env.length := (List.getElem?_eq_some_iff.mp hi).1
  obtain ⟨a', hs', hc0, hz, hx, h0⟩ := k.own i d hi
  have ea : a' = a := by rw [hs] at hs'; cases hs'; rfl
  subst ea
  have ms : ∀ b, Ms z X σ (env.set i (.own d')) b → Ms z X σ env b := by
    rintro b (h | h | ⟨j, f, h1, h2⟩)
    · exact .inl h
    · exact .inr (.inl h)
    · by_cases hj : i = j
      · subst hj
        exact .inr (.inr ⟨i, d, hi, h2⟩)
      · rw [List.getElem?_set_ne hj] at h1
        exact .inr (.inr ⟨j, f, h1, h2⟩)
  have ain : Ms z X σ env a' := .inr (.inr ⟨i, d, hi, hs⟩)
  have old : ∀ b u, H b = some u → ¬ Ms z X σ env b → upd H a' o b = some u ∧ ¬ Ms z X σ (env.set i (.own d')) b := fun b u q n =>
    ⟨by rw [upd_ne (fun e => n (by rw [e]; exact ain))]; exact q, fun x => n (ms b x)⟩
  have dk : ∀ b, z.ok H b → z.ok (upd H a' o) b := fun b h => ok_mut hz h
  have al : ∀ b, H b ≠ none → upd H a' o b ≠ none := fun b h => by
    by_cases e : b = a'
    · rw [e, upd_same]; intro q; cases q
    · rw [upd_ne e]; exact h
  refine ⟨⟨by simp [k.len], k.evo.mut h0 hz, fun b h => al b (k.zal b h), fun b h => ⟨al b (k.xal b h).1, (k.xal b h).2⟩, fun j f h => ?_, fun j f h => ?_, fun j l b f g h1 h2 h3 h4 => ?_, k.tab.mut hz⟩, ⟨old, dk, al⟩⟩
  · by_cases hj : i = j
    · subst hj
      rw [List.getElem?_set_self hl] at h
      cases h
    · rw [List.getElem?_set_ne hj] at h
      obtain ⟨u, h1, h2⟩ := k.val j f h
      exact ⟨u, h1, h2.gen old dk⟩
  · by_cases hj : i = j
    · subst hj
      rw [List.getElem?_set_self hl] at h
      cases h
      exact ⟨a', hs, hc.gen (fun _ q => q) (fun b o q n => ⟨q, fun x => n (ms b x)⟩) fun _ h => h, hz, hx, h0⟩
    · rw [List.getElem?_set_ne hj] at h
      obtain ⟨b, h1, h2, h3, h4⟩ := k.own j f h
      have nb : b ≠ a' := fun e => hj (k.inj i j a' d f hi h hs (e ▸ h1))
      exact ⟨b, h1, h2.gen (fun o q => by rw [upd_ne nb]; exact q) old dk, h3, h4⟩
  · have un : ∀ (j : Nat) (f : D), (env.set i (.own d'))[j]? = some (.own f) → ∃ f', env[j]? = some (.own f') := fun j f h => by
      by_cases hj : i = j
      · subst hj; exact ⟨d, hi⟩
      · rw [List.getElem?_set_ne hj] at h; exact ⟨f, h⟩
    obtain ⟨f', h1'⟩ := un j f h1
    obtain ⟨g', h2'⟩ := un l g h2
    exact k.inj j l b f' g' h1' h2' h3 h4
end
end Pu

namespace Pu
open PySem PySem.Spec PyProof.Rows L2
variable [Tbs]

/-! == of data -/
mutual
def pd : D → PyData
  | .non => .none
  | .bl b => .bool b
  | .int i => .int i
  | .str s => .str s
  | .ty _ => .none
  | .tup xs => .tuple (pdA xs)
  | .lst xs => .list (pdA xs)
  | .dic _ => .none
  | .deck _ => .none
  | .dpr _ => .none
  | .st _ => .none
  | .bor _ => .none
def pdA : List D → List PyData
  | [] => []
  | x :: xs => pd x :: pdA xs
end
mutual
/-- of None, truths, numbers, texts, tuples and lists, at most n deep -/
def shp : Nat → D → Bool
  | _, .non => true
  | _, .bl _ => true
  | _, .int _ => true
  | _, .str s => PyData.strOk s
  | 0, .tup _ => false
  | n + 1, .tup xs => shpA n xs
  | 0, .lst _ => false
  | n + 1, .lst xs => shpA n xs
  | _, .ty _ => false
  | _, .dic _ => false
  | _, .deck _ => false
  | _, .dpr _ => false
  | _, .st _ => false
  | _, .bor _ => false
def shpA : Nat → List D → Bool
  | _, [] => true
  | n, x :: xs => shp n x && shpA n xs
end
mutual
/-- the same without truths -/
def pln : Nat → D → Bool
  | _, .non => true
  | _, .bl _ => false
  | _, .int _ => true
  | _, .str s => PyData.strOk s
  | 0, .tup _ => false
  | n + 1, .tup xs => plnA n xs
  | 0, .lst _ => false
  | n + 1, .lst xs => plnA n xs
  | _, .ty _ => false
  | _, .dic _ => false
  | _, .deck _ => false
  | _, .dpr _ => false
  | _, .st _ => false
  | _, .bor _ => false
def plnA : Nat → List D → Bool
  | _, [] => true
  | n, x :: xs => pln n x && plnA n xs
end
theorem plnA_iff {n : Nat} : ∀ {xs : List D}, plnA n xs = true ↔ ∀ x ∈ xs, pln n x = true
  | [] => by simp [plnA]
  | x :: xs => by simp [plnA, plnA_iff (xs := xs)]
theorem shpA_iff {n : Nat} : ∀ {xs : List D}, shpA n xs = true ↔ ∀ x ∈ xs, shp n x = true
  | [] => by simp [shpA]
  | x :: xs => by simp [shpA, shpA_iff (xs := xs)]
mutual
theorem pln_shp : ∀ (n : Nat) (d : D), pln n d = true → shp n d = true
  | _, .non, _ => by simp [shp]
  | _, .bl _, h => by simp [pln] at h
  | _, .int _, _ => by simp [shp]
  | _, .str s, h => by simp only [pln] at h; simp only [shp]; exact h
  | 0, .tup _, h => by simp [pln] at h
  | n + 1, .tup xs, h => by simp only [pln] at h; simp only [shp]; exact plnA_shp n xs h
  | 0, .lst _, h => by simp [pln] at h
  | n + 1, .lst xs, h => by simp only [pln] at h; simp only [shp]; exact plnA_shp n xs h
  | _, .ty _, h => by simp [pln] at h
  | _, .dic _, h => by simp [pln] at h
  | _, .deck _, h => by simp [pln] at h
  | _, .dpr _, h => by simp [pln] at h
  | _, .st _, h => by simp [pln] at h
  | _, .bor _, h => by simp [pln] at h
theorem plnA_shp : ∀ (n : Nat) (xs : List D), plnA n xs = true → shpA n xs = true
  | _, [], _ => by simp [shpA]
  | n, x :: xs, h => by
    simp only [plnA, Bool.and_eq_true] at h
    simp only [shpA, Bool.and_eq_true]
    exact ⟨pln_shp n x h.1, plnA_shp n xs h.2⟩
end
mutual
theorem shp_lay : ∀ (n : Nat) (d : D), shp n d = true → (pd d).canLay0 = true ∧ (pd d).depth ≤ n + 1
  | n, .non, _ => by simp [pd, PyData.canLay0, PyData.depth]
  | n, .bl _, h => by simp [pd, PyData.canLay0, PyData.depth]
  | n, .int _, _ => by simp [pd, PyData.canLay0, PyData.depth]
  | n, .str s, h => by simp only [shp] at h; simp [pd, PyData.canLay0, PyData.depth, h]
  | 0, .tup _, h => by simp [shp] at h
  | n + 1, .tup xs, h => by
    simp only [shp] at h
    have q := shp_layA n xs h
    simp only [pd, PyData.canLay0, PyData.depth, q.1, true_and]
    omega
  | 0, .lst _, h => by simp [shp] at h
  | n + 1, .lst xs, h => by
    simp only [shp] at h
    have q := shp_layA n xs h
    simp only [pd, PyData.canLay0, PyData.depth, q.1, true_and]
    omega
  | _, .ty _, h => by simp [shp] at h
  | _, .dic _, h => by simp [shp] at h
  | _, .deck _, h => by simp [shp] at h
  | _, .dpr _, h => by simp [shp] at h
  | _, .st _, h => by simp [shp] at h
  | _, .bor _, h => by simp [shp] at h
theorem shp_layA : ∀ (n : Nat) (xs : List D), shpA n xs = true → PyData.canLayAll0 (pdA xs) = true ∧ PyData.depthAll (pdA xs) ≤ n + 1
  | n, [], _ => by simp [pdA, PyData.canLayAll0, PyData.depthAll]
  | n, x :: xs, h => by
    simp only [shpA, Bool.and_eq_true] at h
    have q := shp_lay n x h.1
    have r := shp_layA n xs h.2
    simp only [pdA, PyData.canLayAll0, PyData.depthAll, q.1, r.1, Bool.and_self, true_and]
    omega
end
theorem shaped_of {d : D} (h : shp 60 d = true) : SeqAt.shaped (pd d) = true := by
  have q := shp_lay 60 d h
  simp only [SeqAt.shaped, q.1, Bool.true_and, decide_eq_true_eq]
  omega
section
variable {z : Zn} {M : Addr → Prop} {H : Hp} {K : PySem.W.Frag}
mutual
theorem Is.dp : ∀ {v : V} {d : D} {n : Nat}, Is z M H v d → shp n d = true → Dp K H v (pd d)
  | _, _, _, .non, _ => by simp only [pd]; exact .non
  | _, _, _, .bl b, _ => by simp only [pd]; exact .bl b
  | _, _, _, .int b, _ => by simp only [pd]; exact .int b
  | _, _, _, .str b, _ => by simp only [pd]; exact .str b
  | _, _, _, .ty b, h => by simp [shp] at h
  | _, _, 0, .tup e _ r, h => by simp [shp] at h
  | _, _, n + 1, .tup e _ r, h => by simp only [pd]; exact .tup (SqT.of e) (IsA.dp r (by simpa only [shp] using h))
  | _, _, 0, .lst e _ r, h => by simp [shp] at h
  | _, _, n + 1, .lst e _ r, h => by simp only [pd]; exact .lst (SqL.of e) (IsA.dp r (by simpa only [shp] using h))
  | _, _, _, .dic _ _ _, h => by simp [shp] at h
  | _, _, _, .deck _, h => by simp [shp] at h
  | _, _, _, .dpr _ _, h => by simp [shp] at h
  | _, _, _, .st _ _ _, h => by simp [shp] at h
  | _, _, _, .bor _ _ _, h => by simp [shp] at h
theorem IsA.dp : ∀ {vs : List V} {ds : List D} {n : Nat}, IsA z M H vs ds → shpA n ds = true → DpAll K H vs (pdA ds)
  | _, _, _, .nil, _ => by simp only [pdA]; exact .nil
  | _, _, _, .cons q t, h => by
    simp only [shpA, Bool.and_eq_true] at h
    simp only [pdA]
    exact .cons (Is.dp q h.1) (IsA.dp t h.2)
end
end
def eqvD (a b : D) : Bool := PyData.eqv (pd a) (pd b)
theorem strBeq {a b : Str} : (a == b) = true ↔ a = b := beq_iff_eq
mutual
theorem eqv_iff : ∀ (n m : Nat) (a b : D), pln n a = true → pln m b = true → (PyData.eqv (pd a) (pd b) = true ↔ a = b)
  | n, m, a, b, ha, hb => by
    cases a with
    | non => cases b <;> simp_all [pd, PyData.eqv, pln]
    | bl _ => simp [pln] at ha
    | int i => cases b <;> simp_all [pd, PyData.eqv, pln]
    | str s => cases b <;> simp_all [pd, PyData.eqv, pln]
    | ty _ => simp [pln] at ha
    | dic _ => simp [pln] at ha
    | deck _ => simp [pln] at ha
    | dpr _ => simp [pln] at ha
    | st _ => simp [pln] at ha
    | bor _ => simp [pln] at ha
    | tup xs =>
      cases b with
      | tup ys =>
        cases n with
        | zero => simp [pln] at ha
        | succ n =>
          cases m with
          | zero => simp [pln] at hb
          | succ m =>
            simp only [pln] at ha hb
            simp only [pd, PyData.eqv, D.tup.injEq]
            exact eqv_iffA n m xs ys ha hb
      | bl _ => simp [pln] at hb
      | _ => simp_all [pd, PyData.eqv, pln]
    | lst xs =>
      cases b with
      | lst ys =>
        cases n with
        | zero => simp [pln] at ha
        | succ n =>
          cases m with
          | zero => simp [pln] at hb
          | succ m =>
            simp only [pln] at ha hb
            simp only [pd, PyData.eqv, D.lst.injEq]
            exact eqv_iffA n m xs ys ha hb
      | bl _ => simp [pln] at hb
      | _ => simp_all [pd, PyData.eqv, pln]
theorem eqv_iffA : ∀ (n m : Nat) (a b : List D), plnA n a = true → plnA m b = true → (PyData.eqvAll (pdA a) (pdA b) = true ↔ a = b)
  | n, m, [], [], _, _ => by simp [pdA, PyData.eqvAll]
  | n, m, [], _ :: _, _, _ => by simp [pdA, PyData.eqvAll]
  | n, m, _ :: _, [], _, _ => by simp [pdA, PyData.eqvAll]
  | n, m, x :: xs, y :: ys, ha, hb => by
    simp only [plnA, Bool.and_eq_true] at ha hb
    simp only [pdA, PyData.eqvAll, Bool.and_eq_true, List.cons.injEq]
    rw [eqv_iff n m x y ha.1 hb.1, eqv_iffA n m xs ys ha.2 hb.2]
end
theorem eqvD_iff {a b : D} (ha : pln 60 a = true) (hb : pln 60 b = true) : eqvD a b = true ↔ a = b := eqv_iff 60 60 a b ha hb
end Pu

namespace Pu
open PySem PySem.Spec PyProof.Rows L2
variable [Tbs]

/-! readings without places -/
abbrev PX := List SV → (D → Prop) → Prop
abbrev PTs' := List SV → (Bool → Prop) → Prop
abbrev PAs := List SV → (List D → Prop) → Prop
/-- the zone and X -/
def Zx (z : Zn) (X : AP) : AP := fun a => z.Z a ∨ X a
/-- how an expression's value stands: f new and alone; e plain; c its parts plain; b for a look only -/
inductive Mode where | f | e | c | b
  deriving DecidableEq
def mutD : D → Bool
  | .lst _ => true
  | .dic _ => true
  | .dpr _ => true
  | .st _ => true
  | _ => false
def Rel (m : Mode) (z : Zn) (X : AP) (H H' : Hp) (σ : Sl) (env : List SV) (v : V) (d : D) : Prop := match m with
  | .f => ∃ a, v = .ref a ∧ H a = none ∧ Con z (Ms z (X.or a) σ env) H' a d
  | .e => Is z (Ms z X σ env) H' v d
  | .c => Is z (Ms z X σ env) H' v d ∨ ∃ a, v = .ref a ∧ Con z (Ms z X σ env) H' a d ∧ ¬ Zx z X a ∧ mutD d = true
  | .b => Is z (Zx z X) H' v d
section
variable {z : Zn} {X : AP} {H0 H H1 H' : Hp} {σ : Sl} {env : List SV} {v : V} {d : D} {m : Mode}
theorem Zx.ms {a : Addr} (h : Zx z X a) : Ms z X σ env a := h.elim .inl fun q => .inr (.inl q)
theorem Ms.orL {a b : Addr} (h : Ms z X σ env b) : Ms z (X.or a) σ env b := by
  rcases h with h | h | h
  · exact .inl h
  · exact .inr (.inl (.inl h))
  · exact .inr (.inr h)
theorem Ok.notMs (k : Ok z X H0 H σ env) {a : Addr} (h : H a = none) : ¬ Ms z X σ env a := by
  rintro (q | q | ⟨i, d, q1, q2⟩)
  · exact k.zal a q h
  · exact (k.xal a q).1 h
  · obtain ⟨b, h1, h2, _⟩ := k.own i d q1
    rw [q2] at h1
    cases h1
    obtain ⟨o, h3⟩ := h2.some
    rw [h] at h3
    cases h3
theorem Rel.fe (k : Ok z X H0 H σ env) (h : Rel .f z X H H' σ env v d) : Rel .e z X H H' σ env v d := by
  obtain ⟨a, rfl, hn, hc⟩ := h
  exact (hc.gen (fun _ q => q) (fun b o q n => ⟨q, fun x => n x.orL⟩) fun _ h => h).is (k.notMs hn)
theorem Rel.ec (h : Rel .e z X H H' σ env v d) : Rel .c z X H H' σ env v d := .inl h
theorem Rel.cb (h : Rel .c z X H H' σ env v d) : Rel .b z X H H' σ env v d := by
  rcases h with h | ⟨a, rfl, hc, n, _⟩
  · exact Is.weak (fun a q => q.ms) h
  · exact (hc.gen (fun _ q => q) (fun b o q n => ⟨q, fun x => n x.ms⟩) fun _ h => h).is n
theorem Rel.eb (h : Rel .e z X H H' σ env v d) : Rel .b z X H H' σ env v d := h.ec.cb
theorem Rel.toB (k : Ok z X H0 H σ env) (h : Rel m z X H H' σ env v d) : Rel .b z X H H' σ env v d := by
  cases m with
  | f => exact (h.fe k).eb
  | e => exact h.eb
  | c => exact h.cb
  | b => exact h
/-- a later heap -/
theorem Rel.evo (k : Ok z X H0 H σ env) (e : Evo z H1 H') (h : Rel m z X H H1 σ env v d) (h0 : Evo z H H1) : Rel m z X H H' σ env v d := by
  cases m with
  | f =>
    obtain ⟨a, rfl, hn, hc⟩ := h
    refine ⟨a, rfl, hn, hc.gen (fun o q => e.old a o q fun x => ?_) (fun b o q n => ⟨e.old b o q fun x => n (.inl x), n⟩) e.dk⟩
    exact k.zal a x hn
  | e => exact Is.evo (fun _ q => .inl q) e h
  | c =>
    rcases h with h | ⟨a, rfl, hc, n, md⟩
    · exact .inl (Is.evo (fun _ q => .inl q) e h)
    · exact .inr ⟨a, rfl, hc.gen (fun o q => e.old a o q fun x => n (.inl x)) (fun b o q n => ⟨e.old b o q fun x => n (.inl x), n⟩) e.dk, n, md⟩
  | b => exact Is.evo (fun _ q => .inl q) e h
/-- a later start: for all but f -/
theorem Rel.later (hm : m ≠ .f) (h : Rel m z X H H' σ env v d) : Rel m z X H1 H' σ env v d := by
  cases m with
  | f => exact absurd rfl hm
  | _ => exact h
/-- an earlier start -/
theorem Rel.early (e : Evo z H H1) (h : Rel m z X H1 H' σ env v d) : Rel m z X H H' σ env v d := by
  cases m with
  | f => obtain ⟨a, rfl, hn, hc⟩ := h; exact ⟨a, rfl, e.fresh hn, hc⟩
  | e => exact h
  | c => exact h
  | b => exact h
end

def RE (m : Mode) (t : TE) (p : PX) : Prop := ∀ (z : Zn) (X : AP) (H0 H : Hp) (σ : Sl) (env : List SV) (Q : VK) (k : D → Prop), Ok z X H0 H σ env →
  (∀ d v H', Evo z H H' → Rel m z X H H' σ env v d → k d → Q v H') → p env k → t σ H Q
def RT (t : TT) (p : PTs') : Prop := ∀ (z : Zn) (X : AP) (H0 H : Hp) (σ : Sl) (env : List SV) (Q : Bool → Hp → Prop) (k : Bool → Prop), Ok z X H0 H σ env →
  (∀ b H', Evo z H H' → k b → Q b H') → p env k → t σ H Q
/-- arguments: plain (l = true), or for a look only -/
def RA (l : Bool) (t : TA) (p : PAs) : Prop := ∀ (z : Zn) (X : AP) (H0 H : Hp) (σ : Sl) (env : List SV) (Q : List V → Hp → Prop) (k : List D → Prop), Ok z X H0 H σ env →
  (∀ ds vs H', Evo z H H' → IsA z (if l = true then Ms z X σ env else Zx z X) H' vs ds → k ds → Q vs H') → p env k → t σ H Q
structure E (m : Mode) (C : Cx) (e : Expr) (p : PX) : Prop where
  ex : ∃ t, PE C e t ∧ RE m t p
structure T (C : Cx) (e : Expr) (p : PTs') : Prop where
  ex : ∃ t, PT C e t ∧ RT t p
structure W (C : Cx) (e : Expr) (p : PTs') : Prop where
  ex : ∃ t, PW C e t ∧ RT t p
structure A (l : Bool) (C : Cx) (es : List Expr) (p : PAs) : Prop where
  ex : ∃ t, PA C es t ∧ RA l t p

section
variable {C : Cx} {e a b : Expr} {p q : PX} {m m' : Mode} {pos : Pos}
theorem E.toB (h : E m C e p) : E .b C e p := by
  obtain ⟨t, h1, h2⟩ := h
  exact ⟨t, h1, fun z X H0 H σ env Q k o c hp => h2 z X H0 H σ env Q k o (fun d v H' ev r kd => c d v H' ev (r.toB o) kd) hp⟩
theorem E.fe (h : E .f C e p) : E .e C e p := by
  obtain ⟨t, h1, h2⟩ := h
  exact ⟨t, h1, fun z X H0 H σ env Q k o c hp => h2 z X H0 H σ env Q k o (fun d v H' ev r kd => c d v H' ev (r.fe o) kd) hp⟩
theorem E.ec (h : E .e C e p) : E .c C e p := by
  obtain ⟨t, h1, h2⟩ := h
  exact ⟨t, h1, fun z X H0 H σ env Q k o c hp => h2 z X H0 H σ env Q k o (fun d v H' ev r kd => c d v H' ev r.ec kd) hp⟩

/-! ### names, constants -/
def eC (d : D) : PX := fun _ k => k d
def eV (i : Nat) : PX := fun env k => match env[i]? with
  | some (.val d) => k d
  | _ => False
def eO (i : Nat) : PX := fun env k => match env[i]? with
  | some (.own (.lst xs)) => k (.lst xs)
  | some (.own (.dic xs)) => k (.dic xs)
  | some (.own (.dpr xs)) => k (.dpr xs)
  | some (.own (.st xs)) => k (.st xs)
  | some (.own (.bor xs)) => k (.lst xs)
  | _ => False
theorem re_c {v : V} {d : D} (h : ∀ z M H, Is z M H v d) : RE .e (tC v) (eC d) := fun z X H0 H σ env Q k o c hp => c d v H (Evo.refl _ _) (h _ _ _) hp
theorem e_int {i : Int} {j} : E .e C (.Constant (.int i) j pos) (eC (.int i)) := ⟨_, pe_int, re_c fun _ _ _ => .int i⟩
theorem e_bl {i : Bool} {j} : E .e C (.Constant (.bool i) j pos) (eC (.bl i)) := ⟨_, pe_bl, re_c fun _ _ _ => .bl i⟩
theorem e_non {j} : E .e C (.Constant .none j pos) (eC .non) := ⟨_, pe_non, re_c fun _ _ _ => .non⟩
theorem e_str {i : Str} {j} : E .e C (.Constant (.str i) j pos) (eC (.str i)) := ⟨_, pe_str, re_c fun _ _ _ => .str i⟩
theorem e_gint {x : Str} {i : Int} {t : Tok} (hg : Gl C x) (hm : C.mg x = some (.int i t)) (hd : (x == ("__debug__" : Str)) = false := by decide) : E .e C (.Name x pos) (eC (.int i)) := ⟨_, pe_glob (v := .int i) hg hm ⟨_, rfl⟩ hd, re_c fun _ _ _ => .int i⟩
theorem e_gstr {x : Str} {i : Str} {t : Tok} (hg : Gl C x) (hm : C.mg x = some (.str i t)) (hd : (x == ("__debug__" : Str)) = false := by decide) : E .e C (.Name x pos) (eC (.str i)) := ⟨_, pe_glob (v := .str i) hg hm ⟨_, rfl⟩ hd, re_c fun _ _ _ => .str i⟩
theorem e_ty {x : Str} {n : String} (hg : Gl C x) (hm : C.mg x = none) (hv : bootBuiltins x = some (.type n)) (hn : x ≠ "__name__" := by decide) (hd : (x == ("__debug__" : Str)) = false := by decide) : E .e C (.Name x pos) (eC (.ty n)) :=
  ⟨_, pe_bltn (v := .ty n) hg hm hv rfl hn hd, re_c fun _ _ _ => .ty n⟩
theorem re_v (i : Nat) : RE .e (tVar i) (eV i) := fun z X H0 H σ env Q k o c hp => by
  unfold eV at hp
  split at hp
  · rename_i d he
    obtain ⟨v, h1, h2⟩ := o.val i d he
    exact ⟨v, h1, c d v H (Evo.refl _ _) h2 hp⟩
  · exact hp.elim
theorem re_o (i : Nat) : RE .c (tVar i) (eO i) := fun z X H0 H σ env Q k o c hp => by
  unfold eO at hp
  split at hp
  · rename_i xs he
    obtain ⟨a, h1, h2, h3, h4⟩ := o.own i _ he
    exact ⟨_, h1, c _ _ H (Evo.refl _ _) (.inr ⟨a, rfl, h2, fun q => q.elim h3 h4.1, rfl⟩) hp⟩
  · rename_i xs he
    obtain ⟨a, h1, h2, h3, h4⟩ := o.own i _ he
    exact ⟨_, h1, c _ _ H (Evo.refl _ _) (.inr ⟨a, rfl, h2, fun q => q.elim h3 h4.1, rfl⟩) hp⟩
  · rename_i xs he
    obtain ⟨a, h1, h2, h3, h4⟩ := o.own i _ he
    exact ⟨_, h1, c _ _ H (Evo.refl _ _) (.inr ⟨a, rfl, h2, fun q => q.elim h3 h4.1, rfl⟩) hp⟩
  · rename_i xs he
    obtain ⟨a, h1, h2, h3, h4⟩ := o.own i _ he
    exact ⟨_, h1, c _ _ H (Evo.refl _ _) (.inr ⟨a, rfl, h2, fun q => q.elim h3 h4.1, rfl⟩) hp⟩
  · rename_i xs he
    obtain ⟨a, h1, h2, h3, h4⟩ := o.own i _ he
    exact ⟨_, h1, c (.lst xs) _ H (Evo.refl _ _) (.inr ⟨a, rfl, h2.2, fun q => q.elim h3 h4.1, rfl⟩) hp⟩
  · exact hp.elim
theorem e_v (i : Nat) {x : Str} (hN : C.N[i]? = some x := by rfl) (hv : Vis C.env.scope x := by first | exact Or.inl rfl | exact Or.inr (Or.inl rfl) | exact Or.inr (Or.inr rfl)) (hd : (x == ("__debug__" : Str)) = false := by decide)
    (hcd : (x == ("__classdict__" : Str)) = false := by decide) : E .e C (.Name x pos) (eV i) := ⟨_, pe_var hN hv hd hcd, re_v i⟩
theorem e_o (i : Nat) {x : Str} (hN : C.N[i]? = some x := by rfl) (hv : Vis C.env.scope x := by first | exact Or.inl rfl | exact Or.inr (Or.inl rfl) | exact Or.inr (Or.inr rfl)) (hd : (x == ("__debug__" : Str)) = false := by decide)
    (hcd : (x == ("__classdict__" : Str)) = false := by decide) : E .c C (.Name x pos) (eO i) := ⟨_, pe_var hN hv hd hcd, re_o i⟩

/-! ### operators, by values -/
/-- the pure operation g stands for r: operands of mode mi, the answer of mode mo -/
def OpD (mi mo : Mode) (r : R2) (g : D → D → (D → Prop) → Prop) : Prop := ∀ (z : Zn) (X : AP) (H0 H : Hp) (σ : Sl) (env : List SV) (v u : V) (x y : D) (Q : VK) (k : D → Prop), Ok z X H0 H σ env → Rel mi z X H H σ env v x → Rel mi z X H H σ env u y →
  (∀ d w H', Evo z H H' → Rel mo z X H H' σ env w d → k d → Q w H') → g x y k → r v u H Q
def eOp (g : D → D → (D → Prop) → Prop) (p q : PX) : PX := fun env k => p env fun x => q env fun y => g x y k
theorem RE.op {mi mo : Mode} {r : R2} {g : D → D → (D → Prop) → Prop} {ta tb : TE} (hm : mi ≠ .f) (ho : OpD mi mo r g) (ha : RE mi ta p) (hb : RE mi tb q) : RE mo (tOp r ta tb) (eOp g p q) := fun z X H0 H σ env Q k o c hp => by
  refine ha z X H0 H σ env _ _ o (fun x v H1 e1 r1 hp1 => ?_) hp
  refine hb z X H0 H1 σ env _ _ (o.go e1) (fun y u H2 e2 r2 hp2 => ?_) hp1
  refine ho z X H0 H2 σ env v u x y Q k ((o.go e1).go e2) ((r1.evo o e2 e1).later hm) (r2.later hm) (fun d w H3 e3 r3 kd => ?_) hp2
  exact c d w H3 (e1.trans (e2.trans e3)) (r3.early (e1.trans e2)) kd
theorem e_op {mi mo : Mode} {op : Operator} {r : R2} {g : D → D → (D → Prop) → Prop} (hr : OpR C (binaryOp op) r) (ho : OpD mi mo r g) (ha : E mi C a p) (hb : E mi C b q) (hm : mi ≠ .f := by decide) : E mo C (.BinOp a op b pos) (eOp g p q) := by
  obtain ⟨ta, a1, a2⟩ := ha
  obtain ⟨tb, b1, b2⟩ := hb
  exact ⟨_, pe_op hr a1 b1, RE.op hm ho a2 b2⟩
theorem e_cmp {mi mo : Mode} {op : CmpOp} {r : R2} {g : D → D → (D → Prop) → Prop} (hr : OpR C (compareOp op) r) (ho : OpD mi mo r g) (ha : E mi C a p) (hb : E mi C b q) (hk : behindInMarks op b = false) (hm : mi ≠ .f := by decide) : E mo C (.Compare a [op] [b] pos) (eOp g p q) := by
  obtain ⟨ta, a1, a2⟩ := ha
  obtain ⟨tb, b1, b2⟩ := hb
  exact ⟨_, pe_cmpR hr a1 b1 hk, RE.op hm ho a2 b2⟩
/-- a value that is a truth, as a test -/
def blK (d : D) (k : Bool → Prop) : Prop := match d with
  | .bl b => k b
  | _ => False
def tOf (p : PX) : PTs' := fun env k => p env fun d => blK d k
theorem RT.of {t : TE} (h : RE .b t p) : RT (tTest t) (tOf p) := fun z X H0 H σ env Q k o c hp => by
  refine h z X H0 H σ env _ _ o (fun d v H' e r hd => ?_) hp
  cases d with
  | bl b =>
    cases (show Is z _ H' v (.bl b) from r)
    exact ⟨b, rfl, c b H' e hd⟩
  | _ => exact (show False from hd).elim
theorem t_cmp {mi : Mode} {op : CmpOp} {r : R2} {g : D → D → (D → Prop) → Prop} (hr : OpR C (compareOp op) r) (ho : OpD mi .b r g) (ha : E mi C a p) (hb : E mi C b q) (hk : behindInMarks op b = false) (hm : mi ≠ .f := by decide) : T C (.Compare a [op] [b] pos) (tOf (eOp g p q)) := by
  obtain ⟨ta, a1, a2⟩ := ha
  obtain ⟨tb, b1, b2⟩ := hb
  exact ⟨_, pt_cmpR hr a1 b1 hk, RT.of (RE.op hm ho a2 b2)⟩
theorem t_val (h : E m C e p) (he : ∀ whole, isTrue e C.env whole = (do let v ← whole; standAt e.pos; holding [v] (truthy v)) := by intro _; rfl) : T C e (tOf p) := by
  obtain ⟨t, h1, h2⟩ := h.toB
  exact ⟨_, pt_val h1 he, RT.of h2⟩
/-- a op b op' c -/
def bCase (d : D) (A B : Prop) : Prop := match d with
  | .bl true => A
  | .bl false => B
  | _ => False
def eChain (g g' : D → D → (D → Prop) → Prop) (p q r : PX) : PX := fun env k => p env fun x => q env fun y => g x y fun w => bCase w (r env fun u => g' y u k) (k (.bl false))
theorem RE.chain {s : PX} {r r' : R2} {g g' : D → D → (D → Prop) → Prop} {ta tb tc : TE} (ho : OpD .b .b r g) (ho' : OpD .b .e r' g') (ha : RE .b ta p) (hb : RE .b tb q) (hc : RE .b tc s) : RE .e (tChain r r' ta tb tc) (eChain g g' p q s) := fun z X H0 H σ env Q k o c hp => by
  refine ha z X H0 H σ env _ _ o (fun x v H1 e1 r1 hp1 => ?_) hp
  refine hb z X H0 H1 σ env _ _ (o.go e1) (fun y u H2 e2 r2 hp2 => ?_) hp1
  have o2 := (o.go e1).go e2
  refine ho z X H0 H2 σ env v u x y _ _ o2 ((r1.evo o e2 e1).later (by decide)) (r2.later (by decide)) (fun d w H3 e3 r3 kd => ?_) hp2
  cases d with
  | bl b =>
    cases (show Is z _ H3 w (.bl b) from r3)
    refine ⟨b, rfl, ?_⟩
    cases b with
    | false =>
      rw [if_neg Bool.false_ne_true]
      exact c _ _ H3 (e1.trans (e2.trans e3)) (Is.bl false) kd
    | true =>
      rw [if_pos rfl]
      refine hc z X H0 H3 σ env _ _ (o2.go e3) (fun l w H4 e4 r4 hp4 => ?_) kd
      refine ho' z X H0 H4 σ env u w y l Q k ((o2.go e3).go e4) ((r2.evo (o.go e1) (e3.trans e4) e2).later (by decide)) (r4.later (by decide)) (fun d x H5 e5 r5 kd => ?_) hp4
      exact c d x H5 (e1.trans (e2.trans (e3.trans (e4.trans e5)))) r5 kd
  | _ => exact (show False from kd).elim
theorem e_chain {c : Expr} {s : PX} {op op' : CmpOp} {r r' : R2} {g g' : D → D → (D → Prop) → Prop} (hr : OpR C (compareOp op) r) (hr' : OpR C (compareOp op') r') (ho : OpD .b .b r g) (ho' : OpD .b .e r' g') (ha : E .b C a p) (hb : E .b C b q) (hc : E .b C c s)
    (hm : lastMarks [op, op'] [b, c] = false := by with_unfolding_all rfl) : E .e C (.Compare a [op, op'] [b, c] pos) (eChain g g' p q s) := by
  obtain ⟨ta, a1, a2⟩ := ha
  obtain ⟨tb, b1, b2⟩ := hb
  obtain ⟨tc, c1, c2⟩ := hc
  exact ⟨_, pe_chain hr hr' a1 b1 c1 hm, RE.chain ho ho' a2 b2 c2⟩
theorem t_chain {c : Expr} {s : PX} {op op' : CmpOp} {r r' : R2} {g g' : D → D → (D → Prop) → Prop} (hr : OpR C (compareOp op) r) (hr' : OpR C (compareOp op') r') (ho : OpD .b .b r g) (ho' : OpD .b .e r' g') (ha : E .b C a p) (hb : E .b C b q) (hc : E .b C c s)
    (hm : lastMarks [op, op'] [b, c] = false := by with_unfolding_all rfl) : T C (.Compare a [op, op'] [b, c] pos) (tOf (eChain g g' p q s)) := by
  obtain ⟨ta, a1, a2⟩ := ha
  obtain ⟨tb, b1, b2⟩ := hb
  obtain ⟨tc, c1, c2⟩ := hc
  exact ⟨_, pt_chain hr hr' a1 b1 c1 hm, RT.of (fun z X H0 H σ env Q k o c hp => RE.chain ho ho' a2 b2 c2 z X H0 H σ env Q k o (fun d v H' ev r kd => c d v H' ev r.eb kd) hp)⟩

/-! whole numbers -/
def dII (Cc : Int → Int → Prop) (g : Int → Int → D) : D → D → (D → Prop) → Prop := fun x y k => match x, y with
  | .int i, .int j => Cc i j ∧ k (g i j)
  | _, _ => False
def dI0 (g : Int → Int → D) : D → D → (D → Prop) → Prop := fun x y k => match x, y with
  | .int i, .int j => k (g i j)
  | _, _ => False
theorem Is.intI {z : Zn} {M : AP} {H : Hp} {v : V} {i : Int} (h : Is z M H v (.int i)) : v = .int i := by cases h; rfl
theorem opd_II {Cc : Int → Int → Prop} {g : Int → Int → D} {g' : Int → Int → V} (h : ∀ i j z M H, Is z M H (g' i j) (g i j)) : OpD .b .e (rI Cc g') (dII Cc g) := fun z X H0 H σ env v u x y Q k o r1 r2 c hp => by
  cases x with
  | int i =>
    cases y with
    | int j => exact ⟨i, j, Is.intI r1, Is.intI r2, hp.1, c _ _ H (Evo.refl _ _) (h i j _ _ _) hp.2⟩
    | _ => exact (show False from hp).elim
  | _ => exact (show False from hp).elim
theorem opd_I0 {g : Int → Int → D} {g' : Int → Int → V} (h : ∀ i j z M H, Is z M H (g' i j) (g i j)) : OpD .b .e (rI0 g') (dI0 g) := fun z X H0 H σ env v u x y Q k o r1 r2 c hp => by
  cases x with
  | int i =>
    cases y with
    | int j => exact ⟨i, j, Is.intI r1, Is.intI r2, c _ _ H (Evo.refl _ _) (h i j _ _ _) hp⟩
    | _ => exact (show False from hp).elim
  | _ => exact (show False from hp).elim
theorem OpD.eb {mi : Mode} {r : R2} {g : D → D → (D → Prop) → Prop} (h : OpD mi .e r g) : OpD mi .b r g := fun z X H0 H σ env v u x y Q k o r1 r2 c hp => h z X H0 H σ env v u x y Q k o r1 r2 (fun d w H' e r kd => c d w H' e r.eb kd) hp
abbrev dSub := dI0 fun i j => .int (i - j)
abbrev dMul := dII CMul fun i j => .int (i * j)
abbrev dDiv := dII CDiv fun i j => .int (i / j)
abbrev dMod := dII (fun _ j => 0 < j) fun i j => .int (i % j)
abbrev dPow := dII CPow fun i j => .int (i ^ j.toNat)
abbrev dLt := dI0 fun i j => .bl (decide (i < j))
abbrev dLe := dI0 fun i j => .bl (decide (i ≤ j))
abbrev dGt := dI0 fun i j => .bl (decide (j < i))
abbrev dGe := dI0 fun i j => .bl (decide (j ≤ i))
theorem opd_sub : OpD .b .e (rI0 fun i j => .int (i - j)) dSub := opd_I0 fun i j _ _ _ => .int _
theorem opd_mul : OpD .b .e (rI CMul fun i j => .int (i * j)) dMul := opd_II fun i j _ _ _ => .int _
theorem opd_div : OpD .b .e (rI CDiv fun i j => .int (i / j)) dDiv := opd_II fun i j _ _ _ => .int _
theorem opd_mod : OpD .b .e (rI (fun _ j => 0 < j) fun i j => .int (i % j)) dMod := opd_II fun i j _ _ _ => .int _
theorem opd_pow : OpD .b .e (rI CPow fun i j => .int (i ^ j.toNat)) dPow := opd_II fun i j _ _ _ => .int _
theorem opd_lt : OpD .b .e (rI0 fun i j => .bl (decide (i < j))) dLt := opd_I0 fun i j _ _ _ => .bl _
theorem opd_le : OpD .b .e (rI0 fun i j => .bl (decide (i ≤ j))) dLe := opd_I0 fun i j _ _ _ => .bl _
theorem opd_gt : OpD .b .e (rI0 fun i j => .bl (decide (j < i))) dGt := opd_I0 fun i j _ _ _ => .bl _
theorem opd_ge : OpD .b .e (rI0 fun i j => .bl (decide (j ≤ i))) dGe := opd_I0 fun i j _ _ _ => .bl _
def eUn (g : D → (D → Prop) → Prop) (p : PX) : PX := fun env k => p env fun x => g x k
def dNeg : D → (D → Prop) → Prop := fun x k => match x with
  | .int i => k (.int (-i))
  | _ => False
theorem e_neg (ha : E m C a p) : E .e C (.UnaryOp .USub a pos) (eUn dNeg p) := by
  obtain ⟨t, h1, h2⟩ := ha.toB
  refine ⟨_, pe_un un_neg h1, fun z X H0 H σ env Q k o c hp => h2 z X H0 H σ env _ _ o (fun d v H' e r hd => ?_) hp⟩
  cases d with
  | int i => exact ⟨i, Is.intI r, c _ _ H' e (Is.int _) hd⟩
  | _ => exact (show False from hd).elim
end

/-! + -/
/-- of two rules one -/
theorem opr_or {C : Cx} {f : Value → Value → Sem Value} {r r' : R2} (h : OpR C f r) (h' : OpR C f r') : OpR C f (fun x y H Q => r x y H Q ∨ r' x y H Q) := fun pins s σ H x y v u Q I rx ry q => q.elim (h pins s σ H x y v u Q I rx ry) (h' pins s σ H x y v u Q I rx ry)
def rAddA (K : PySem.W.Frag) : R2 := fun x y H Q => (rI0 fun i j => .int (i + j)) x y H Q ∨ (rCatA K x y H Q ∨ (rCat x y H Q ∨ (∃ i j, x = .str i ∧ y = .str j ∧ i.length + j.length ≤ sizeLine ∧ Q (.str (i ++ j)) H)))
theorem op_addA {C : Cx} : OpR C (binaryOp .Add) (rAddA C.K) := opr_or op_add (opr_or op_catA (opr_or op_cat op_add_str))
def dAdd : D → D → (D → Prop) → Prop := fun x y k => match x, y with
  | .int i, .int j => k (.int (i + j))
  | .tup xs, .tup ys => xs.length + ys.length ≤ 100000 ∧ k (.tup (xs ++ ys))
  | .lst xs, .lst ys => xs.length + ys.length ≤ 100000 ∧ k (.lst (xs ++ ys))
  | .str xs, .str ys => xs.length + ys.length ≤ 100000 ∧ k (.str (xs ++ ys))
  | _, _ => False
theorem sz {n : Nat} (h : n ≤ 100000) : n ≤ sizeLine := Nat.le_trans h (by decide)
section
variable {z : Zn} {X : AP} {H0 H H1 H' : Hp} {σ : Sl} {env : List SV} {v : V} {d : D} {m : Mode} {M : AP}
theorem Rel.conT {xs : List D} (h : Rel .c z X H H' σ env v (.tup xs)) : ∃ a vs, v = .ref a ∧ H' a = some (.tup vs) ∧ IsA z (Ms z X σ env) H' vs xs ∧ ¬ Ms z X σ env a := by
  rcases h with h | ⟨a, rfl, ⟨vs, e, r⟩, n, md⟩
  · cases h with
    | tup e n r => exact ⟨_, _, rfl, e, r, n⟩
  · cases md
theorem Rel.conL {xs : List D} (h : Rel .c z X H H' σ env v (.lst xs)) : ∃ a vs, v = .ref a ∧ H' a = some (.lst vs) ∧ IsA z (Ms z X σ env) H' vs xs ∧ ¬ Zx z X a := by
  rcases h with h | ⟨a, rfl, ⟨vs, e, r⟩, n, md⟩
  · cases h with
    | lst e n r => exact ⟨_, _, rfl, e, r, fun q => n q.ms⟩
  · exact ⟨a, vs, rfl, e, r, n⟩
theorem Rel.strC {s : Str} (h : Rel .c z X H H' σ env v (.str s)) : v = .str s := by
  rcases h with h | ⟨a, _, hc, _⟩
  · cases h; rfl
  · exact hc.elim
theorem Rel.intC {s : Int} (h : Rel .c z X H H' σ env v (.int s)) : v = .int s := by
  rcases h with h | ⟨a, _, hc, _⟩
  · cases h; rfl
  · exact hc.elim
/-- parts of something that stood ahead of a new thing at a -/
theorem IsA.newer {a : Addr} {o : HO} {vs : List V} {ds : List D} (ha : H a = none) (h : IsA z (Ms z X σ env) H vs ds) : IsA z (Ms z (X.or a) σ env) (upd H a o) vs ds :=
  h.gen (fun b u q n => ⟨by rw [upd_ne (ne_of_none q ha)]; exact q, fun x => by
    rcases x with x | (x | x) | x
    · exact n (.inl x)
    · exact n (.inr (.inl x))
    · rw [x, ha] at q; cases q
    · exact n (.inr (.inr x))⟩) fun _ h => ok_new ha h
theorem Rel.newL {a : Addr} {vs : List V} {ds : List D} (hn : H a = none) (ha : H' a = none) (h : IsA z (Ms z X σ env) H' vs ds) : Rel .f z X H (upd H' a (.lst vs)) σ env (.ref a) (.lst ds) :=
  ⟨a, rfl, hn, vs, upd_same, h.newer ha⟩
theorem Rel.newT {a : Addr} {vs : List V} {ds : List D} (hn : H a = none) (ha : H' a = none) (h : IsA z (Ms z X σ env) H' vs ds) : Rel .f z X H (upd H' a (.tup vs)) σ env (.ref a) (.tup ds) :=
  ⟨a, rfl, hn, vs, upd_same, h.newer ha⟩
end
theorem opd_add {K : PySem.W.Frag} : OpD .c .e (rAddA K) dAdd := fun z X H0 H σ env v u x y Q k o r1 r2 c hp => by
  cases x with
  | int i =>
    cases y with
    | int j => exact .inl ⟨i, j, r1.intC, r2.intC, c _ _ H (Evo.refl _ _) (Is.int _) hp⟩
    | _ => exact (show False from hp).elim
  | str i =>
    cases y with
    | str j => exact .inr (.inr (.inr ⟨i, j, r1.strC, r2.strC, sz hp.1, c _ _ H (Evo.refl _ _) (Is.str _) hp.2⟩))
    | _ => exact (show False from hp).elim
  | tup xs =>
    cases y with
    | tup ys =>
      obtain ⟨a, vs, e1, h1, i1, n1⟩ := r1.conT
      obtain ⟨b, us, e2, h2, i2, n2⟩ := r2.conT
      subst e1 e2
      have l1 := i1.length
      have l2 := i2.length
      refine .inr (.inl ⟨a, b, vs, us, rfl, rfl, SqT.of h1, SqT.of h2, sz (by rw [l1, l2]; exact hp.1), fun e => ?_, fun e1 e => ?_, fun e1 e2 q hq => ?_⟩)
      · subst e
        cases i1
        exact c _ _ H (Evo.refl _ _) (Is.tup h2 n2 i2) hp.2
      · subst e
        cases i2
        have hp2 := hp.2
        rw [List.append_nil] at hp2
        exact c _ _ H (Evo.refl _ _) (Is.tup h1 n1 i1) hp2
      · exact c _ _ _ ((Evo.refl _ _).new hq) ((Rel.newT hq hq (i1.append i2)).fe o) hp.2
    | _ => exact (show False from hp).elim
  | lst xs =>
    cases y with
    | lst ys =>
      obtain ⟨a, vs, e1, h1, i1, n1⟩ := r1.conL
      obtain ⟨b, us, e2, h2, i2, n2⟩ := r2.conL
      subst e1 e2
      refine .inr (.inr (.inl ⟨a, b, vs, us, rfl, rfl, h1, h2, sz (by rw [i1.length, i2.length]; exact hp.1), fun q hq => ?_⟩))
      exact c _ _ _ ((Evo.refl _ _).new hq) ((Rel.newL hq hq (i1.append i2)).fe o) hp.2
    | _ => exact (show False from hp).elim
  | _ => exact (show False from hp).elim
end Pu

namespace Pu
open PySem PySem.Spec PyProof.Rows L2
variable [Tbs]
section
variable {C : Cx} {e a b : Expr} {p q : PX} {m m' : Mode} {pos : Pos}

/-! ### ==, in, is -/
def EqV (x y : D) (c : Bool) : Prop := shp 60 x = true ∧ shp 60 y = true ∧ eqvD x y = c
def dEq : D → D → (D → Prop) → Prop := fun x y k => ∃ c, EqV x y c ∧ k (.bl c)
def dNe : D → D → (D → Prop) → Prop := fun x y k => ∃ c, EqV x y c ∧ k (.bl (!c))
theorem opd_eq {K : PySem.W.Frag} : OpD .b .e (rEqD K) dEq := fun z X H0 H σ env v u x y Q k o r1 r2 c hp => by
  obtain ⟨b, ⟨h1, h2, h3⟩, hk⟩ := hp
  exact ⟨_, _, Is.dp r1 h1, Is.dp r2 h2, shaped_of h1, shaped_of h2, by rw [show PyData.eqv (pd x) (pd y) = b from h3]; exact c _ _ H (Evo.refl _ _) (Is.bl _) hk⟩
theorem opd_ne {K : PySem.W.Frag} : OpD .b .e (rNeD K) dNe := fun z X H0 H σ env v u x y Q k o r1 r2 c hp => by
  obtain ⟨b, ⟨h1, h2, h3⟩, hk⟩ := hp
  exact ⟨_, _, Is.dp r1 h1, Is.dp r2 h2, shaped_of h1, shaped_of h2, by rw [show PyData.eqv (pd x) (pd y) = b from h3]; exact c _ _ H (Evo.refl _ _) (Is.bl _) hk⟩
/-- is None; truths -/
def isD (x y : D) : Option Bool := match x, y with
  | .non, .non => some true
  | .bl a, .bl b => some (decide (a = b))
  | _, .non => some false
  | _, _ => none
def dIs (neg : Bool) : D → D → (D → Prop) → Prop := fun x y k => match x, y with
  | .non, .non => k (.bl (neg ^^ true))
  | .bl a, .bl b => k (.bl (neg ^^ decide (a = b)))
  | _, .non => k (.bl neg)
  | _, _ => False
def rIsA : R2 := fun x y H Q => (y = .non ∧ Q (.bl (decide (x = .non))) H) ∨ (∃ a b, x = .bl a ∧ y = .bl b ∧ Q (.bl (decide (a = b))) H)
def rIsNA : R2 := fun x y H Q => (y = .non ∧ Q (.bl (!decide (x = .non))) H) ∨ (∃ a b, x = .bl a ∧ y = .bl b ∧ Q (.bl (!decide (a = b))) H)
theorem op_isA : OpR C (compareOp .Is) rIsA := opr_or op_isN op_is_bl
theorem op_isNA : OpR C (compareOp .IsNot) rIsNA := opr_or op_notN op_isnot_bl
theorem Is.notNon {z : Zn} {M : AP} {H : Hp} {v : V} {d : D} (h : Is z M H v d) (hd : d ≠ .non) : v ≠ .non := by
  cases h <;> first | exact absurd rfl hd | (intro q; cases q)
theorem opd_is : OpD .b .e rIsA (dIs false) := fun z X H0 H σ env v u x y Q k o r1 r2 c hp => by
  cases y with
  | non =>
    cases (show Is z _ H u .non from r2)
    refine .inl ⟨rfl, ?_⟩
    by_cases hx : x = .non
    · subst hx
      cases (show Is z _ H v .non from r1)
      exact c _ _ H (Evo.refl _ _) (Is.bl _) hp
    · rw [decide_eq_false (Is.notNon r1 hx)]
      refine c (.bl false) _ H (Evo.refl _ _) (Is.bl _) ?_
      cases x <;> first | exact absurd rfl hx | exact hp
  | bl b =>
    cases x with
    | bl a =>
      cases (show Is z _ H u _ from r2)
      cases (show Is z _ H v _ from r1)
      exact .inr ⟨a, b, rfl, rfl, c _ _ H (Evo.refl _ _) (Is.bl _) (by simpa [dIs] using hp)⟩
    | _ => exact (show False from hp).elim
  | _ => cases x <;> exact (show False from hp).elim
theorem opd_isN : OpD .b .e rIsNA (dIs true) := fun z X H0 H σ env v u x y Q k o r1 r2 c hp => by
  cases y with
  | non =>
    cases (show Is z _ H u .non from r2)
    refine .inl ⟨rfl, ?_⟩
    by_cases hx : x = .non
    · subst hx
      cases (show Is z _ H v .non from r1)
      exact c _ _ H (Evo.refl _ _) (Is.bl _) hp
    · rw [decide_eq_false (Is.notNon r1 hx)]
      refine c (.bl true) _ H (Evo.refl _ _) (Is.bl _) ?_
      cases x <;> first | exact absurd rfl hx | exact hp
  | bl b =>
    cases x with
    | bl a =>
      cases (show Is z _ H u _ from r2)
      cases (show Is z _ H v _ from r1)
      exact .inr ⟨a, b, rfl, rfl, c _ _ H (Evo.refl _ _) (Is.bl _) (by simpa [dIs] using hp)⟩
    | _ => exact (show False from hp).elim
  | _ => cases x <;> exact (show False from hp).elim
/-- a number among numbers -/
def intsD : List D → Option (List Int)
  | [] => some []
  | .int i :: r => (intsD r).map (i :: ·)
  | _ => none
theorem intsD_eq : ∀ {ds : List D} {ns : List Int}, intsD ds = some ns → ds = ns.map D.int
  | [], _, h => by cases h; rfl
  | .int i :: r, ns, h => by
    unfold intsD at h
    cases e : intsD r with
    | none => rw [e] at h; cases h
    | some z => rw [e] at h; cases h; rw [intsD_eq e]; rfl
  | .non :: _, _, h => by cases h
  | .bl _ :: _, _, h => by cases h
  | .str _ :: _, _, h => by cases h
  | .ty _ :: _, _, h => by cases h
  | .tup _ :: _, _, h => by cases h
  | .lst _ :: _, _, h => by cases h
  | .dic _ :: _, _, h => by cases h
  | .deck _ :: _, _, h => by cases h
  | .dpr _ :: _, _, h => by cases h
  | .st _ :: _, _, h => by cases h
  | .bor _ :: _, _, h => by cases h
theorem intsD_map : ∀ ns : List Int, intsD (ns.map D.int) = some ns
  | [] => rfl
  | n :: ns => by show (intsD (ns.map D.int)).map (n :: ·) = _; rw [intsD_map ns]; rfl
theorem inI {x : Int} {xs : List Int} : inV (.int x) (xs.map V.int) = decide (x ∈ xs) := by
  induction xs with
  | nil => rfl
  | cons y r ih =>
    have e : inV (.int x) ((y :: r).map V.int) = (eqV (.int y) (.int x) || inV (.int x) (r.map V.int)) := rfl
    rw [e, ih]
    have e2 : eqV (.int y) (.int x) = decide (y = x) := by
      show (y == x) = _
      by_cases h : y = x
      · simp [h]
      · simp [h]
    rw [e2]
    by_cases h : y = x
    · simp [h]
    · have h' : ¬ x = y := fun e => h e.symm
      simp [h, h']
def seqD : D → Option (List D)
  | .tup xs => some xs
  | .lst xs => some xs
  | _ => none
def dIn (neg : Bool) : D → D → (D → Prop) → Prop := fun x y k => ∃ i ds ns, x = .int i ∧ seqD y = some ds ∧ intsD ds = some ns ∧ k (.bl (if neg then !decide (i ∈ ns) else decide (i ∈ ns)))
theorem flatInts : ∀ ns : List Int, (ns.map V.int).all flatV = true
  | [] => rfl
  | n :: ns => by simp only [List.map_cons, List.all_cons, flatInts ns, Bool.and_true]; rfl
theorem opd_in {K : PySem.W.Frag} {neg : Bool} : OpD .b .e (rIn K neg) (dIn neg) := fun z X H0 H σ env v u x y Q k o r1 r2 c hp => by
  obtain ⟨i, ds, ns, rfl, hs, hi, hk⟩ := hp
  cases Is.intI r1
  cases intsD_eq hi
  have fin : ∀ vs : List V, IsA z (Zx z X) H vs (ns.map D.int) → Q (.bl (if neg then !inV (.int i) vs else inV (.int i) vs)) H := fun vs h => by
    rw [h.ints, inI]
    exact c _ _ H (Evo.refl _ _) (Is.bl _) hk
  cases y with
  | tup xs =>
    cases hs
    cases (show Is z _ H u _ from r2) with
    | tup e n r => exact ⟨_, _, rfl, .inr (SqT.of e), rfl, by rw [r.ints]; exact flatInts ns, fin _ r⟩
  | lst xs =>
    cases hs
    cases (show Is z _ H u _ from r2) with
    | lst e n r => exact ⟨_, _, rfl, .inl (SqL.of e), rfl, by rw [r.ints]; exact flatInts ns, fin _ r⟩
  | _ => cases hs

/-! ### tests, and, or, not, if -/
variable {s t : PTs'} {rest : List Expr}
def tAndP (s t : PTs') : PTs' := fun env k => s env fun x => if x = true then t env k else k false
def tOrP (s t : PTs') : PTs' := fun env k => s env fun x => if x = true then k true else t env k
def tNotP (s : PTs') : PTs' := fun env k => s env fun x => k (!x)
theorem w_t (h : W C e s) : T C e s := let ⟨t, h1, h2⟩ := h; ⟨t, h1.pt, h2⟩
theorem w_and1 (h : T C a s) : W C (.BoolOp .And [a] pos) s := let ⟨t, h1, h2⟩ := h; ⟨t, pw_and1 h1, h2⟩
theorem w_or1 (h : T C a s) : W C (.BoolOp .Or [a] pos) s := let ⟨t, h1, h2⟩ := h; ⟨t, pw_or1 h1, h2⟩
theorem w_and (h : T C a s) (g : W C (.BoolOp .And (b :: rest) pos) t) : W C (.BoolOp .And (a :: b :: rest) pos) (tAndP s t) := by
  obtain ⟨t1, h1, h2⟩ := h
  obtain ⟨t2, g1, g2⟩ := g
  refine ⟨_, pw_and h1 g1, fun z X H0 H σ env Q k o c hp => h2 z X H0 H σ env _ _ o (fun x H1 e1 hx => ?_) hp⟩
  cases x with
  | true => exact g2 z X H0 H1 σ env Q k (o.go e1) (fun y H2 e2 hy => c y H2 (e1.trans e2) hy) hx
  | false => exact c false H1 e1 hx
theorem w_or (h : T C a s) (g : W C (.BoolOp .Or (b :: rest) pos) t) : W C (.BoolOp .Or (a :: b :: rest) pos) (tOrP s t) := by
  obtain ⟨t1, h1, h2⟩ := h
  obtain ⟨t2, g1, g2⟩ := g
  refine ⟨_, pw_or h1 g1, fun z X H0 H σ env Q k o c hp => h2 z X H0 H σ env _ _ o (fun x H1 e1 hx => ?_) hp⟩
  cases x with
  | false => exact g2 z X H0 H1 σ env Q k (o.go e1) (fun y H2 e2 hy => c y H2 (e1.trans e2) hy) hx
  | true => exact c true H1 e1 hx
theorem t_not (h : T C a s) : T C (.UnaryOp .Not a pos) (tNotP s) := by
  obtain ⟨t1, h1, h2⟩ := h
  exact ⟨_, pt_not h1, fun z X H0 H σ env Q k o c hp => h2 z X H0 H σ env _ _ o (fun x H1 e1 hx => c _ H1 e1 hx) hp⟩
/-- values -/
def eAnd (p q : PX) : PX := fun env k => p env fun x => bCase x (q env k) (k (.bl false))
def eOr (p q : PX) : PX := fun env k => p env fun x => bCase x (k (.bl true)) (q env k)
def dNot : D → (D → Prop) → Prop := fun x k => match x with
  | .bl c => k (.bl (!c))
  | _ => False
theorem e_one {op} (h : E m C a p) : E m C (.BoolOp op [a] pos) p := let ⟨t, h1, h2⟩ := h; ⟨t, pe_one h1, h2⟩
theorem e_and (h : E m C a p) (g : E .e C (.BoolOp .And (b :: rest) pos) q) : E .e C (.BoolOp .And (a :: b :: rest) pos) (eAnd p q) := by
  obtain ⟨t1, h1, h2⟩ := h.toB
  obtain ⟨t2, g1, g2⟩ := g
  refine ⟨_, pe_and h1 g1, fun z X H0 H σ env Q k o c hp => h2 z X H0 H σ env _ _ o (fun d v H1 e1 r1 hx => ?_) hp⟩
  cases d with
  | bl x =>
    cases (show Is z _ H1 v _ from r1)
    refine ⟨x, rfl, ?_⟩
    cases x with
    | true => rw [if_pos rfl]; exact g2 z X H0 H1 σ env Q k (o.go e1) (fun d v H2 e2 r2 hy => c d v H2 (e1.trans e2) r2 hy) hx
    | false => rw [if_neg Bool.false_ne_true]; exact c _ _ H1 e1 (Is.bl _) hx
  | _ => exact (show False from hx).elim
theorem e_or (h : E m C a p) (g : E .e C (.BoolOp .Or (b :: rest) pos) q) : E .e C (.BoolOp .Or (a :: b :: rest) pos) (eOr p q) := by
  obtain ⟨t1, h1, h2⟩ := h.toB
  obtain ⟨t2, g1, g2⟩ := g
  refine ⟨_, pe_or h1 g1, fun z X H0 H σ env Q k o c hp => h2 z X H0 H σ env _ _ o (fun d v H1 e1 r1 hx => ?_) hp⟩
  cases d with
  | bl x =>
    cases (show Is z _ H1 v _ from r1)
    refine ⟨x, rfl, ?_⟩
    cases x with
    | false => rw [if_neg Bool.false_ne_true]; exact g2 z X H0 H1 σ env Q k (o.go e1) (fun d v H2 e2 r2 hy => c d v H2 (e1.trans e2) r2 hy) hx
    | true => rw [if_pos rfl]; exact c _ _ H1 e1 (Is.bl _) hx
  | _ => exact (show False from hx).elim
theorem e_not (h : E m C a p) : E .e C (.UnaryOp .Not a pos) (eUn dNot p) := by
  obtain ⟨t1, h1, h2⟩ := h.toB
  refine ⟨_, pe_not h1, fun z X H0 H σ env Q k o c hp => h2 z X H0 H σ env _ _ o (fun d v H1 e1 r1 hx => ?_) hp⟩
  cases d with
  | bl x =>
    cases (show Is z _ H1 v _ from r1)
    exact ⟨x, rfl, c _ _ H1 e1 (Is.bl _) hx⟩
  | _ => exact (show False from hx).elim
def eIf (s : PTs') (p q : PX) : PX := fun env k => s env fun x => if x = true then p env k else q env k
theorem e_if {c : Expr} (h : T C c s) (ha : E .e C a p) (hb : E .e C b q) : E .e C (.IfExp c a b pos) (eIf s p q) := by
  obtain ⟨t, h1, h2⟩ := h
  obtain ⟨ta, a1, a2⟩ := ha
  obtain ⟨tb, b1, b2⟩ := hb
  refine ⟨_, pe_ifExp h1 a1 b1, fun z X H0 H σ env Q k o c hp => h2 z X H0 H σ env _ _ o (fun x H1 e1 hx => ?_) hp⟩
  cases x with
  | true => exact a2 z X H0 H1 σ env Q k (o.go e1) (fun d v H2 e2 r2 hy => c d v H2 (e1.trans e2) r2 hy) hx
  | false => exact b2 z X H0 H1 σ env Q k (o.go e1) (fun d v H2 e2 r2 hy => c d v H2 (e1.trans e2) r2 hy) hx
/-- truth of any value -/
def truD : D → Option Bool
  | .non => some false
  | .bl b => some b
  | .int i => some (i != 0)
  | .tup xs => some (!xs.isEmpty)
  | .lst xs => some (!xs.isEmpty)
  | _ => none
def tTru (p : PX) : PTs' := fun env k => p env fun d => ∃ b, truD d = some b ∧ k b
theorem IsA.isEmpty {z : Zn} {M : AP} {H : Hp} {vs : List V} {ds : List D} (h : IsA z M H vs ds) : ds.isEmpty = vs.isEmpty := by cases h <;> rfl
theorem t_tru (h : E m C e p) (he : ∀ whole, isTrue e C.env whole = (do let v ← whole; standAt e.pos; holding [v] (truthy v)) := by intro _; rfl) : T C e (tTru p) := by
  obtain ⟨t, h1, h2⟩ := h.toB
  refine ⟨_, pt_truth h1 he, fun z X H0 H σ env Q k o c hp => h2 z X H0 H σ env _ _ o (fun d v H1 e1 r1 hx => ?_) hp⟩
  obtain ⟨b, hb, hk⟩ := hx
  refine ⟨b, ?_, c b H1 e1 hk⟩
  cases (show Is z _ H1 v d from r1) with
  | non => cases hb; rfl
  | bl b => cases hb; rfl
  | int i => cases hb; rfl
  | tup e n r => cases hb; exact .inr (.inl ⟨_, SqT.of e, by rw [r.isEmpty]⟩)
  | lst e n r => cases hb; exact .inl ⟨_, SqL.of e, by rw [r.isEmpty]⟩
  | _ => cases hb

/-! ### arguments, displays -/
variable {es : List Expr} {l : Bool} {g : PAs}
def lm : Bool → Mode
  | true => .e
  | false => .b
def aNil : PAs := fun _ k => k []
def aCons (p : PX) (g : PAs) : PAs := fun env k => p env fun x => g env fun xs => k (x :: xs)
theorem a_nil : A l C [] aNil := ⟨_, pa_nil, fun z X H0 H σ env Q k o c hp => c [] [] H (Evo.refl _ _) .nil hp⟩
theorem a_cons (h : E (lm l) C e p) (hr : A l C es g) (hs : starEach (e :: es) C.env = (false, eval e C.env) :: starEach es C.env := by rfl) : A l C (e :: es) (aCons p g) := by
  obtain ⟨t, h1, h2⟩ := h
  obtain ⟨u, g1, g2⟩ := hr
  refine ⟨_, pa_cons h1 g1 hs, fun z X H0 H σ env Q k o c hp => h2 z X H0 H σ env _ _ o (fun d v H1 e1 r1 hx => ?_) hp⟩
  refine g2 z X H0 H1 σ env _ _ (o.go e1) (fun ds vs H2 e2 r2 hy => c (d :: ds) (v :: vs) H2 (e1.trans e2) (.cons ?_ r2) hy) hx
  cases l with
  | true => exact Is.evo (fun _ q => .inl q) e2 r1
  | false => exact Is.evo (fun _ q => .inl q) e2 r1
def eTup (g : PAs) : PX := fun env k => g env fun xs => xs.length ≤ 100000 ∧ k (.tup xs)
def eLst (g : PAs) : PX := fun env k => g env fun xs => xs.length ≤ 100000 ∧ k (.lst xs)
theorem e_tup {x1} (h : A true C es g) : E .e C (.Tuple es x1 pos) (eTup g) := by
  obtain ⟨t, h1, h2⟩ := h
  refine ⟨_, pe_tup h1, fun z X H0 H σ env Q k o c hp => h2 z X H0 H σ env _ _ o (fun ds vs H1 e1 r1 hx => ⟨by rw [r1.length]; exact sz hx.1, fun q hq => ?_⟩) hp⟩
  exact c _ _ _ (e1.new hq) ((Rel.newT (e1.fresh hq) hq r1).fe o) hx.2
theorem e_lst (h : A true C es g) : E .f C (.List es pos) (eLst g) := by
  obtain ⟨t, h1, h2⟩ := h
  refine ⟨_, pe_lst h1, fun z X H0 H σ env Q k o c hp => h2 z X H0 H σ env _ _ o (fun ds vs H1 e1 r1 hx => ⟨by rw [r1.length]; exact sz hx.1, fun q hq => ?_⟩) hp⟩
  exact c _ _ _ (e1.new hq) (Rel.newL (e1.fresh hq) hq r1) hx.2
/-- for a look -/
theorem e_tupB {x1} (h : A false C es g) : E .b C (.Tuple es x1 pos) (eTup g) := by
  obtain ⟨t, h1, h2⟩ := h
  refine ⟨_, pe_tup h1, fun z X H0 H σ env Q k o c hp => h2 z X H0 H σ env _ _ o (fun ds vs H1 e1 r1 hx => ⟨by rw [r1.length]; exact sz hx.1, fun q hq => ?_⟩) hp⟩
  exact c _ _ _ (e1.new hq) (Is.tup upd_same (fun hz => (o.go e1).notMs hq hz.ms) (IsA.new hq r1)) hx.2
theorem e_lstB (h : A false C es g) : E .b C (.List es pos) (eLst g) := by
  obtain ⟨t, h1, h2⟩ := h
  refine ⟨_, pe_lst h1, fun z X H0 H σ env Q k o c hp => h2 z X H0 H σ env _ _ o (fun ds vs H1 e1 r1 hx => ⟨by rw [r1.length]; exact sz hx.1, fun q hq => ?_⟩) hp⟩
  exact c _ _ _ (e1.new hq) (Is.lst upd_same (fun hz => (o.go e1).notMs hq hz.ms) (IsA.new hq r1)) hx.2

/-! ### x[i], x[i:j] -/
def dIx : D → D → (D → Prop) → Prop := fun x y k => match x, y with
  | .tup xs, .int i => ∃ d, atI xs i = some d ∧ k d
  | .lst xs, .int i => ∃ d, atI xs i = some d ∧ k d
  | .str s, .int i => ∃ c, s.length ≤ 100000 ∧ atI s.cps.toList i = some c ∧ k (.str ⟨#[c]⟩)
  | _, _ => False
theorem IsA.atI {z : Zn} {M : AP} {H : Hp} {vs : List V} {ds : List D} {i : Int} {d : D} (h : IsA z M H vs ds) (e : L2.atI ds i = some d) : ∃ v, L2.atI vs i = some v ∧ Is z M H v d := by
  unfold L2.atI at e ⊢
  rw [h.length]
  cases q : ixN ds.length i with
  | none => rw [q] at e; cases e
  | some j =>
    rw [q] at e
    obtain ⟨v, h1, h2⟩ := h.get (i := j) e
    exact ⟨v, h1, h2⟩
theorem opd_ix {K : PySem.W.Frag} : OpD .c .e (rIx K) dIx := fun z X H0 H σ env v u x y Q k o r1 r2 c hp => by
  cases x with
  | tup xs =>
    cases y with
    | int i =>
      obtain ⟨d, hd, hk⟩ := hp
      obtain ⟨a, vs, rfl, h1, h2, _⟩ := r1.conT
      obtain ⟨w, h3, h4⟩ := h2.atI hd
      exact .inr (.inl ⟨a, vs, i, w, rfl, r2.intC, SqT.of h1, h3, c d w H (Evo.refl _ _) h4 hk⟩)
    | _ => exact (show False from hp).elim
  | lst xs =>
    cases y with
    | int i =>
      obtain ⟨d, hd, hk⟩ := hp
      obtain ⟨a, vs, rfl, h1, h2, _⟩ := r1.conL
      obtain ⟨w, h3, h4⟩ := h2.atI hd
      exact .inl ⟨a, vs, i, w, rfl, r2.intC, SqL.of h1, h3, c d w H (Evo.refl _ _) h4 hk⟩
    | _ => exact (show False from hp).elim
  | str s =>
    cases y with
    | int i =>
      obtain ⟨d, hl, hd, hk⟩ := hp
      exact .inr (.inr ⟨s, i, d, r1.strC, r2.intC, sz hl, hd, c _ _ H (Evo.refl _ _) (Is.str _) hk⟩)
    | _ => exact (show False from hp).elim
  | _ => exact (show False from hp).elim
theorem e_ix (ha : E .c C a p) (hb : E .c C b q) (hs : PlainIx b := by exact fun _ _ => rfl) : E .e C (.Subscript a b pos) (eOp dIx p q) := by
  obtain ⟨ta, a1, a2⟩ := ha
  obtain ⟨tb, b1, b2⟩ := hb
  exact ⟨_, pe_ix (r := rIx C.K) ix_seq a1 b1 hs, RE.op (by decide) opd_ix a2 b2⟩
def cutD (xs : List D) (lo hi : Option Int) : List D := (xs.drop (HT.sIx xs.length 0 lo)).take (HT.sIx xs.length xs.length hi - HT.sIx xs.length 0 lo)
theorem IsA.cut {z : Zn} {M : AP} {H : Hp} {vs : List V} {ds : List D} {lo hi : Option Int} (h : IsA z M H vs ds) : IsA z M H (cutV vs lo hi) (cutD ds lo hi) := by
  unfold cutV cutD
  rw [h.length]
  exact (h.drop _).take _
theorem cut_whole {α : Type} {xs : List α} {lo hi : Option Int} (h : HT.sIx xs.length 0 lo = 0 ∧ HT.sIx xs.length xs.length hi = xs.length) : (xs.drop (HT.sIx xs.length 0 lo)).take (HT.sIx xs.length xs.length hi - HT.sIx xs.length 0 lo) = xs := by
  rw [h.1, h.2]; simp
def dSl : D → Option Int → Option Int → (D → Prop) → Prop := fun x lo hi k => match x with
  | .tup xs => k (.tup (cutD xs lo hi))
  | .lst xs => k (.lst (cutD xs lo hi))
  | _ => False
def rSlQ (K : PySem.W.Frag) : V → Option Int → Option Int → Hp → VK → Prop := fun x lo hi H Q => rSlA K x lo hi H Q ∨ rSlL K x lo hi H Q
theorem sl_seq : SlR C (rSlQ C.K) := fun pins s σ H x v vl vu lo hi sl Q I rx hs pl pu h => h.elim (sl_tupA pins s σ H x v vl vu lo hi sl Q I rx hs pl pu) (sl_list pins s σ H x v vl vu lo hi sl Q I rx hs pl pu)
abbrev PO' := List SV → (Option Int → Prop) → Prop
def RO (t : TO) (p : PO') : Prop := ∀ (z : Zn) (X : AP) (H0 H : Hp) (σ : Sl) (env : List SV) (Q : Option Int → Hp → Prop) (k : Option Int → Prop), Ok z X H0 H σ env →
  (∀ b H', Evo z H H' → k b → Q b H') → p env k → t σ H Q
structure O (C : Cx) (e : Option Expr) (p : PO') : Prop where
  ex : ∃ t, PO C e t ∧ RO t p
def oNo : PO' := fun _ k => k none
def inK (d : D) (k : Int → Prop) : Prop := match d with
  | .int i => k i
  | _ => False
def oPart (p : PX) : PO' := fun env k => p env fun d => inK d fun i => k (some i)
theorem o_none : O C none oNo := ⟨_, po_none, fun z X H0 H σ env Q k o c hp => c none H (Evo.refl _ _) hp⟩
theorem o_some (h : E m C e p) : O C (some e) (oPart p) := by
  obtain ⟨t, h1, h2⟩ := h.toB
  refine ⟨_, po_some h1, fun z X H0 H σ env Q k o c hp => h2 z X H0 H σ env _ _ o (fun d v H1 e1 r1 hx => ?_) hp⟩
  cases d with
  | int i => exact ⟨i, Is.intI r1, c _ H1 e1 hx⟩
  | _ => exact (show False from hx).elim
def eSl (p : PX) (lo hi : PO') : PX := fun env k => p env fun x => lo env fun i => hi env fun j => dSl x i j k
theorem e_slice {lo hi : Option Expr} {pl ph : PO'} {p2 : Pos} (h : E .c C e p) (hl : O C lo pl) (hh : O C hi ph) : E .e C (.Subscript e (.Slice lo hi none p2) pos) (eSl p pl ph) := by
  obtain ⟨t, h1, h2⟩ := h
  obtain ⟨tl, l1, l2⟩ := hl
  obtain ⟨th, g1, g2⟩ := hh
  refine ⟨_, pe_slice (r := rSlQ C.K) sl_seq h1 l1 g1, fun z X H0 H σ env Q k o c hp => h2 z X H0 H σ env _ _ o (fun d v H1 e1 r1 hx => ?_) hp⟩
  refine l2 z X H0 H1 σ env _ _ (o.go e1) (fun i H2 e2 hx => ?_) hx
  refine g2 z X H0 H2 σ env _ _ ((o.go e1).go e2) (fun j H3 e3 hx => ?_) hx
  have r3 := r1.evo o (e2.trans e3) e1
  have ev := e1.trans (e2.trans e3)
  cases d with
  | tup xs =>
    obtain ⟨a, vs, rfl, q1, q2, n⟩ := r3.conT
    refine .inl ⟨a, vs, rfl, SqT.of q1, fun w => ?_, fun w q hq => ?_⟩
    · refine c _ _ H3 ev ?_ hx
      have e : cutD xs i j = xs := by
        have l := q2.length
        rw [l] at w
        exact cut_whole w
      rw [e]
      exact Is.tup q1 n q2
    · exact c _ _ _ (ev.new hq) ((Rel.newT (ev.fresh hq) hq q2.cut).fe o) hx
  | lst xs =>
    obtain ⟨a, vs, rfl, q1, q2, n⟩ := r3.conL
    exact .inr ⟨a, vs, rfl, SqL.of q1, fun q hq => c _ _ _ (ev.new hq) ((Rel.newL (ev.fresh hq) hq q2.cut).fe o) hx⟩
  | _ => exact (show False from hx).elim
end
end Pu

namespace Ew
open PySem PySem.Spec PyProof.Rows L2
section
variable {prog : Program} {w : World} {A : Around} {E : Value → Shared → Prop} {s : Shared}
/-- what max asks of the tuple of its arguments -/
def Askmax (prog : Program) (w : World) (A : Around) (Q : Value → Shared → Prop) (it : Value) (s₂ : Shared) : Prop := ∃ I fp wr n P St bt, it = .ref I ∧ Walks prog w A.in1 I fp wr n P St ∧ St 0 s₂.heap ∧ (∀ b ∈ fp, b < s₂.heap.objs.size) ∧ 0 < n ∧ CmpOf prog w A.in1 .Gt P bt ∧
  ∀ v h' tk, P (argBest bt (n - 1)) v → (∀ b o, b ∉ wr → s₂.heap.get? b = some o → h'.get? b = some o) → Q v { s₂ with heap := h', toks := tk }
theorem ask_max {xs : Array (Int × Tok)} {Q : Value → Shared → Prop} {c : Sem Value} (hh : A.handled = none) (hne : 0 < xs.size)
    (hc : wpAny (model prog w) A.in1 (pyIter (.ref s.heap.objs.size)) (Askmax prog w A Q) E { s with heap := s.heap.push { cls := .type "tuple", data := .seq (intItems xs) } } → wpAny (model prog w) A c Q E s)
    (h : ∀ h' tk M t', (∀ d o, s.heap.get? d = some o → h'.get? d = some o) → M ∈ xs.toList.map (·.1) → (∀ a, a ∈ xs.toList.map (·.1) → a ≤ M) → Q (.int M t') { s with heap := h', toks := tk }) : wpAny (model prog w) A c Q E s := by
  have hT : (s.heap.push { cls := .type "tuple", data := .seq (intItems xs) }).IsTuple s.heap.objs.size (intItems xs) := ⟨_, Heap.get?_push_size _ rfl, rfl, 0, rfl⟩
  have hsz : (s.heap.push { cls := .type "tuple", data := .seq (intItems xs) }).objs.size = s.heap.objs.size + 1 := Heap.size_push ..
  have hln : (intItems xs).size = xs.size := by simp [intItems]
  refine hc (wpAny_pyIter_tuple hT ?_)
  refine ⟨_, [_, s.heap.objs.size], [_], _, _, _, _, rfl, Walks.tuple (A := A.in1) hh _ s.heap.objs.size (by rw [hsz]; exact Nat.ne_of_lt (Nat.lt_succ_self _)) (intItems xs),
    ⟨⟨_, Heap.get?_push_size _ rfl, rfl, rfl⟩, hT.push _⟩, fun d hd => ?_, by rw [hln]; exact hne, CmpOf.ints_gt (numAt xs) (fun _ _ => intItems_at), fun v h' tk hP hk => ?_⟩
  · show d < ((s.heap.push _).push _).objs.size
    rw [Heap.size_push, hsz]
    rcases List.mem_cons.mp hd with e | hd
    · rw [e, hsz]; exact Nat.lt_succ_self _
    · rw [List.mem_singleton.mp hd]; exact Nat.lt_succ_of_lt (Nat.lt_succ_self _)
  · have hold : ∀ d o, s.heap.get? d = some o → h'.get? d = some o := fun d o e => by
      refine hk d o (fun hm => ?_) (Heap.get?_push_of_some _ (Heap.get?_push_of_some _ e))
      have := Heap.lt_size e
      rw [List.mem_singleton.mp hm, hsz] at this
      exact Nat.lt_irrefl _ (Nat.lt_of_succ_lt this)
    obtain ⟨t, rfl⟩ := intItems_at hP
    obtain ⟨h1, h2⟩ := argBest_gt (numAt xs) ((intItems xs).size - 1)
    refine h h' tk _ t hold ?_ fun a ha => ?_
    · rw [numAt_eq]; exact PySem.getD_mem (by rw [List.length_map, Array.length_toList]; omega)
    · obtain ⟨j, hj, rfl⟩ := PySem.mem_getD ha
      rw [List.length_map, Array.length_toList] at hj
      rw [← numAt_eq]; exact h2 j (by omega)
theorem args_max3 (a0 a1 a2 : Value) : argsOk "max" ⟨[a0, a1, a2], []⟩ := by unfold argsOk; kernel_rfl
theorem tree_max3 {a0 a1 a2 : Value} {Q : Value → Shared → Prop} (h : wpAny (model prog w) A.in1 (pyIter (.ref s.heap.objs.size)) (Askmax prog w A Q) E { s with heap := s.heap.push { cls := .type "tuple", data := .seq #[a0, a1, a2] } }) : wpAny (model prog w) A (call (.builtin "max") [a0, a1, a2]) Q E s := by
  have hname : (toString "max" ++ toString ".loop" : String) = "max.loop" := by decide
  refine call_function_tree F.kind_max F.plain_max F.entry_max (args_max3 _ _ _) ?_
  show wpAny _ A.in1 (Builtin.Builtins.bindParams "max" ["key", "default"] 0 ⟨[], []⟩ >>= _) _ _ s
  refine wpAny_bind (wpAny_of_eq (show Builtin.Builtins.bindParams "max" ["key", "default"] 0 ⟨[], []⟩ = pure [none, none] from rfl) ?_)
  show wpAny _ A.in1 (newTuple [a0, a1, a2] >>= _) _ _ s
  refine wpAny_bind (wpAny_newObj_type ?_)
  refine wpAny_bind (wpAny_mono h (fun it s₂ h₂ => ?_) fun _ _ e => e)
  obtain ⟨I, fp, wr, n, P, St, bt, rfl, W, hst, hfp, hn, hcmp, hQ⟩ := h₂
  refine wpAny_bind (wpAny_newObj_type ?_)
  have hSf : s₂.heap.objs.size ∉ fp := fun hm => Nat.lt_irrefl _ (hfp _ hm)
  rw [hname]
  refine wpAny_pure ⟨plainId_quiet F.plain_max_loop _, codeAny_max_loop_first W bt hcmp s₂.heap.objs.size hSf hn (W.frame _ _ _ hst fun b _ o e => Heap.get?_push_of_some _ e) (Heap.get?_push_size _ rfl) fun v h' tk hP hk => ?_⟩
  exact hQ v h' tk hP fun b o hbw e => hk b o hbw (Nat.ne_of_lt (Heap.lt_size e)) (Heap.get?_push_of_some _ e)
theorem args_max4 (a0 a1 a2 a3 : Value) : argsOk "max" ⟨[a0, a1, a2, a3], []⟩ := by unfold argsOk; kernel_rfl
theorem tree_max4 {a0 a1 a2 a3 : Value} {Q : Value → Shared → Prop} (h : wpAny (model prog w) A.in1 (pyIter (.ref s.heap.objs.size)) (Askmax prog w A Q) E { s with heap := s.heap.push { cls := .type "tuple", data := .seq #[a0, a1, a2, a3] } }) : wpAny (model prog w) A (call (.builtin "max") [a0, a1, a2, a3]) Q E s := by
  have hname : (toString "max" ++ toString ".loop" : String) = "max.loop" := by decide
  refine call_function_tree F.kind_max F.plain_max F.entry_max (args_max4 _ _ _ _) ?_
  show wpAny _ A.in1 (Builtin.Builtins.bindParams "max" ["key", "default"] 0 ⟨[], []⟩ >>= _) _ _ s
  refine wpAny_bind (wpAny_of_eq (show Builtin.Builtins.bindParams "max" ["key", "default"] 0 ⟨[], []⟩ = pure [none, none] from rfl) ?_)
  show wpAny _ A.in1 (newTuple [a0, a1, a2, a3] >>= _) _ _ s
  refine wpAny_bind (wpAny_newObj_type ?_)
  refine wpAny_bind (wpAny_mono h (fun it s₂ h₂ => ?_) fun _ _ e => e)
  obtain ⟨I, fp, wr, n, P, St, bt, rfl, W, hst, hfp, hn, hcmp, hQ⟩ := h₂
  refine wpAny_bind (wpAny_newObj_type ?_)
  have hSf : s₂.heap.objs.size ∉ fp := fun hm => Nat.lt_irrefl _ (hfp _ hm)
  rw [hname]
  refine wpAny_pure ⟨plainId_quiet F.plain_max_loop _, codeAny_max_loop_first W bt hcmp s₂.heap.objs.size hSf hn (W.frame _ _ _ hst fun b _ o e => Heap.get?_push_of_some _ e) (Heap.get?_push_size _ rfl) fun v h' tk hP hk => ?_⟩
  exact hQ v h' tk hP fun b o hbw e => hk b o hbw (Nat.ne_of_lt (Heap.lt_size e)) (Heap.get?_push_of_some _ e)
theorem args_max5 (a0 a1 a2 a3 a4 : Value) : argsOk "max" ⟨[a0, a1, a2, a3, a4], []⟩ := by unfold argsOk; kernel_rfl
theorem tree_max5 {a0 a1 a2 a3 a4 : Value} {Q : Value → Shared → Prop} (h : wpAny (model prog w) A.in1 (pyIter (.ref s.heap.objs.size)) (Askmax prog w A Q) E { s with heap := s.heap.push { cls := .type "tuple", data := .seq #[a0, a1, a2, a3, a4] } }) : wpAny (model prog w) A (call (.builtin "max") [a0, a1, a2, a3, a4]) Q E s := by
  have hname : (toString "max" ++ toString ".loop" : String) = "max.loop" := by decide
  refine call_function_tree F.kind_max F.plain_max F.entry_max (args_max5 _ _ _ _ _) ?_
  show wpAny _ A.in1 (Builtin.Builtins.bindParams "max" ["key", "default"] 0 ⟨[], []⟩ >>= _) _ _ s
  refine wpAny_bind (wpAny_of_eq (show Builtin.Builtins.bindParams "max" ["key", "default"] 0 ⟨[], []⟩ = pure [none, none] from rfl) ?_)
  show wpAny _ A.in1 (newTuple [a0, a1, a2, a3, a4] >>= _) _ _ s
  refine wpAny_bind (wpAny_newObj_type ?_)
  refine wpAny_bind (wpAny_mono h (fun it s₂ h₂ => ?_) fun _ _ e => e)
  obtain ⟨I, fp, wr, n, P, St, bt, rfl, W, hst, hfp, hn, hcmp, hQ⟩ := h₂
  refine wpAny_bind (wpAny_newObj_type ?_)
  have hSf : s₂.heap.objs.size ∉ fp := fun hm => Nat.lt_irrefl _ (hfp _ hm)
  rw [hname]
  refine wpAny_pure ⟨plainId_quiet F.plain_max_loop _, codeAny_max_loop_first W bt hcmp s₂.heap.objs.size hSf hn (W.frame _ _ _ hst fun b _ o e => Heap.get?_push_of_some _ e) (Heap.get?_push_size _ rfl) fun v h' tk hP hk => ?_⟩
  exact hQ v h' tk hP fun b o hbw e => hk b o hbw (Nat.ne_of_lt (Heap.lt_size e)) (Heap.get?_push_of_some _ e)
end
section
variable {X : Cx}
theorem call_max3 (hc : X.calm = true) : CallR X (.builtin "max") (fun xs H Q => ∃ a0 a1 a2 : Int, xs = [.int a0, .int a1, .int a2] ∧ ∀ m, (m = a0 ∨ m = a1 ∨ m = a2) → a0 ≤ m → a1 ≤ m → a2 ≤ m → Q (.int m) H) := by
  intro pins s σ H xs us Q I r h
  obtain ⟨a0, a1, a2, rfl, q⟩ := h
  cases r with | cons q0 r0 =>
  obtain ⟨t0, rfl⟩ := q0
  cases r0 with | cons q1 r1 =>
  obtain ⟨t1, rfl⟩ := q1
  cases r1 with | cons q2 r2 =>
  obtain ⟨t2, rfl⟩ := q2
  cases r2
  refine ask_max (xs := #[(a0, t0), (a1, t1), (a2, t2)]) (I.ok.hd hc) (by simp) (fun h => tree_max3 (by simpa [intItems] using h)) fun h' tk M t' hk hm hle => ⟨.int M, H, I.kept hk, ⟨_, rfl⟩, q M ?_ (hle _ (by simp)) (hle _ (by simp)) (hle _ (by simp))⟩
  · simpa using hm
theorem call_max4 (hc : X.calm = true) : CallR X (.builtin "max") (fun xs H Q => ∃ a0 a1 a2 a3 : Int, xs = [.int a0, .int a1, .int a2, .int a3] ∧ ∀ m, (m = a0 ∨ m = a1 ∨ m = a2 ∨ m = a3) → a0 ≤ m → a1 ≤ m → a2 ≤ m → a3 ≤ m → Q (.int m) H) := by
  intro pins s σ H xs us Q I r h
  obtain ⟨a0, a1, a2, a3, rfl, q⟩ := h
  cases r with | cons q0 r0 =>
  obtain ⟨t0, rfl⟩ := q0
  cases r0 with | cons q1 r1 =>
  obtain ⟨t1, rfl⟩ := q1
  cases r1 with | cons q2 r2 =>
  obtain ⟨t2, rfl⟩ := q2
  cases r2 with | cons q3 r3 =>
  obtain ⟨t3, rfl⟩ := q3
  cases r3
  refine ask_max (xs := #[(a0, t0), (a1, t1), (a2, t2), (a3, t3)]) (I.ok.hd hc) (by simp) (fun h => tree_max4 (by simpa [intItems] using h)) fun h' tk M t' hk hm hle => ⟨.int M, H, I.kept hk, ⟨_, rfl⟩, q M ?_ (hle _ (by simp)) (hle _ (by simp)) (hle _ (by simp)) (hle _ (by simp))⟩
  · simpa using hm
theorem call_max5 (hc : X.calm = true) : CallR X (.builtin "max") (fun xs H Q => ∃ a0 a1 a2 a3 a4 : Int, xs = [.int a0, .int a1, .int a2, .int a3, .int a4] ∧ ∀ m, (m = a0 ∨ m = a1 ∨ m = a2 ∨ m = a3 ∨ m = a4) → a0 ≤ m → a1 ≤ m → a2 ≤ m → a3 ≤ m → a4 ≤ m → Q (.int m) H) := by
  intro pins s σ H xs us Q I r h
  obtain ⟨a0, a1, a2, a3, a4, rfl, q⟩ := h
  cases r with | cons q0 r0 =>
  obtain ⟨t0, rfl⟩ := q0
  cases r0 with | cons q1 r1 =>
  obtain ⟨t1, rfl⟩ := q1
  cases r1 with | cons q2 r2 =>
  obtain ⟨t2, rfl⟩ := q2
  cases r2 with | cons q3 r3 =>
  obtain ⟨t3, rfl⟩ := q3
  cases r3 with | cons q4 r4 =>
  obtain ⟨t4, rfl⟩ := q4
  cases r4
  refine ask_max (xs := #[(a0, t0), (a1, t1), (a2, t2), (a3, t3), (a4, t4)]) (I.ok.hd hc) (by simp) (fun h => tree_max5 (by simpa [intItems] using h)) fun h' tk M t' hk hm hle => ⟨.int M, H, I.kept hk, ⟨_, rfl⟩, q M ?_ (hle _ (by simp)) (hle _ (by simp)) (hle _ (by simp)) (hle _ (by simp)) (hle _ (by simp))⟩
  · simpa using hm
end
section
variable {prog : Program} {w : World} {A : Around} {E : Value → Shared → Prop} {s : Shared}
/-- what min asks of the tuple of its arguments -/
def Askmin (prog : Program) (w : World) (A : Around) (Q : Value → Shared → Prop) (it : Value) (s₂ : Shared) : Prop := ∃ I fp wr n P St bt, it = .ref I ∧ Walks prog w A.in1 I fp wr n P St ∧ St 0 s₂.heap ∧ (∀ b ∈ fp, b < s₂.heap.objs.size) ∧ 0 < n ∧ CmpOf prog w A.in1 .Lt P bt ∧
  ∀ v h' tk, P (argBest bt (n - 1)) v → (∀ b o, b ∉ wr → s₂.heap.get? b = some o → h'.get? b = some o) → Q v { s₂ with heap := h', toks := tk }
theorem ask_min {xs : Array (Int × Tok)} {Q : Value → Shared → Prop} {c : Sem Value} (hh : A.handled = none) (hne : 0 < xs.size)
    (hc : wpAny (model prog w) A.in1 (pyIter (.ref s.heap.objs.size)) (Askmin prog w A Q) E { s with heap := s.heap.push { cls := .type "tuple", data := .seq (intItems xs) } } → wpAny (model prog w) A c Q E s)
    (h : ∀ h' tk M t', (∀ d o, s.heap.get? d = some o → h'.get? d = some o) → M ∈ xs.toList.map (·.1) → (∀ a, a ∈ xs.toList.map (·.1) → M ≤ a) → Q (.int M t') { s with heap := h', toks := tk }) : wpAny (model prog w) A c Q E s := by
  have hT : (s.heap.push { cls := .type "tuple", data := .seq (intItems xs) }).IsTuple s.heap.objs.size (intItems xs) := ⟨_, Heap.get?_push_size _ rfl, rfl, 0, rfl⟩
  have hsz : (s.heap.push { cls := .type "tuple", data := .seq (intItems xs) }).objs.size = s.heap.objs.size + 1 := Heap.size_push ..
  have hln : (intItems xs).size = xs.size := by simp [intItems]
  refine hc (wpAny_pyIter_tuple hT ?_)
  refine ⟨_, [_, s.heap.objs.size], [_], _, _, _, _, rfl, Walks.tuple (A := A.in1) hh _ s.heap.objs.size (by rw [hsz]; exact Nat.ne_of_lt (Nat.lt_succ_self _)) (intItems xs),
    ⟨⟨_, Heap.get?_push_size _ rfl, rfl, rfl⟩, hT.push _⟩, fun d hd => ?_, by rw [hln]; exact hne, CmpOf.ints_lt (numAt xs) (fun _ _ => intItems_at), fun v h' tk hP hk => ?_⟩
  · show d < ((s.heap.push _).push _).objs.size
    rw [Heap.size_push, hsz]
    rcases List.mem_cons.mp hd with e | hd
    · rw [e, hsz]; exact Nat.lt_succ_self _
    · rw [List.mem_singleton.mp hd]; exact Nat.lt_succ_of_lt (Nat.lt_succ_self _)
  · have hold : ∀ d o, s.heap.get? d = some o → h'.get? d = some o := fun d o e => by
      refine hk d o (fun hm => ?_) (Heap.get?_push_of_some _ (Heap.get?_push_of_some _ e))
      have := Heap.lt_size e
      rw [List.mem_singleton.mp hm, hsz] at this
      exact Nat.lt_irrefl _ (Nat.lt_of_succ_lt this)
    obtain ⟨t, rfl⟩ := intItems_at hP
    obtain ⟨h1, h2⟩ := argBest_lt (numAt xs) ((intItems xs).size - 1)
    refine h h' tk _ t hold ?_ fun a ha => ?_
    · rw [numAt_eq]; exact PySem.getD_mem (by rw [List.length_map, Array.length_toList]; omega)
    · obtain ⟨j, hj, rfl⟩ := PySem.mem_getD ha
      rw [List.length_map, Array.length_toList] at hj
      rw [← numAt_eq]; exact h2 j (by omega)
theorem args_min3 (a0 a1 a2 : Value) : argsOk "min" ⟨[a0, a1, a2], []⟩ := by unfold argsOk; kernel_rfl
theorem tree_min3 {a0 a1 a2 : Value} {Q : Value → Shared → Prop} (h : wpAny (model prog w) A.in1 (pyIter (.ref s.heap.objs.size)) (Askmin prog w A Q) E { s with heap := s.heap.push { cls := .type "tuple", data := .seq #[a0, a1, a2] } }) : wpAny (model prog w) A (call (.builtin "min") [a0, a1, a2]) Q E s := by
  have hname : (toString "min" ++ toString ".loop" : String) = "min.loop" := by decide
  refine call_function_tree F.kind_min F.plain_min F.entry_min (args_min3 _ _ _) ?_
  show wpAny _ A.in1 (Builtin.Builtins.bindParams "min" ["key", "default"] 0 ⟨[], []⟩ >>= _) _ _ s
  refine wpAny_bind (wpAny_of_eq (show Builtin.Builtins.bindParams "min" ["key", "default"] 0 ⟨[], []⟩ = pure [none, none] from rfl) ?_)
  show wpAny _ A.in1 (newTuple [a0, a1, a2] >>= _) _ _ s
  refine wpAny_bind (wpAny_newObj_type ?_)
  refine wpAny_bind (wpAny_mono h (fun it s₂ h₂ => ?_) fun _ _ e => e)
  obtain ⟨I, fp, wr, n, P, St, bt, rfl, W, hst, hfp, hn, hcmp, hQ⟩ := h₂
  refine wpAny_bind (wpAny_newObj_type ?_)
  have hSf : s₂.heap.objs.size ∉ fp := fun hm => Nat.lt_irrefl _ (hfp _ hm)
  rw [hname]
  refine wpAny_pure ⟨plainId_quiet F.plain_min_loop _, codeAny_min_loop_first W bt hcmp s₂.heap.objs.size hSf hn (W.frame _ _ _ hst fun b _ o e => Heap.get?_push_of_some _ e) (Heap.get?_push_size _ rfl) fun v h' tk hP hk => ?_⟩
  exact hQ v h' tk hP fun b o hbw e => hk b o hbw (Nat.ne_of_lt (Heap.lt_size e)) (Heap.get?_push_of_some _ e)
theorem args_min4 (a0 a1 a2 a3 : Value) : argsOk "min" ⟨[a0, a1, a2, a3], []⟩ := by unfold argsOk; kernel_rfl
theorem tree_min4 {a0 a1 a2 a3 : Value} {Q : Value → Shared → Prop} (h : wpAny (model prog w) A.in1 (pyIter (.ref s.heap.objs.size)) (Askmin prog w A Q) E { s with heap := s.heap.push { cls := .type "tuple", data := .seq #[a0, a1, a2, a3] } }) : wpAny (model prog w) A (call (.builtin "min") [a0, a1, a2, a3]) Q E s := by
  have hname : (toString "min" ++ toString ".loop" : String) = "min.loop" := by decide
  refine call_function_tree F.kind_min F.plain_min F.entry_min (args_min4 _ _ _ _) ?_
  show wpAny _ A.in1 (Builtin.Builtins.bindParams "min" ["key", "default"] 0 ⟨[], []⟩ >>= _) _ _ s
  refine wpAny_bind (wpAny_of_eq (show Builtin.Builtins.bindParams "min" ["key", "default"] 0 ⟨[], []⟩ = pure [none, none] from rfl) ?_)
  show wpAny _ A.in1 (newTuple [a0, a1, a2, a3] >>= _) _ _ s
  refine wpAny_bind (wpAny_newObj_type ?_)
  refine wpAny_bind (wpAny_mono h (fun it s₂ h₂ => ?_) fun _ _ e => e)
  obtain ⟨I, fp, wr, n, P, St, bt, rfl, W, hst, hfp, hn, hcmp, hQ⟩ := h₂
  refine wpAny_bind (wpAny_newObj_type ?_)
  have hSf : s₂.heap.objs.size ∉ fp := fun hm => Nat.lt_irrefl _ (hfp _ hm)
  rw [hname]
  refine wpAny_pure ⟨plainId_quiet F.plain_min_loop _, codeAny_min_loop_first W bt hcmp s₂.heap.objs.size hSf hn (W.frame _ _ _ hst fun b _ o e => Heap.get?_push_of_some _ e) (Heap.get?_push_size _ rfl) fun v h' tk hP hk => ?_⟩
  exact hQ v h' tk hP fun b o hbw e => hk b o hbw (Nat.ne_of_lt (Heap.lt_size e)) (Heap.get?_push_of_some _ e)
theorem args_min5 (a0 a1 a2 a3 a4 : Value) : argsOk "min" ⟨[a0, a1, a2, a3, a4], []⟩ := by unfold argsOk; kernel_rfl
theorem tree_min5 {a0 a1 a2 a3 a4 : Value} {Q : Value → Shared → Prop} (h : wpAny (model prog w) A.in1 (pyIter (.ref s.heap.objs.size)) (Askmin prog w A Q) E { s with heap := s.heap.push { cls := .type "tuple", data := .seq #[a0, a1, a2, a3, a4] } }) : wpAny (model prog w) A (call (.builtin "min") [a0, a1, a2, a3, a4]) Q E s := by
  have hname : (toString "min" ++ toString ".loop" : String) = "min.loop" := by decide
  refine call_function_tree F.kind_min F.plain_min F.entry_min (args_min5 _ _ _ _ _) ?_
  show wpAny _ A.in1 (Builtin.Builtins.bindParams "min" ["key", "default"] 0 ⟨[], []⟩ >>= _) _ _ s
  refine wpAny_bind (wpAny_of_eq (show Builtin.Builtins.bindParams "min" ["key", "default"] 0 ⟨[], []⟩ = pure [none, none] from rfl) ?_)
  show wpAny _ A.in1 (newTuple [a0, a1, a2, a3, a4] >>= _) _ _ s
  refine wpAny_bind (wpAny_newObj_type ?_)
  refine wpAny_bind (wpAny_mono h (fun it s₂ h₂ => ?_) fun _ _ e => e)
  obtain ⟨I, fp, wr, n, P, St, bt, rfl, W, hst, hfp, hn, hcmp, hQ⟩ := h₂
  refine wpAny_bind (wpAny_newObj_type ?_)
  have hSf : s₂.heap.objs.size ∉ fp := fun hm => Nat.lt_irrefl _ (hfp _ hm)
  rw [hname]
  refine wpAny_pure ⟨plainId_quiet F.plain_min_loop _, codeAny_min_loop_first W bt hcmp s₂.heap.objs.size hSf hn (W.frame _ _ _ hst fun b _ o e => Heap.get?_push_of_some _ e) (Heap.get?_push_size _ rfl) fun v h' tk hP hk => ?_⟩
  exact hQ v h' tk hP fun b o hbw e => hk b o hbw (Nat.ne_of_lt (Heap.lt_size e)) (Heap.get?_push_of_some _ e)
end
section
variable {X : Cx}
theorem call_min3 (hc : X.calm = true) : CallR X (.builtin "min") (fun xs H Q => ∃ a0 a1 a2 : Int, xs = [.int a0, .int a1, .int a2] ∧ ∀ m, (m = a0 ∨ m = a1 ∨ m = a2) → m ≤ a0 → m ≤ a1 → m ≤ a2 → Q (.int m) H) := by
  intro pins s σ H xs us Q I r h
  obtain ⟨a0, a1, a2, rfl, q⟩ := h
  cases r with | cons q0 r0 =>
  obtain ⟨t0, rfl⟩ := q0
  cases r0 with | cons q1 r1 =>
  obtain ⟨t1, rfl⟩ := q1
  cases r1 with | cons q2 r2 =>
  obtain ⟨t2, rfl⟩ := q2
  cases r2
  refine ask_min (xs := #[(a0, t0), (a1, t1), (a2, t2)]) (I.ok.hd hc) (by simp) (fun h => tree_min3 (by simpa [intItems] using h)) fun h' tk M t' hk hm hle => ⟨.int M, H, I.kept hk, ⟨_, rfl⟩, q M ?_ (hle _ (by simp)) (hle _ (by simp)) (hle _ (by simp))⟩
  · simpa using hm
theorem call_min4 (hc : X.calm = true) : CallR X (.builtin "min") (fun xs H Q => ∃ a0 a1 a2 a3 : Int, xs = [.int a0, .int a1, .int a2, .int a3] ∧ ∀ m, (m = a0 ∨ m = a1 ∨ m = a2 ∨ m = a3) → m ≤ a0 → m ≤ a1 → m ≤ a2 → m ≤ a3 → Q (.int m) H) := by
  intro pins s σ H xs us Q I r h
  obtain ⟨a0, a1, a2, a3, rfl, q⟩ := h
  cases r with | cons q0 r0 =>
  obtain ⟨t0, rfl⟩ := q0
  cases r0 with | cons q1 r1 =>
  obtain ⟨t1, rfl⟩ := q1
  cases r1 with | cons q2 r2 =>
  obtain ⟨t2, rfl⟩ := q2
  cases r2 with | cons q3 r3 =>
  obtain ⟨t3, rfl⟩ := q3
  cases r3
  refine ask_min (xs := #[(a0, t0), (a1, t1), (a2, t2), (a3, t3)]) (I.ok.hd hc) (by simp) (fun h => tree_min4 (by simpa [intItems] using h)) fun h' tk M t' hk hm hle => ⟨.int M, H, I.kept hk, ⟨_, rfl⟩, q M ?_ (hle _ (by simp)) (hle _ (by simp)) (hle _ (by simp)) (hle _ (by simp))⟩
  · simpa using hm
theorem call_min5 (hc : X.calm = true) : CallR X (.builtin "min") (fun xs H Q => ∃ a0 a1 a2 a3 a4 : Int, xs = [.int a0, .int a1, .int a2, .int a3, .int a4] ∧ ∀ m, (m = a0 ∨ m = a1 ∨ m = a2 ∨ m = a3 ∨ m = a4) → m ≤ a0 → m ≤ a1 → m ≤ a2 → m ≤ a3 → m ≤ a4 → Q (.int m) H) := by
  intro pins s σ H xs us Q I r h
  obtain ⟨a0, a1, a2, a3, a4, rfl, q⟩ := h
  cases r with | cons q0 r0 =>
  obtain ⟨t0, rfl⟩ := q0
  cases r0 with | cons q1 r1 =>
  obtain ⟨t1, rfl⟩ := q1
  cases r1 with | cons q2 r2 =>
  obtain ⟨t2, rfl⟩ := q2
  cases r2 with | cons q3 r3 =>
  obtain ⟨t3, rfl⟩ := q3
  cases r3 with | cons q4 r4 =>
  obtain ⟨t4, rfl⟩ := q4
  cases r4
  refine ask_min (xs := #[(a0, t0), (a1, t1), (a2, t2), (a3, t3), (a4, t4)]) (I.ok.hd hc) (by simp) (fun h => tree_min5 (by simpa [intItems] using h)) fun h' tk M t' hk hm hle => ⟨.int M, H, I.kept hk, ⟨_, rfl⟩, q M ?_ (hle _ (by simp)) (hle _ (by simp)) (hle _ (by simp)) (hle _ (by simp)) (hle _ (by simp))⟩
  · simpa using hm
end
end Ew

namespace Pu
open PySem PySem.Spec PyProof.Rows L2
variable [Tbs]
/-! ### calls of built-ins -/
def CallD (l : Bool) (mo : Mode) (r : List V → Hp → VK → Prop) (g : List D → (D → Prop) → Prop) : Prop := ∀ (z : Zn) (X : AP) (H0 H : Hp) (σ : Sl) (env : List SV) (vs : List V) (ds : List D) (Q : VK) (k : D → Prop), Ok z X H0 H σ env →
  IsA z (if l = true then Ms z X σ env else Zx z X) H vs ds → (∀ d w H', Evo z H H' → Rel mo z X H H' σ env w d → k d → Q w H') → g ds k → r vs H Q
def eCall (g : List D → (D → Prop) → Prop) (a : PAs) : PX := fun env k => a env fun ds => g ds k
section
variable {C : Cx} {e a b : Expr} {es : List Expr} {p q : PX} {ga : PAs} {m mo : Mode} {l : Bool} {pos pp : Pos} {x : Str} {id ty : String} {r : List V → Hp → VK → Prop} {g : List D → (D → Prop) → Prop}
theorem RE.cB {t : TA} (hd : CallD l mo r g) (h : RA l t ga) : RE mo (tCB r t) (eCall g ga) := fun z X H0 H σ env Q k o c hp =>
  h z X H0 H σ env _ _ o (fun ds vs H1 e1 r1 hx => hd z X H0 H1 σ env vs ds Q k (o.go e1) r1 (fun d w H2 e2 r2 kd => c d w H2 (e1.trans e2) (r2.early e1) kd) hx) hp
theorem e_callB (hc : CallR C (.builtin id) r) (hd : CallD l mo r g) (hg : Gl C x) (hm : C.mg x = none) (hv : bootBuiltins x = some (.builtin id)) (ha : A l C (e :: es) ga) (hn : x ≠ "__name__" := by decide) (hdb : (x == ("__debug__" : Str)) = false := by decide)
    (he : starEach (e :: es) C.env = (false, eval e C.env) :: starEach es C.env := by rfl) (hpl : (backTo pos (starEach es C.env)).any (·.1) = false := by rfl) : E mo C (.Call (.Name x pp) (e :: es) [] pos) (eCall g ga) := by
  obtain ⟨t, h1, h2⟩ := ha
  exact ⟨_, pe_callB hc hg hm hv h1 hn hdb he hpl, RE.cB hd h2⟩
theorem e_callTy (hc : CallR C (.type ty) r) (hd : CallD l mo r g) (hg : Gl C x) (hm : C.mg x = none) (hv : bootBuiltins x = some (.type ty)) (ha : A l C (e :: es) ga) (hn : x ≠ "__name__" := by decide) (hdb : (x == ("__debug__" : Str)) = false := by decide)
    (he : starEach (e :: es) C.env = (false, eval e C.env) :: starEach es C.env := by rfl) (hpl : (backTo pos (starEach es C.env)).any (·.1) = false := by rfl) : E mo C (.Call (.Name x pp) (e :: es) [] pos) (eCall g ga) := by
  obtain ⟨t, h1, h2⟩ := ha
  exact ⟨_, pe_callTy hc hg hm hv h1 hn hdb he hpl, RE.cB hd h2⟩
end
def gAbs : List D → (D → Prop) → Prop := fun ds k => match ds with
  | [.int i] => k (.int (if i < 0 then -i else i))
  | _ => False
theorem IsA.one {z : Zn} {M : AP} {H : Hp} {vs : List V} {d : D} (h : IsA z M H vs [d]) : ∃ v, vs = [v] ∧ Is z M H v d := by
  cases h with
  | cons q t => cases t; exact ⟨_, rfl, q⟩
theorem IsA.two {z : Zn} {M : AP} {H : Hp} {vs : List V} {d d' : D} (h : IsA z M H vs [d, d']) : ∃ v v', vs = [v, v'] ∧ Is z M H v d ∧ Is z M H v' d' := by
  cases h with
  | cons q t => obtain ⟨v', rfl, h⟩ := IsA.one t; exact ⟨_, _, rfl, q, h⟩
theorem cd_abs {l : Bool} : CallD l .e (fun xs H Q => ∃ i, xs = [.int i] ∧ Q (.int (if i < 0 then -i else i)) H) gAbs := fun z X H0 H σ env vs ds Q k o h c hp => by
  unfold gAbs at hp
  split at hp
  · rename_i i
    obtain ⟨v, rfl, hv⟩ := h.one
    cases hv
    exact ⟨i, rfl, c _ _ H (Evo.refl _ _) (Is.int _) hp⟩
  · exact hp.elim
/-- the greatest, the least of some numbers -/
def maxI : List Int → Int
  | [] => 0
  | [a] => a
  | a :: b :: r => max a (maxI (b :: r))
def minI : List Int → Int
  | [] => 0
  | [a] => a
  | a :: b :: r => min a (minI (b :: r))
theorem maxI_le : ∀ {ns : List Int} {n : Int}, n ∈ ns → n ≤ maxI ns
  | [a], n, h => by simp at h; subst h; exact Int.le_refl _
  | a :: b :: r, n, h => by
    show n ≤ max a (maxI (b :: r))
    rcases List.mem_cons.mp h with rfl | h
    · exact Int.le_max_left ..
    · exact Int.le_trans (maxI_le h) (Int.le_max_right ..)
theorem maxI_mem : ∀ {ns : List Int}, ns ≠ [] → maxI ns ∈ ns
  | [], h => absurd rfl h
  | [a], _ => List.mem_singleton.mpr rfl
  | a :: b :: r, _ => by
    show max a (maxI (b :: r)) ∈ _
    have q := maxI_mem (ns := b :: r) (by simp)
    rcases Int.le_total a (maxI (b :: r)) with h | h
    · rw [Int.max_eq_right h]; exact List.mem_cons_of_mem _ q
    · rw [Int.max_eq_left h]; exact List.mem_cons_self
theorem minI_le : ∀ {ns : List Int} {n : Int}, n ∈ ns → minI ns ≤ n
  | [a], n, h => by simp at h; subst h; exact Int.le_refl _
  | a :: b :: r, n, h => by
    show min a (minI (b :: r)) ≤ n
    rcases List.mem_cons.mp h with rfl | h
    · exact Int.min_le_left ..
    · exact Int.le_trans (Int.min_le_right ..) (minI_le h)
theorem minI_mem : ∀ {ns : List Int}, ns ≠ [] → minI ns ∈ ns
  | [], h => absurd rfl h
  | [a], _ => List.mem_singleton.mpr rfl
  | a :: b :: r, _ => by
    show min a (minI (b :: r)) ∈ _
    have q := minI_mem (ns := b :: r) (by simp)
    rcases Int.le_total a (minI (b :: r)) with h | h
    · rw [Int.min_eq_left h]; exact List.mem_cons_self
    · rw [Int.min_eq_right h]; exact List.mem_cons_of_mem _ q
theorem maxI_eq {ns : List Int} {m : Int} (h : m ∈ ns) (u : ∀ y ∈ ns, y ≤ m) : m = maxI ns := Int.le_antisymm (maxI_le h) (u _ (maxI_mem (List.ne_nil_of_mem h)))
theorem minI_eq {ns : List Int} {m : Int} (h : m ∈ ns) (u : ∀ y ∈ ns, m ≤ y) : m = minI ns := Int.le_antisymm (u _ (minI_mem (List.ne_nil_of_mem h))) (minI_le h)
def gMaxN : List D → (D → Prop) → Prop := fun ds k => match ds with
  | [.int a, .int b] => k (.int (max a b))
  | [.int a, .int b, .int c] => k (.int (max a (max b c)))
  | [.int a, .int b, .int c, .int d] => k (.int (max a (max b (max c d))))
  | [.int a, .int b, .int c, .int d, .int e] => k (.int (max a (max b (max c (max d e)))))
  | _ => False
def gMinN : List D → (D → Prop) → Prop := fun ds k => match ds with
  | [.int a, .int b] => k (.int (min a b))
  | [.int a, .int b, .int c] => k (.int (min a (min b c)))
  | [.int a, .int b, .int c, .int d] => k (.int (min a (min b (min c d))))
  | [.int a, .int b, .int c, .int d, .int e] => k (.int (min a (min b (min c (min d e)))))
  | _ => False
def rMaxN : List V → Hp → VK → Prop := fun xs H Q => (∃ i j, xs = [.int i, .int j] ∧ Q (.int (if j > i then j else i)) H) ∨
  (∃ a0 a1 a2 : Int, xs = [.int a0, .int a1, .int a2] ∧ ∀ m, (m = a0 ∨ m = a1 ∨ m = a2) → a0 ≤ m → a1 ≤ m → a2 ≤ m → Q (.int m) H) ∨
  (∃ a0 a1 a2 a3 : Int, xs = [.int a0, .int a1, .int a2, .int a3] ∧ ∀ m, (m = a0 ∨ m = a1 ∨ m = a2 ∨ m = a3) → a0 ≤ m → a1 ≤ m → a2 ≤ m → a3 ≤ m → Q (.int m) H) ∨
  (∃ a0 a1 a2 a3 a4 : Int, xs = [.int a0, .int a1, .int a2, .int a3, .int a4] ∧ ∀ m, (m = a0 ∨ m = a1 ∨ m = a2 ∨ m = a3 ∨ m = a4) → a0 ≤ m → a1 ≤ m → a2 ≤ m → a3 ≤ m → a4 ≤ m → Q (.int m) H)
def rMinN : List V → Hp → VK → Prop := fun xs H Q => (∃ i j, xs = [.int i, .int j] ∧ Q (.int (if j < i then j else i)) H) ∨
  (∃ a0 a1 a2 : Int, xs = [.int a0, .int a1, .int a2] ∧ ∀ m, (m = a0 ∨ m = a1 ∨ m = a2) → m ≤ a0 → m ≤ a1 → m ≤ a2 → Q (.int m) H) ∨
  (∃ a0 a1 a2 a3 : Int, xs = [.int a0, .int a1, .int a2, .int a3] ∧ ∀ m, (m = a0 ∨ m = a1 ∨ m = a2 ∨ m = a3) → m ≤ a0 → m ≤ a1 → m ≤ a2 → m ≤ a3 → Q (.int m) H) ∨
  (∃ a0 a1 a2 a3 a4 : Int, xs = [.int a0, .int a1, .int a2, .int a3, .int a4] ∧ ∀ m, (m = a0 ∨ m = a1 ∨ m = a2 ∨ m = a3 ∨ m = a4) → m ≤ a0 → m ≤ a1 → m ≤ a2 → m ≤ a3 → m ≤ a4 → Q (.int m) H)
theorem callr_or {C : Cx} {f : Value} {r r' : List V → Hp → VK → Prop} (h : CallR C f r) (h' : CallR C f r') : CallR C f (fun xs H Q => r xs H Q ∨ r' xs H Q) := fun pins s σ H xs us Q I rx q => q.elim (h pins s σ H xs us Q I rx) (h' pins s σ H xs us Q I rx)
theorem call_maxN {C : Cx} (hc : C.calm = true) : CallR C (.builtin "max") rMaxN := callr_or (call_max2 hc) (callr_or (Ew.call_max3 hc) (callr_or (Ew.call_max4 hc) (Ew.call_max5 hc)))
theorem call_minN {C : Cx} (hc : C.calm = true) : CallR C (.builtin "min") rMinN := callr_or (call_min2 hc) (callr_or (Ew.call_min3 hc) (callr_or (Ew.call_min4 hc) (Ew.call_min5 hc)))
theorem IsA.int1 {z : Zn} {M : AP} {H : Hp} {vs : List V} {i : Int} {ds : List D} (h : IsA z M H vs (.int i :: ds)) : ∃ us, vs = .int i :: us ∧ IsA z M H us ds := by
  cases h with
  | cons q t => cases q; exact ⟨_, rfl, t⟩
theorem IsA.nil' {z : Zn} {M : AP} {H : Hp} {vs : List V} (h : IsA z M H vs []) : vs = [] := by cases h; rfl
theorem cd_maxN {l : Bool} : CallD l .e rMaxN gMaxN := fun z X H0 H σ env vs ds Q k o h c hp => by
  unfold gMaxN at hp
  split at hp
  · cases IsA.ints (ns := [_, _]) h
    refine .inl ⟨_, _, rfl, c _ _ H (Evo.refl _ _) ?_ hp⟩
    have : ∀ a b : Int, (if b > a then b else a) = max a b := fun a b => by split <;> omega
    rw [this]
    exact Is.int _
  · cases IsA.ints (ns := [_, _, _]) h
    refine .inr (.inl ⟨_, _, _, rfl, fun m h1 h2 h3 h4 => c (.int m) _ H (Evo.refl _ _) (Is.int m) ?_⟩)
    rename_i a b d
    have : max a (max b d) = m := by omega
    rw [← this]; exact hp
  · cases IsA.ints (ns := [_, _, _, _]) h
    refine .inr (.inr (.inl ⟨_, _, _, _, rfl, fun m h1 h2 h3 h4 h5 => c (.int m) _ H (Evo.refl _ _) (Is.int m) ?_⟩))
    rename_i a b d e
    have : max a (max b (max d e)) = m := by omega
    rw [← this]; exact hp
  · cases IsA.ints (ns := [_, _, _, _, _]) h
    refine .inr (.inr (.inr ⟨_, _, _, _, _, rfl, fun m h1 h2 h3 h4 h5 h6 => c (.int m) _ H (Evo.refl _ _) (Is.int m) ?_⟩))
    rename_i a b d e f
    have : max a (max b (max d (max e f))) = m := by omega
    rw [← this]; exact hp
  · exact hp.elim
theorem cd_minN {l : Bool} : CallD l .e rMinN gMinN := fun z X H0 H σ env vs ds Q k o h c hp => by
  unfold gMinN at hp
  split at hp
  · cases IsA.ints (ns := [_, _]) h
    refine .inl ⟨_, _, rfl, c _ _ H (Evo.refl _ _) ?_ hp⟩
    have : ∀ a b : Int, (if b < a then b else a) = min a b := fun a b => by split <;> omega
    rw [this]
    exact Is.int _
  · cases IsA.ints (ns := [_, _, _]) h
    refine .inr (.inl ⟨_, _, _, rfl, fun m h1 h2 h3 h4 => c (.int m) _ H (Evo.refl _ _) (Is.int m) ?_⟩)
    rename_i a b d
    have : min a (min b d) = m := by omega
    rw [← this]; exact hp
  · cases IsA.ints (ns := [_, _, _, _]) h
    refine .inr (.inr (.inl ⟨_, _, _, _, rfl, fun m h1 h2 h3 h4 h5 => c (.int m) _ H (Evo.refl _ _) (Is.int m) ?_⟩))
    rename_i a b d e
    have : min a (min b (min d e)) = m := by omega
    rw [← this]; exact hp
  · cases IsA.ints (ns := [_, _, _, _, _]) h
    refine .inr (.inr (.inr ⟨_, _, _, _, _, rfl, fun m h1 h2 h3 h4 h5 h6 => c (.int m) _ H (Evo.refl _ _) (Is.int m) ?_⟩))
    rename_i a b d e f
    have : min a (min b (min d (min e f))) = m := by omega
    rw [← this]; exact hp
  · exact hp.elim
/-- of a list of numbers -/
def gMaxL : List D → (D → Prop) → Prop := fun ds k => ∃ xs ns, ds = [.lst xs] ∧ intsD xs = some ns ∧ ns ≠ [] ∧ k (.int (maxI ns))
def gMinL : List D → (D → Prop) → Prop := fun ds k => ∃ xs ns, ds = [.lst xs] ∧ intsD xs = some ns ∧ ns ≠ [] ∧ k (.int (minI ns))
def gSum : List D → (D → Prop) → Prop := fun ds k => ∃ xs ns, ds = [.lst xs] ∧ intsD xs = some ns ∧ k (.int ns.sum)
theorem one_ints {z : Zn} {M : AP} {H : Hp} {vs : List V} {xs : List D} {ns : List Int} (h : IsA z M H vs [.lst xs]) (hi : intsD xs = some ns) : ∃ a, vs = [.ref a] ∧ H a = some (.lst (ns.map V.int)) := by
  obtain ⟨v, rfl, hv⟩ := h.one
  cases intsD_eq hi
  cases hv with
  | lst e n r => exact ⟨_, rfl, by rw [← r.ints]; exact e⟩
theorem cd_maxL {l : Bool} {K : PySem.W.Frag} : CallD l .e (rMax K) gMaxL := fun z X H0 H σ env vs ds Q k o h c hp => by
  obtain ⟨xs, ns, rfl, hi, hne, hk⟩ := hp
  obtain ⟨a, rfl, ha⟩ := one_ints h hi
  refine ⟨a, ns, rfl, SqL.of ha, List.length_pos_iff.mpr hne, fun m h1 h2 => ?_⟩
  rw [maxI_eq h1 h2]
  exact c _ _ H (Evo.refl _ _) (Is.int _) hk
theorem cd_minL {l : Bool} {K : PySem.W.Frag} : CallD l .e (rMin K) gMinL := fun z X H0 H σ env vs ds Q k o h c hp => by
  obtain ⟨xs, ns, rfl, hi, hne, hk⟩ := hp
  obtain ⟨a, rfl, ha⟩ := one_ints h hi
  refine ⟨a, ns, rfl, SqL.of ha, List.length_pos_iff.mpr hne, fun m h1 h2 => ?_⟩
  rw [minI_eq h1 h2]
  exact c _ _ H (Evo.refl _ _) (Is.int _) hk
theorem cd_sum {l : Bool} {K : PySem.W.Frag} : CallD l .e (rSum K) gSum := fun z X H0 H σ env vs ds Q k o h c hp => by
  obtain ⟨xs, ns, rfl, hi, hk⟩ := hp
  obtain ⟨a, rfl, ha⟩ := one_ints h hi
  exact ⟨a, ns, rfl, SqL.of ha, c _ _ H (Evo.refl _ _) (Is.int _) hk⟩
/-- len -/
def gLen : List D → (D → Prop) → Prop := fun ds k => match ds with
  | [.tup xs] => k (.int xs.length)
  | [.lst xs] => k (.int xs.length)
  | [.str s] => s.length ≤ 100000 ∧ k (.int s.length)
  | _ => False
def rLenA (K : PySem.W.Frag) : List V → Hp → VK → Prop := fun xs H Q => (∃ p ys, xs = [.ref p] ∧ (SqL K H p ys ∨ SqT K H p ys) ∧ Q (.int ys.length) H) ∨ (∃ z, xs = [.str z] ∧ z.length ≤ sizeLine ∧ Q (.int z.length) H)
theorem call_lenA {C : Cx} : CallR C (.builtin "len") (rLenA C.K) := callr_or call_len_seq call_len_str
theorem cd_len {l : Bool} {K : PySem.W.Frag} : CallD l .e (rLenA K) gLen := fun z X H0 H σ env vs ds Q k o h c hp => by
  unfold gLen at hp
  split at hp
  · obtain ⟨v, rfl, hv⟩ := h.one
    cases hv with
    | tup e n r => exact .inl ⟨_, _, rfl, .inr (SqT.of e), by rw [r.length]; exact c _ _ H (Evo.refl _ _) (Is.int _) hp⟩
  · obtain ⟨v, rfl, hv⟩ := h.one
    cases hv with
    | lst e n r => exact .inl ⟨_, _, rfl, .inl (SqL.of e), by rw [r.length]; exact c _ _ H (Evo.refl _ _) (Is.int _) hp⟩
  · obtain ⟨v, rfl, hv⟩ := h.one
    cases hv
    exact .inr ⟨_, rfl, sz hp.1, c _ _ H (Evo.refl _ _) (Is.int _) hp.2⟩
  · exact hp.elim
/-- int of a truth or a number -/
def gInt : List D → (D → Prop) → Prop := fun ds k => match ds with
  | [.int i] => k (.int i)
  | [.bl b] => k (.int (if b then 1 else 0))
  | _ => False
theorem cd_int {l : Bool} : CallD l .e (fun xs H Q => (∃ i, xs = [.int i] ∧ Q (.int i) H) ∨ ∃ k, xs = [.bl k] ∧ Q (.int (if k then 1 else 0)) H) gInt := fun z X H0 H σ env vs ds Q k o h c hp => by
  unfold gInt at hp
  split at hp
  · obtain ⟨v, rfl, hv⟩ := h.one
    cases hv
    exact .inl ⟨_, rfl, c _ _ H (Evo.refl _ _) (Is.int _) hp⟩
  · obtain ⟨v, rfl, hv⟩ := h.one
    cases hv
    exact .inr ⟨_, rfl, c _ _ H (Evo.refl _ _) (Is.int _) hp⟩
  · exact hp.elim
/-- isinstance -/
def tyD : D → Option String
  | .non => some "NoneType"
  | .bl _ => some "bool"
  | .int _ => some "int"
  | .str _ => some "str"
  | .tup _ => some "tuple"
  | .lst _ => some "list"
  | .dic _ => some "dict"
  | _ => none
def isB : String → String → Option Bool
  | "int", "int" => some true
  | "bool", "int" => some true
  | "bool", "bool" => some true
  | "str", "str" => some true
  | "tuple", "tuple" => some true
  | "list", "list" => some true
  | "dict", "dict" => some true
  | "NoneType", "int" => some false
  | "NoneType", "bool" => some false
  | "NoneType", "str" => some false
  | "NoneType", "tuple" => some false
  | "NoneType", "list" => some false
  | "NoneType", "dict" => some false
  | "bool", "str" => some false
  | "bool", "tuple" => some false
  | "bool", "list" => some false
  | "bool", "dict" => some false
  | "int", "bool" => some false
  | "int", "str" => some false
  | "int", "tuple" => some false
  | "int", "list" => some false
  | "int", "dict" => some false
  | "str", "int" => some false
  | "str", "bool" => some false
  | "str", "tuple" => some false
  | "str", "list" => some false
  | "str", "dict" => some false
  | "tuple", "int" => some false
  | "tuple", "bool" => some false
  | "tuple", "str" => some false
  | "tuple", "list" => some false
  | "tuple", "dict" => some false
  | "list", "int" => some false
  | "list", "bool" => some false
  | "list", "str" => some false
  | "list", "tuple" => some false
  | "list", "dict" => some false
  | "dict", "int" => some false
  | "dict", "bool" => some false
  | "dict", "str" => some false
  | "dict", "tuple" => some false
  | "dict", "list" => some false
  | _, _ => none
theorem isB_kit {a b : String} {r : Bool} (h : isB a b = some r) : kitB a b = some r := by
  unfold isB at h
  split at h <;> first | (cases h; decide +kernel) | cases h
def gIsi : List D → (D → Prop) → Prop := fun ds k => match ds with
  | [x, .ty n] => ∃ t b, tyD x = some t ∧ isB t n = some b ∧ k (.bl b)
  | _ => False
theorem Is.ty' {z : Zn} {M : AP} {H : Hp} {v : V} {d : D} {K : PySem.W.Frag} {t : String} (h : Is z M H v d) (e : tyD d = some t) : TyOf K H v (.type t) := by
  cases h with
  | non => cases e; exact .non
  | bl b => cases e; exact .bl b
  | int b => cases e; exact .int b
  | str b => cases e; exact .str b
  | tup h _ _ => cases e; exact .tup h
  | lst h _ _ => cases e; exact .lst h
  | dic h _ _ => cases e; exact .dK h
  | _ => cases e
theorem cd_isi {l : Bool} {K : PySem.W.Frag} : CallD l .e (rIsi K) gIsi := fun z X H0 H σ env vs ds Q k o h c hp => by
  unfold gIsi at hp
  split at hp
  · obtain ⟨v, u, rfl, hv, hu⟩ := h.two
    cases hu
    obtain ⟨t, b, h1, h2, hk⟩ := hp
    exact ⟨v, .ty _, .type t, .type _, b, rfl, .ty _, .base (hv.ty' h1), kit_ty (isB_kit h2), c _ _ H (Evo.refl _ _) (Is.bl _) hk⟩
  · exact hp.elim
section
variable {C : Cx} {e : Expr} {p : PX} {m : Mode} {pos pp : Pos} {x : Str}
/-- tuple(x), list(x) -/
def dTuple : D → (D → Prop) → Prop := fun d k => match d with
  | .lst xs => k (.tup xs)
  | .tup xs => k (.tup xs)
  | _ => False
def dList : D → (D → Prop) → Prop := fun d k => match d with
  | .lst xs => k (.lst xs)
  | .tup xs => k (.lst xs)
  | _ => False
theorem e_tuple (h : E .c C e p) (hg : Gl C x) (hm : C.mg x = none) (hv : bootBuiltins x = some (.type "tuple")) (hn : x ≠ "__name__" := by decide) (hdb : (x == ("__debug__" : Str)) = false := by decide)
    (he : starEach [e] C.env = (false, eval e C.env) :: starEach [] C.env := by rfl) (hpl : (backTo pos (starEach [] C.env)).any (·.1) = false := by rfl) : E .e C (.Call (.Name x pp) [e] [] pos) (eUn dTuple p) := by
  obtain ⟨t, h1, h2⟩ := h
  refine ⟨_, pe_callTy call_tuple_of hg hm hv (pa_cons h1 pa_nil he) hn hdb he hpl, fun z X H0 H σ env Q k o c hp => h2 z X H0 H σ env _ _ o (fun d v H1 e1 r1 hx => ?_) hp⟩
  cases d with
  | tup xs =>
    obtain ⟨a, vs, rfl, q1, q2, n⟩ := r1.conT
    exact ⟨a, vs, rfl, .inr ⟨SqT.of q1, c _ _ H1 e1 (Is.tup q1 n q2) hx⟩⟩
  | lst xs =>
    obtain ⟨a, vs, rfl, q1, q2, n⟩ := r1.conL
    exact ⟨a, vs, rfl, .inl ⟨SqL.of q1, fun q hq => c _ _ _ (e1.new hq) ((Rel.newT (e1.fresh hq) hq q2).fe o) hx⟩⟩
  | _ => exact (show False from hx).elim
theorem e_list (h : E .c C e p) (hg : Gl C x) (hm : C.mg x = none) (hv : bootBuiltins x = some (.type "list")) (hn : x ≠ "__name__" := by decide) (hdb : (x == ("__debug__" : Str)) = false := by decide)
    (he : starEach [e] C.env = (false, eval e C.env) :: starEach [] C.env := by rfl) (hpl : (backTo pos (starEach [] C.env)).any (·.1) = false := by rfl) : E .f C (.Call (.Name x pp) [e] [] pos) (eUn dList p) := by
  obtain ⟨t, h1, h2⟩ := h
  refine ⟨_, pe_callTy call_list_of hg hm hv (pa_cons h1 pa_nil he) hn hdb he hpl, fun z X H0 H σ env Q k o c hp => h2 z X H0 H σ env _ _ o (fun d v H1 e1 r1 hx => ?_) hp⟩
  cases d with
  | tup xs =>
    obtain ⟨a, vs, rfl, q1, q2, n⟩ := r1.conT
    exact ⟨a, vs, rfl, .inr (SqT.of q1), fun q hq => c _ _ _ (e1.new hq) (Rel.newL (e1.fresh hq) hq q2) hx⟩
  | lst xs =>
    obtain ⟨a, vs, rfl, q1, q2, n⟩ := r1.conL
    exact ⟨a, vs, rfl, .inl (SqL.of q1), fun q hq => c _ _ _ (e1.new hq) (Rel.newL (e1.fresh hq) hq q2) hx⟩
  | _ => exact (show False from hx).elim
/-- [x] * n -/
def dRep : D → D → (D → Prop) → Prop := fun x y k => match x, y with
  | .lst xs, .int i => i < 100000 ∧ xs.length * i.toNat ≤ 100000 ∧ -100000 < i ∧ k (.lst (List.replicate i.toNat xs).flatten)
  | _, _ => False
theorem IsA.rep {z : Zn} {M : AP} {H : Hp} {vs : List V} {ds : List D} (h : IsA z M H vs ds) : ∀ n : Nat, IsA z M H (List.replicate n vs).flatten (List.replicate n ds).flatten
  | 0 => .nil
  | n + 1 => by
    rw [List.replicate_succ, List.replicate_succ, List.flatten_cons, List.flatten_cons]
    exact h.append (IsA.rep h n)
theorem opd_rep : OpD .c .f rRep dRep := fun z X H0 H σ env v u x y Q k o r1 r2 c hp => by
  cases x with
  | lst xs =>
    cases y with
    | int i =>
      obtain ⟨h1, h2, h3, hk⟩ := hp
      obtain ⟨a, vs, rfl, q1, q2, n⟩ := r1.conL
      exact ⟨a, i, vs, rfl, r2.intC, q1, by omega, by omega, sz (by rw [q2.length]; exact h2), fun q hq => c _ _ _ ((Evo.refl _ _).new hq) (Rel.newL hq hq (q2.rep _)) hk⟩
    | _ => exact (show False from hp).elim
  | _ => exact (show False from hp).elim
end

/-! ### calls of the program's own defs -/
/-- the promise of a def by its reading wp without places; fr: it gives a new list -/
def Sf (fr : Bool) (n : Nat) (wp : List D → (D → Prop) → Prop) : Sp := fun vs H Q _ => ∃ (z : Zn) (X : AP) (ds : List D) (k : D → Prop), vs.length = n ∧ ((∀ a, z.Z a → H a ≠ none) ∧ Tabs H) ∧ (∀ a, X a → H a ≠ none ∧ ¬ z.Z a) ∧ IsA z (Zx z X) H vs ds ∧ wp ds k ∧
  ∀ d v H', Evo z H H' → Is z (Zx z X) H' v d → (fr = true → ∃ a, v = .ref a ∧ H a = none ∧ Con z (Zx z (X.or a)) H' a d) → k d → Q v H'
section
variable {C : Cx} {e : Expr} {es : List Expr} {p : PX} {ga : PAs} {m mo : Mode} {fr : Bool} {k n : Nat} {pos pp : Pos} {x : Str} {f : Addr} {fd : FuncData} {ps : List Str} {wp : List D → (D → Prop) → Prop}
/-- what slots own, and X -/
def Ox (X : AP) (σ : Sl) (env : List SV) : AP := fun a => X a ∨ ∃ (i : Nat) (d : D), env[i]? = some (.own d) ∧ σ[i]? = some (some (V.ref a))
theorem Ok.ox {z : Zn} {X : AP} {H0 H : Hp} {σ : Sl} {env : List SV} (o : Ok z X H0 H σ env) {a : Addr} (h : Ox X σ env a) : H a ≠ none ∧ ¬ z.Z a := by
  rcases h with h | ⟨i, d, h1, h2⟩
  · exact o.xal a h
  · obtain ⟨b, q1, q2, q3, _⟩ := o.own i d h1
    rw [h2] at q1
    cases q1
    obtain ⟨u, hu⟩ := q2.some
    exact ⟨(by rw [hu]; intro w; cases w), q3⟩
theorem zx_ox {z : Zn} {X : AP} {σ : Sl} {env : List SV} {a : Addr} : Zx z (Ox X σ env) a ↔ Ms z X σ env a := by
  constructor
  · rintro (h | h | h)
    · exact .inl h
    · exact .inr (.inl h)
    · exact .inr (.inr h)
  · rintro (h | h | h)
    · exact .inl h
    · exact .inr (.inl h)
    · exact .inr (.inr h)
theorem re_call {t : TA} (h : RA true t ga) (E' : XK) (hm : mo = .e ∨ (mo = .f ∧ fr = true)) : RE mo (tCall (Sf fr n wp) [] E' t) (eCall (fun ds k => ds.length = n ∧ wp ds k) ga) := fun z X H0 H σ env Q k o c hp => by
  refine h z X H0 H σ env _ _ o (fun ds vs H1 e1 r1 hx => ?_) hp
  have o1 := o.go e1
  rw [if_pos rfl] at r1
  refine ⟨z, Ox X σ env, ds, k, by rw [List.append_nil, r1.length]; exact hx.1, ⟨o1.zal, o1.tab⟩, fun a => o1.ox, by rw [List.append_nil]; exact r1.weak fun a q => zx_ox.mp q, hx.2, fun d v H2 e2 r2 fq kd => ?_⟩
  refine c d v H2 (e1.trans e2) ?_ kd
  rcases hm with rfl | ⟨rfl, hf⟩
  · exact Is.weak (fun a q => zx_ox.mpr q) r2
  · obtain ⟨a, ev, ha, hc⟩ := fq hf
    refine ⟨a, ev, e1.fresh ha, hc.gen (fun _ q => q) (fun b u q n => ⟨q, fun y => n ?_⟩) fun _ h => h⟩
    rcases y with y | (y | y) | y
    · exact .inl y
    · exact .inr (.inl (.inl y))
    · exact .inr (.inr y)
    · exact .inr (.inl (.inr y))
/-- with arguments for a look only -/
theorem re_callB {t : TA} (h : RA false t ga) (E' : XK) : RE .b (tCall (Sf fr n wp) [] E' t) (eCall (fun ds k => ds.length = n ∧ wp ds k) ga) := fun z X H0 H σ env Q k o c hp => by
  refine h z X H0 H σ env _ _ o (fun ds vs H1 e1 r1 hx => ?_) hp
  have o1 := o.go e1
  rw [if_neg Bool.false_ne_true] at r1
  exact ⟨z, X, ds, k, by rw [List.append_nil, r1.length]; exact hx.1, ⟨o1.zal, o1.tab⟩, o1.xal, by rw [List.append_nil]; exact r1, hx.2, fun d v H2 e2 r2 fq kd => c d v H2 (e1.trans e2) r2 kd⟩
theorem e_call (F : FnOk C.prog C.w C.K C.mg C.base CX0 k f fd ps (Sf fr n wp)) (hr : Room k C.A) (hg : Gl C x) (hm : C.mg x = some (.ref f)) (hk : PySem.W.keepIn C.K (.ref f) = true) (hb : Binds C.K fd ps [])
    (ha : A true C (e :: es) ga) (hmo : mo = .e ∨ (mo = .f ∧ fr = true)) (hdb : (x == ("__debug__" : Str)) = false := by decide) (he : starEach (e :: es) C.env = (false, eval e C.env) :: starEach es C.env := by rfl) (hpl : (backTo pos (starEach es C.env)).any (·.1) = false := by rfl) :
    E mo C (.Call (.Name x pp) (e :: es) [] pos) (eCall (fun ds k => ds.length = n ∧ wp ds k) ga) := by
  obtain ⟨t, h1, h2⟩ := ha
  exact ⟨_, pe_call F hr hg hm hk hb .nil pass0 h1 hdb he hpl, re_call h2 E0 hmo⟩
theorem e_callL (F : FnOk C.prog C.w C.K C.mg C.base CX0 k f fd ps (Sf fr n wp)) (hr : Room k C.A) (hg : Gl C x) (hm : C.mg x = some (.ref f)) (hk : PySem.W.keepIn C.K (.ref f) = true) (hb : Binds C.K fd ps [])
    (ha : A false C (e :: es) ga) (hdb : (x == ("__debug__" : Str)) = false := by decide) (he : starEach (e :: es) C.env = (false, eval e C.env) :: starEach es C.env := by rfl) (hpl : (backTo pos (starEach es C.env)).any (·.1) = false := by rfl) :
    E .b C (.Call (.Name x pp) (e :: es) [] pos) (eCall (fun ds k => ds.length = n ∧ wp ds k) ga) := by
  obtain ⟨t, h1, h2⟩ := ha
  exact ⟨_, pe_call F hr hg hm hk hb .nil pass0 h1 hdb he hpl, re_callB h2 E0⟩
end
end Pu

namespace Pu
open PySem PySem.Spec PyProof.Rows L2
variable [Tbs]
/-! ### statements -/
structure PK' where
  nx : List SV → Prop
  rt : D → Prop
  bk : List SV → Prop := fun _ => False
  ct : List SV → Prop := fun _ => False
  /-- a return of a def that hands a borrowed thing back -/
  re : List SV → D → Prop := fun _ _ => False
abbrev PSt := List SV → PK' → Prop
structure Sim (fr : Bool) (z : Zn) (X : AP) (H0 : Hp) (M : AP) (H : Hp) (G : Ends) (k : PK') : Prop where
  nx : ∀ env' σ' H', Ok z X H0 H' σ' env' → Fr z X M H (Ms z X σ' env') H' → k.nx env' → G.nx σ' H'
  rt : ∀ d v H', Evo z H0 H' → Is z (Zx z X) H' v d → (fr = true → ∃ a, v = .ref a ∧ H0 a = none ∧ Con z (Zx z (X.or a)) H' a d) → k.rt d → G.rt v H'
  bk : ∀ env' σ' H', Ok z X H0 H' σ' env' → Fr z X M H (Ms z X σ' env') H' → k.bk env' → G.bk σ' H'
  ct : ∀ env' σ' H', Ok z X H0 H' σ' env' → Fr z X M H (Ms z X σ' env') H' → k.ct env' → G.ct σ' H'
  re : ∀ env' σ' H' d v, Ok z X H0 H' σ' env' → Is z (Ms z X σ' env') H' v d → k.re env' d → G.rt v H'
theorem Sim.go {fr : Bool} {z : Zn} {X : AP} {H0 : Hp} {M M1 : AP} {H H1 : Hp} {G : Ends} {k : PK'} (s : Sim fr z X H0 M H G k) (f : Fr z X M H M1 H1) : Sim fr z X H0 M1 H1 G k :=
  ⟨fun e σ H' o g h => s.nx e σ H' o (f.trans g) h, s.rt, fun e σ H' o g h => s.bk e σ H' o (f.trans g) h, fun e σ H' o g h => s.ct e σ H' o (f.trans g) h, s.re⟩
def RS (fr : Bool) (t : TS) (p : PSt) : Prop := ∀ (z : Zn) (X : AP) (H0 H : Hp) (σ : Sl) (env : List SV) (G : Ends) (k : PK'), Ok z X H0 H σ env → Sim fr z X H0 (Ms z X σ env) H G k → p env k → t G σ H
structure S (fr : Bool) (C : Cx) (st : Stmt) (p : PSt) : Prop where
  ex : ∃ t, PS C st t ∧ RS fr t p
structure B (fr : Bool) (C : Cx) (st : List Stmt) (p : PSt) : Prop where
  ex : ∃ t, PSs C st t ∧ RS fr t p
section
variable {C : Cx} {fr : Bool} {st : Stmt} {rest : List Stmt} {p q : PSt} {e : Expr} {pe : PX} {m : Mode} {pos : Pos}
def sNext : PSt := fun env k => k.nx env
def sSeq (p q : PSt) : PSt := fun env k => p env { k with nx := fun env' => q env' k }
theorem b_nil : B fr C [] sNext := ⟨_, pss_nil, fun z X H0 H σ env G k o s h => s.nx env σ H o Fr.refl h⟩
theorem b_cons (h : S fr C st p) (g : B fr C rest q) : B fr C (st :: rest) (sSeq p q) := by
  obtain ⟨t, h1, h2⟩ := h
  obtain ⟨u, g1, g2⟩ := g
  refine ⟨_, pss_cons h1 g1, fun z X H0 H σ env G k o s hp => h2 z X H0 H σ env _ { k with nx := fun env' => q env' k } o ⟨fun env' σ' H' o' f hx => ?_, s.rt, s.bk, s.ct, s.re⟩ hp⟩
  exact g2 z X H0 H' σ' env' G k o' (s.go f) hx
theorem b_one (h : S fr C st p) : B fr C [st] p := let ⟨t, h1, h2⟩ := h; ⟨t, pss_one h1, h2⟩
theorem s_pass : S fr C (.Pass pos) sNext := ⟨_, ps_pass, fun z X H0 H σ env G k o s h => s.nx env σ H o Fr.refl h⟩
def sBreak : PSt := fun env k => k.bk env
def sCont : PSt := fun env k => k.ct env
theorem s_break : S fr C (.Break pos) sBreak := ⟨_, ps_break, fun z X H0 H σ env G k o s h => s.bk env σ H o Fr.refl h⟩
theorem s_cont : S fr C (.Continue pos) sCont := ⟨_, ps_continue, fun z X H0 H σ env G k o s h => s.ct env σ H o Fr.refl h⟩
def sDrop (p : PX) : PSt := fun env k => p env fun _ => k.nx env
theorem s_expr (h : E m C e pe) (hs : swapsWith e none pos.line C.env = pure false := by rfl) : S fr C (.Expr e pos) (sDrop pe) := by
  obtain ⟨t, h1, h2⟩ := h
  exact ⟨_, ps_expr h1 hs, fun z X H0 H σ env G k o s hp => h2 z X H0 H σ env _ _ o (fun d v H1 e1 r1 hx => s.nx env σ H1 (o.go e1) (o.fr e1) hx) hp⟩
def sRet (p : PX) : PSt := fun env k => p env k.rt
theorem s_ret (h : E m C e pe) : S false C (.Return (some e) pos) (sRet pe) := by
  obtain ⟨t, h1, h2⟩ := h.toB
  exact ⟨_, ps_ret h1, fun z X H0 H σ env G k o s hp => h2 z X H0 H σ env _ _ o (fun d v H1 e1 r1 hx => s.rt d v H1 (o.evo.trans e1) r1 (fun q => Bool.noConfusion q) hx) hp⟩
theorem s_retF (h : E .f C e pe) : S true C (.Return (some e) pos) (sRet pe) := by
  obtain ⟨t, h1, h2⟩ := h
  refine ⟨_, ps_ret h1, fun z X H0 H σ env G k o s hp => h2 z X H0 H σ env _ _ o (fun d v H1 e1 r1 hx => s.rt d v H1 (o.evo.trans e1) (r1.fe o).eb (fun _ => ?_) hx) hp⟩
  obtain ⟨a, ev, ha, hc⟩ := r1
  refine ⟨a, ev, o.evo.fresh ha, hc.gen (fun _ q => q) (fun b u q n => ⟨q, fun y => n ?_⟩) fun _ h => h⟩
  rcases y with y | y
  · exact .inl y
  · exact .inr (.inl y)
/-- return of a list that a slot owns -/
def sRetO (i : Nat) : PSt := fun env k => match env[i]? with
  | some (.own d) => k.rt d
  | _ => False
theorem s_retO (i : Nat) {x : Str} {pp : Pos} (hN : C.N[i]? = some x := by rfl) (hv : Vis C.env.scope x := by first | exact Or.inl rfl | exact Or.inr (Or.inl rfl) | exact Or.inr (Or.inr rfl)) (hd : (x == ("__debug__" : Str)) = false := by decide)
    (hcd : (x == ("__classdict__" : Str)) = false := by decide) : S fr C (.Return (some (.Name x pp)) pos) (sRetO i) := by
  refine ⟨_, ps_ret (pe_var hN hv hd hcd), fun z X H0 H σ env G k o s hp => ?_⟩
  unfold sRetO at hp
  split at hp
  · rename_i d he
    obtain ⟨a, h1, h2, h3, h4, h5⟩ := o.own i d he
    refine ⟨_, h1, s.rt d _ H o.evo ((h2.gen (fun _ q => q) (fun b u q n => ⟨q, fun y => n y.ms⟩) fun _ h => h).is fun q => q.elim h3 h4) (fun _ => ⟨a, rfl, h5, h2.gen (fun _ q => q) (fun b u q n => ⟨q, fun y => n ?_⟩) fun _ h => h⟩) hp⟩
    rcases y with y | y | y
    · exact .inl y
    · exact .inr (.inl y)
    · exact .inr (.inr ⟨i, d, he, by rw [y]; exact h1⟩)
  · exact hp.elim
def sRetN : PSt := fun _ k => k.rt .non
theorem s_retN : S false C (.Return none pos) sRetN := ⟨_, ps_retN, fun z X H0 H σ env G k o s hp => s.rt .non .non H o.evo .non (fun q => Bool.noConfusion q) hp⟩
def sIf (c : PTs') (p q : PSt) : PSt := fun env k => c env fun b => if b = true then p env k else q env k
theorem s_if {c : Expr} {a b : List Stmt} {tc : PTs'} (h : T C c tc) (ha : B fr C a p) (hb : B fr C b q) : S fr C (.If c a b pos) (sIf tc p q) := by
  obtain ⟨t, h1, h2⟩ := h
  obtain ⟨ta, a1, a2⟩ := ha
  obtain ⟨tb, b1, b2⟩ := hb
  refine ⟨_, ps_if h1 a1 b1, fun z X H0 H σ env G k o s hp => h2 z X H0 H σ env _ _ o (fun x H1 e1 hx => ?_) hp⟩
  cases x with
  | true => exact a2 z X H0 H1 σ env G k (o.go e1) (s.go (o.fr e1)) hx
  | false => exact b2 z X H0 H1 σ env G k (o.go e1) (s.go (o.fr e1)) hx
/-! ### stores -/
def sSet (i : Nat) (p : PX) : PSt := fun env k => p env fun d => k.nx (env.set i (.val d))
theorem s_set {i : Nat} {x : Str} {pp : Pos} (h : E .e C e pe) (hN : C.N.Nodup) (hi : C.N[i]? = some x) (hx : Loc C.env.scope x) (hs : swapsWith e (some (.Name x pp)) pos.line C.env = pure false := by rfl) (hf : C.fn x = true ∨ C.env.scope.names.lookup x = some .local := by first | exact .inl rfl | exact .inr rfl | assumption) :
    S fr C (.Assign [.Name x pp] e pos) (sSet i pe) := by
  obtain ⟨t, h1, h2⟩ := h
  refine ⟨_, ps_set hN hi hx h1 hs hf, fun z X H0 H σ env G k o s hp => h2 z X H0 H σ env _ _ o (fun d v H1 e1 r1 hx => ?_) hp⟩
  obtain ⟨o2, f2⟩ := (o.go e1).set (i := i) (show Is z _ H1 v d from r1)
  exact s.nx _ _ H1 o2 ((o.fr e1).trans f2) hx
def sOwn (i : Nat) (p : PX) : PSt := fun env k => p env fun d => i < env.length ∧ k.nx (env.set i (.own d))
theorem rs_own {i : Nat} {t : TE} (h : RE .f t pe) : RS fr (tAsg t (gName i)) (sOwn i pe) := fun z X H0 H σ env G k o s hp => h z X H0 H σ env _ _ o (fun d v H1 e1 r1 hx => by
  obtain ⟨a, rfl, ha, hc⟩ := r1
  obtain ⟨o2, f2⟩ := o.take hx.1 e1 ha hc
  exact s.nx _ _ H1 o2 f2 hx.2) hp
theorem s_own {i : Nat} {x : Str} {pp : Pos} (h : E .f C e pe) (hN : C.N.Nodup) (hi : C.N[i]? = some x) (hx : Loc C.env.scope x) (hs : swapsWith e (some (.Name x pp)) pos.line C.env = pure false := by rfl) (hf : C.fn x = true ∨ C.env.scope.names.lookup x = some .local := by first | exact .inl rfl | exact .inr rfl | assumption) :
    S fr C (.Assign [.Name x pp] e pos) (sOwn i pe) := by
  obtain ⟨t, h1, h2⟩ := h
  exact ⟨_, ps_set hN hi hx h1 hs hf, rs_own h2⟩
/-- targets -/
abbrev PGt := D → List SV → (List SV → Prop) → Prop
abbrev PGs' := List D → List SV → (List SV → Prop) → Prop
/-- nothing but the slots js is stored to -/
def Keep (js : List Nat) (σ : Sl) (env : List SV) (σ' : Sl) (env' : List SV) : Prop := σ'.length = σ.length ∧ ∀ i, i ∉ js → env'[i]? = env[i]? ∧ σ'[i]? = σ[i]?
theorem Keep.refl {σ : Sl} {env : List SV} : Keep [] σ env σ env := ⟨rfl, fun _ _ => ⟨rfl, rfl⟩⟩
theorem Keep.trans {a b : List Nat} {σ σ1 σ2 : Sl} {env env1 env2 : List SV} (h : Keep a σ env σ1 env1) (g : Keep b σ1 env1 σ2 env2) : Keep (a ++ b) σ env σ2 env2 :=
  ⟨g.1.trans h.1, fun i hi => by
    rw [List.mem_append, not_or] at hi
    exact ⟨(g.2 i hi.2).1.trans (h.2 i hi.1).1, (g.2 i hi.2).2.trans (h.2 i hi.1).2⟩⟩
def RG (js : List Nat) (g : TG) (p : PGt) : Prop := ∀ (z : Zn) (X : AP) (H0 H : Hp) (σ : Sl) (env : List SV) (v : V) (d : D) (Q : Sl → Hp → Prop) (k : List SV → Prop), Ok z X H0 H σ env → Is z (Ms z X σ env) H v d →
  (∀ env' σ', Ok z X H0 H σ' env' → Fr z X (Ms z X σ env) H (Ms z X σ' env') H → Keep js σ env σ' env' → k env' → Q σ' H) → p d env k → g v σ H Q
def RGs (js : List Nat) (g : TGs) (p : PGs') : Prop := ∀ (z : Zn) (X : AP) (H0 H : Hp) (σ : Sl) (env : List SV) (v : List V) (d : List D) (Q : Sl → Hp → Prop) (k : List SV → Prop), Ok z X H0 H σ env → IsA z (Ms z X σ env) H v d →
  (∀ env' σ', Ok z X H0 H σ' env' → Fr z X (Ms z X σ env) H (Ms z X σ' env') H → Keep js σ env σ' env' → k env' → Q σ' H) → p d env k → g v σ H Q
structure G (C : Cx) (tg : Expr) (js : List Nat) (g : TG) (p : PGt) : Prop where
  pg : PG C tg g
  rg : RG js g p
structure Gs (C : Cx) (tg : List Expr) (js : List Nat) (g : TGs) (p : PGs') : Prop where
  pg : PGs C tg g
  rg : RGs js g p
def gtName (i : Nat) : PGt := fun d env k => k (env.set i (.val d))
theorem g_name {i : Nat} {x : Str} (hN : C.N.Nodup) (hi : C.N[i]? = some x) (hx : Loc C.env.scope x) (hf : C.fn x = true ∨ C.env.scope.names.lookup x = some .local := by first | exact .inl rfl | exact .inr rfl | assumption) : G C (.Name x pos) [i] (gName i) (gtName i) :=
  ⟨pg_name hN hi hx hf, fun z X H0 H σ env v d Q k o hv c hp => let ⟨o2, f2⟩ := o.set (i := i) hv; c _ _ o2 f2 ⟨by simp, fun j hj => by
    have hj' : i ≠ j := fun e => hj (by simp [e])
    exact ⟨List.getElem?_set_ne hj', List.getElem?_set_ne hj'⟩⟩ hp⟩
def gtNil : PGs' := fun ds env k => match ds with
  | [] => k env
  | _ => False
def gtCons (p : PGt) (q : PGs') : PGs' := fun ds env k => match ds with
  | d :: r => p d env fun env' => q r env' k
  | _ => False
theorem gs_nil : Gs C [] [] gNil gtNil := ⟨pgs_nil, fun z X H0 H σ env v d Q k o hv c hp => by
  cases hv with
  | nil => exact ⟨rfl, c env σ o Fr.refl Keep.refl hp⟩
  | cons _ _ => exact (show False from hp).elim⟩
theorem gs_cons {es : List Expr} {js ks : List Nat} {g : TG} {gs : TGs} {p : PGt} {q : PGs'} (h1 : G C e js g p) (h2 : Gs C es ks gs q) (hs : (assignEach (e :: es) C.env).map (·.2) = assign e C.env :: (assignEach es C.env).map (·.2) := by rfl) : Gs C (e :: es) (js ++ ks) (gCons g gs) (gtCons p q) :=
  ⟨pgs_cons h1.pg h2.pg hs, fun z X H0 H σ env v d Q k o hv c hp => by
    cases hv with
    | nil => exact (show False from hp).elim
    | cons q t =>
      refine ⟨_, _, rfl, h1.rg z X H0 H σ env _ _ _ _ o q (fun env' σ' o' f' kp hx => ?_) hp⟩
      exact h2.rg z X H0 H σ' env' _ _ _ _ o' (f'.isA t) (fun env2 σ2 o2 f2 kp2 hy => c env2 σ2 o2 (f'.trans f2) (kp.trans kp2) hy) hx⟩
def gtTup (n : Nat) (q : PGs') : PGt := fun d env k => match d with
  | .tup ds => ds.length = n ∧ q ds env k
  | _ => False
theorem g_tup {es : List Expr} {js : List Nat} {kk : Nat} {gs : TGs} {q : PGs'} {n : Nat} (hc : C.calm = true) (h : Gs C es js gs q)
    (hn : (assignEach es C.env).length = n := by rfl) (hst : (assignEach es C.env).findIdx? (·.1) = none := by rfl) : G C (.Tuple es kk pos) js (gTup C.K n gs) (gtTup n q) :=
  ⟨pg_tup hc h.pg hn hst, fun z X H0 H σ env v d Q k o hv c hp => by
    cases hv with
    | tup e nn r => exact ⟨_, _, rfl, SqT.of e, by rw [r.length]; exact hp.1, h.rg z X H0 H σ env _ _ _ _ o r c hp.2⟩
    | _ => exact (show False from hp).elim⟩
def sAsg (p : PX) (g : PGt) : PSt := fun env k => p env fun d => g d env k.nx
theorem s_asg {tg : Expr} {js : List Nat} {g : TG} {pg : PGt} (h : E .e C e pe) (hg : G C tg js g pg) (hs : swapsWithSole [tg] e pos.line C.env = pure false := by rfl) (hw : swappedStores [tg] e C.env = pure none := by rfl)
    (h1 : (assignEach [tg] C.env).map (·.2) = [assign tg C.env] := by rfl) : S fr C (.Assign [tg] e pos) (sAsg pe pg) := by
  obtain ⟨t, a1, a2⟩ := h
  refine ⟨_, ps_asg a1 hg.pg hs hw h1, fun z X H0 H σ env G k o s hp => a2 z X H0 H σ env _ _ o (fun d v H1 e1 r1 hx => ?_) hp⟩
  exact hg.rg z X H0 H1 σ env v d _ _ (o.go e1) r1 (fun env' σ' o' f' _ hy => s.nx env' σ' H1 o' ((o.fr e1).trans f') hy) hx
/-- a, b = x, y -/
def prK (ds : List D) (k : D → D → Prop) : Prop := match ds with
  | [c, d] => k c d
  | _ => False
def sPar (i j : Nat) (g : PAs) : PSt := fun env k => g env fun ds => prK ds fun c d => k.nx ((env.set i (.val c)).set j (.val d))
theorem s_par {i j : Nat} {x y : Str} {a b : Expr} {g : PAs} {px py pt : Pos} {kt k2 pt2} (ha : A true C [a, b] g) (hc : C.calm = true) (hN : C.N.Nodup) (hi : C.N[i]? = some x) (hj : C.N[j]? = some y) (hij : i ≠ j)
    (hx : C.env.scope.names.lookup x = some .local) (hy : C.env.scope.names.lookup y = some .local)
    (hw : swappedStores [.Tuple [.Name x px, .Name y py] kt pt] (.Tuple [a, b] k2 pt2) C.env = pure (some [x, y]))
    (hs : swapsWithSole [.Tuple [.Name x px, .Name y py] kt pt] (.Tuple [a, b] k2 pt2) pos.line C.env = pure false := by rfl) :
    S fr C (.Assign [.Tuple [.Name x px, .Name y py] kt pt] (.Tuple [a, b] k2 pt2) pos) (sPar i j g) := by
  obtain ⟨t, a1, a2⟩ := ha
  refine ⟨_, ps_par hc hN hi hj hij hx hy a1 hw hs, fun z X H0 H σ env G k o s hp => a2 z X H0 H σ env _ _ o (fun ds vs H1 e1 r1 hx => ?_) hp⟩
  rw [if_pos rfl] at r1
  unfold prK at hx
  split at hx
  · obtain ⟨v, u, rfl, hv, hu⟩ := r1.two
    obtain ⟨o2, f2⟩ := (o.go e1).set (i := i) hv
    obtain ⟨o3, f3⟩ := o2.set (i := j) (f2.is hu)
    exact ⟨v, u, rfl, s.nx _ _ H1 o3 ((o.fr e1).trans (f2.trans f3)) hx⟩
  · exact hx.elim
/-! ### what a slot owns is changed -/
/-- x.append(e) -/
def sAppend (i : Nat) (p : PX) : PSt := fun env k => match env[i]? with
  | some (.own (.lst xs)) => p env fun d => xs.length ≤ 100000 ∧ k.nx (env.set i (.own (.lst (xs ++ [d]))))
  | some (.own (.bor xs)) => p env fun d => xs.length ≤ 100000 ∧ k.nx (env.set i (.own (.bor (xs ++ [d]))))
  | _ => False
theorem szl {n : Nat} (h : n ≤ 100000) : n < sizeLine := Nat.lt_of_le_of_lt h (by decide)
theorem s_append (i : Nat) {x : Str} {pp apos cpos : Pos} (h : E .e C e pe) (hN : C.N[i]? = some x := by rfl) (hv : Vis C.env.scope x := by first | exact Or.inl rfl | exact Or.inr (Or.inl rfl) | exact Or.inr (Or.inr rfl)) (hd : (x == ("__debug__" : Str)) = false := by decide)
    (hcd : (x == ("__classdict__" : Str)) = false := by decide)
    (hb : ∀ to te, PE C (.Name x pp) to → PE C e te → PE C (.Call (.Attribute (.Name x pp) "append" apos) [e] [] cpos) (tBM C.K "list" rAppend to (tCons te tNil)))
    (hs : swapsWith (.Call (.Attribute (.Name x pp) "append" apos) [e] [] cpos) none pos.line C.env = pure false := by rfl) :
    S fr C (.Expr (.Call (.Attribute (.Name x pp) "append" apos) [e] [] cpos) pos) (sAppend i pe) := by
  obtain ⟨t, h1, h2⟩ := h
  refine ⟨_, ps_expr (hb _ _ (pe_var hN hv hd hcd) h1) hs, fun z X H0 H σ env G k o s hp => ?_⟩
  unfold sAppend at hp
  split at hp
  · rename_i xs he
    obtain ⟨a, q1, q2, q3, q4⟩ := o.own i _ he
    obtain ⟨vs, q5, q6⟩ := q2
    refine ⟨_, q1, .inl ⟨rfl, vs, SqL.of q5⟩, h2 z X H0 H σ env _ _ o (fun d v H1 e1 r1 hx => ?_) hp⟩
    have o1 := o.go e1
    have q5' := e1.old a _ q5 q3
    refine ⟨a, vs, v, rfl, rfl, q5', by rw [q6.length]; exact szl hx.1, ?_⟩
    have ia : Ms z X σ env a := .inr (.inr ⟨i, _, he, q1⟩)
    have old : ∀ b u, H1 b = some u → ¬ Ms z X σ env b → upd H1 a (.lst (vs ++ [v])) b = some u ∧ ¬ Ms z X σ env b := fun b u hb n => ⟨by rw [upd_ne (fun e => n (by rw [e]; exact ia))]; exact hb, n⟩
    obtain ⟨o2, f2⟩ := o1.mut (o := .lst (vs ++ [v])) he q1 (d' := .lst (xs ++ [d])) ⟨vs ++ [v], upd_same, ((IsA.evo (fun _ q => .inl q) e1 q6).append (.cons r1 .nil)).gen old fun b hb => ok_mut q3 hb⟩
    exact s.nx _ _ _ o2 ((o.fr e1).trans f2) hx.2
  · rename_i xs he
    obtain ⟨a, q1, q2, q3, q4⟩ := o.own i _ he
    obtain ⟨qb, vs, q5, q6⟩ := q2
    refine ⟨_, q1, .inl ⟨rfl, vs, SqL.of q5⟩, h2 z X H0 H σ env _ _ o (fun d v H1 e1 r1 hx => ?_) hp⟩
    have o1 := o.go e1
    have q5' := e1.old a _ q5 q3
    refine ⟨a, vs, v, rfl, rfl, q5', by rw [q6.length]; exact szl hx.1, ?_⟩
    have ia : Ms z X σ env a := .inr (.inr ⟨i, _, he, q1⟩)
    have old : ∀ b u, H1 b = some u → ¬ Ms z X σ env b → upd H1 a (.lst (vs ++ [v])) b = some u ∧ ¬ Ms z X σ env b := fun b u hb n => ⟨by rw [upd_ne (fun e => n (by rw [e]; exact ia))]; exact hb, n⟩
    obtain ⟨o2, f2⟩ := o1.mut (o := .lst (vs ++ [v])) he q1 (d' := .bor (xs ++ [d])) ⟨qb, vs ++ [v], upd_same, ((IsA.evo (fun _ q => .inl q) e1 q6).append (.cons r1 .nil)).gen old fun b hb => ok_mut q3 hb⟩
    exact s.nx _ _ _ o2 ((o.fr e1).trans f2) hx.2
  · exact hp.elim
end
/-! ### loops -/
def forP (g : PGt) (body : PSt) : List D → PSt
  | [], env, k => k.nx env
  | d :: ds, env, k => g d env fun env1 => body env1 { nx := fun env2 => forP g body ds env2 k, rt := k.rt, bk := k.nx, ct := fun env2 => forP g body ds env2 k }
/-- how J yields the items ds, wherever what stood outside M stands -/
def Yields (z : Zn) (X : AP) (M : AP) (H : Hp) (J : It) (ds : List D) : Prop := ∀ M' H', Fr z X M H M' H' → J.stop ds.length H' ∧
  ∀ i d, ds[i]? = some d → J.go i H' ∧ ∀ x H2, J.yld i H' x H2 → Evo z H' H2 ∧ ((∀ a, z.Z a → M' a) → (∀ b, H' b = none → ¬ M' b) → Is z M' H2 x d)
abbrev PIt := List SV → (List D → Prop) → Prop
def RI (wi : TI) (p : PIt) : Prop := ∀ (z : Zn) (X : AP) (H0 H : Hp) (σ : Sl) (env : List SV) (R : It → Hp → Prop) (k : List D → Prop), Ok z X H0 H σ env →
  (∀ ds J H', Evo z H H' → Yields z X (Ms z X σ env) H' J ds → k ds → R J H') → p env k → wi σ H R
structure I (C : Cx) (tg it : Expr) (p : PIt) : Prop where
  ex : ∃ wi, PI C tg it wi ∧ RI wi p
def sFor (it : PIt) (g : PGt) (body : PSt) : PSt := fun env k => it env fun ds => forP g body ds env k
theorem rs_for {fr : Bool} {wi : TI} {pi : PIt} {js : List Nat} {g : TG} {pg : PGt} {tb : TS} {pb : PSt} (hi : RI wi pi) (hg : RG js g pg) (hb : RS fr tb pb) : RS fr (tFor wi g tb) (sFor pi pg pb) := fun z X H0 H σ env G k o s hp => by
  refine hi z X H0 H σ env _ _ o (fun ds J H1 e1 yl hx => ?_) hp
  have f1 := o.fr e1
  have o1 := o.go e1
  refine ⟨fun i mm σ' H' => mm = ds.length - i ∧ i ≤ ds.length ∧ ∃ env', Ok z X H0 H' σ' env' ∧ Fr z X (Ms z X σ env) H1 (Ms z X σ' env') H' ∧ forP pg pb (ds.drop i) env' k, ⟨ds.length, by simp, Nat.zero_le _, env, o1, Fr.refl, by simpa using hx⟩, ?_⟩
  rintro i mm σ' H' ⟨rfl, hil, env', o', f', hf⟩
  obtain ⟨y1, y2⟩ := yl _ _ f'
  by_cases hlt : i < ds.length
  · obtain ⟨go, y3⟩ := y2 i ds[i] (List.getElem?_eq_getElem hlt)
    rw [List.drop_eq_getElem_cons hlt] at hf
    refine .inr ⟨go, fun σ2 H2 => ∃ env2, Ok z X H0 H2 σ2 env2 ∧ Fr z X (Ms z X σ env) H1 (Ms z X σ2 env2) H2 ∧ forP pg pb (ds.drop (i + 1)) env2 k, fun σ2 H2 h2 => ⟨ds.length - (i + 1), by omega, rfl, hlt, h2⟩, fun x H2 hy => ?_⟩
    obtain ⟨e2, is⟩ := y3 x H2 hy
    have o2 := o'.go e2
    have f2 := f'.trans (o'.fr e2)
    refine hg z X H0 H2 σ' env' x _ _ _ o2 (is (fun a q => .inl q) (fun b q => o'.notMs q)) (fun env3 σ3 o3 f3 _ hx3 => ?_) hf
    refine hb z X H0 H2 σ3 env3 _ { nx := fun env2 => forP pg pb (ds.drop (i + 1)) env2 k, rt := k.rt, bk := k.nx, ct := fun env2 => forP pg pb (ds.drop (i + 1)) env2 k } o3 ⟨fun env4 σ4 H4 o4 f4 hx4 => ⟨env4, o4, f2.trans (f3.trans f4), hx4⟩, s.rt, fun env4 σ4 H4 o4 f4 hx4 => ?_, fun env4 σ4 H4 o4 f4 hx4 => ⟨env4, o4, f2.trans (f3.trans f4), hx4⟩, fun _ _ _ _ _ _ _ h => h.elim⟩ hx3
    exact s.nx env4 σ4 H4 o4 (f1.trans (f2.trans (f3.trans f4))) hx4
  · have ei : i = ds.length := by omega
    subst ei
    rw [List.drop_length] at hf
    exact .inl ⟨y1, s.nx env' σ' H' o' (f1.trans f') hf⟩
section
variable {C : Cx} {fr : Bool} {tg e : Expr} {body : List Stmt} {pe : PX} {m : Mode} {pos pp : Pos}
theorem s_for {iter : Expr} {pi : PIt} {js : List Nat} {g : TG} {pg : PGt} {pb : PSt} (hi : I C tg iter pi) (hg : G C tg js g pg) (hb : B fr C body pb) (hp : PassesOwn (model C.prog C.w) C.A C.env C.xe) (hc : C.calm = true) (hs : ∀ x, foldedSetIterable iter C.env x = pure x := by intro _; rfl) :
    S fr C (.For tg iter body [] pos) (sFor pi pg pb) := by
  obtain ⟨wi, i1, i2⟩ := hi
  obtain ⟨tb, b1, b2⟩ := hb
  exact ⟨_, ps_for hp hc i1 hg.pg b1 hs, rs_for i2 hg.rg b2⟩
/-- over a tuple or a list -/
def sqK (d : D) (k : List D → Prop) : Prop := match d with
  | .tup xs => k xs
  | .lst xs => k xs
  | _ => False
def iSeq (p : PX) : PIt := fun env k => p env fun d => sqK d k
def iTupP (p : PX) : PIt := fun env k => p env fun d => match d with
  | .tup xs => k xs
  | _ => False
def iLstP (p : PX) : PIt := fun env k => p env fun d => match d with
  | .lst xs => k xs
  | _ => False
theorem yl_tup {z : Zn} {X : AP} {M : AP} {H : Hp} {K : PySem.W.Frag} {a : Addr} {vs : List V} {ds : List D} (h : H a = some (.tup vs)) (n : ¬ M a) (r : IsA z M H vs ds) : Yields z X M H (Itt K a) ds := fun M' H' f => by
  have h' := (f.old a _ h n).1
  have r' := f.isA r
  refine ⟨⟨vs, SqT.of h', by rw [r'.length]; exact Nat.le_refl _⟩, fun i d hd => ?_⟩
  obtain ⟨v, h1, h2⟩ := r'.get hd
  refine ⟨⟨vs, v, SqT.of h', h1⟩, fun x H2 y => ?_⟩
  obtain ⟨rfl, y⟩ := y
  refine ⟨Evo.refl _ _, fun _ _ => ?_⟩
  have e := y vs (SqT.of h')
  rw [h1] at e
  cases e
  exact h2
theorem yl_lst {z : Zn} {X : AP} {M : AP} {H : Hp} {K : PySem.W.Frag} {a : Addr} {vs : List V} {ds : List D} (h : H a = some (.lst vs)) (n : ¬ M a) (r : IsA z M H vs ds) : Yields z X M H (Itl K a) ds := fun M' H' f => by
  have h' := (f.old a _ h n).1
  have r' := f.isA r
  refine ⟨⟨vs, SqL.of h', by rw [r'.length]; exact Nat.le_refl _⟩, fun i d hd => ?_⟩
  obtain ⟨v, h1, h2⟩ := r'.get hd
  refine ⟨⟨vs, v, SqL.of h', h1⟩, fun x H2 y => ?_⟩
  obtain ⟨rfl, y⟩ := y
  refine ⟨Evo.refl _ _, fun _ _ => ?_⟩
  have e := y vs (SqL.of h')
  rw [h1] at e
  cases e
  exact h2
theorem i_tup (h : E .e C e pe) : I C tg e (iTupP pe) := by
  obtain ⟨t, h1, h2⟩ := h
  refine ⟨_, pi_tup h1, fun z X H0 H σ env R k o c hp => h2 z X H0 H σ env _ _ o (fun d v H1 e1 r1 hx => ?_) hp⟩
  cases (show Is z _ H1 v d from r1) with
  | tup e n r => exact ⟨_, rfl, ⟨_, SqT.of e⟩, c _ _ H1 e1 (yl_tup e n r) hx⟩
  | _ => exact (show False from hx).elim
theorem i_lst (h : E .e C e pe) : I C tg e (iLstP pe) := by
  obtain ⟨t, h1, h2⟩ := h
  refine ⟨_, pi_list h1, fun z X H0 H σ env R k o c hp => h2 z X H0 H σ env _ _ o (fun d v H1 e1 r1 hx => ?_) hp⟩
  cases (show Is z _ H1 v d from r1) with
  | lst e n r => exact ⟨_, rfl, ⟨_, SqL.of e⟩, c _ _ H1 e1 (yl_lst e n r) hx⟩
  | _ => exact (show False from hx).elim
/-- over a range -/
def rangeD (lo : Int) (n : Nat) : List D := (List.range n).map fun i => .int (lo + (i : Nat))
theorem yl_rng {z : Zn} {X : AP} {M : AP} {H : Hp} {lo : Int} {n : Nat} : Yields z X M H (Itr lo n) (rangeD lo n) := fun M' H' f => by
  refine ⟨(by show n ≤ (rangeD lo n).length; simp [rangeD]), fun i d hd => ?_⟩
  have hi : i < n := by
    have := (List.getElem?_eq_some_iff.mp hd).1
    simpa [rangeD] using this
  refine ⟨hi, fun x H2 y => ?_⟩
  obtain ⟨rfl, rfl⟩ := y
  refine ⟨Evo.refl _ _, fun _ _ => ?_⟩
  have e : d = .int (lo + (i : Nat)) := by simpa [rangeD, hi, List.getElem?_map, List.getElem?_range] using hd.symm
  rw [e]
  exact Is.int _
def rgK1 (ds : List D) (k : List D → Prop) : Prop := match ds with
  | [.int j] => -100000 < j ∧ j < 100000 ∧ k (rangeD 0 j.toNat)
  | _ => False
def rgK2 (ds : List D) (k : List D → Prop) : Prop := match ds with
  | [.int i, .int j] => (-100000 < i ∧ i < 100000 ∧ -100000 < j ∧ j < 100000) ∧ k (rangeD i (j - i).toNat)
  | _ => False
def iRange1 (p : PAs) : PIt := fun env k => p env fun ds => rgK1 ds k
def iRange2 (p : PAs) : PIt := fun env k => p env fun ds => rgK2 ds k
theorem i_range1 {a : Expr} {p : PAs} {l : Bool} (ha : A l C [a] p) (hg : Gl C "range") (hm : C.mg "range" = none) (hs : starEach [a] C.env = [(false, eval a C.env)] := by rfl) : I C tg (.Call (.Name "range" pp) [a] [] pos) (iRange1 p) := by
  obtain ⟨t, h1, h2⟩ := ha
  refine ⟨_, pi_range1 hg hm h1 hs, fun z X H0 H σ env R k o c hp => h2 z X H0 H σ env _ _ o (fun ds vs H1 e1 r1 hx => ?_) hp⟩
  unfold rgK1 at hx
  split at hx
  · rename_i j
    cases IsA.ints (ns := [_]) r1
    exact ⟨j, rfl, by omega, by omega, c _ _ H1 e1 yl_rng hx.2.2⟩
  · exact hx.elim
theorem i_range2 {a b : Expr} {p : PAs} {l : Bool} (ha : A l C [a, b] p) (hg : Gl C "range") (hm : C.mg "range" = none) (hs : starEach [a, b] C.env = [(false, eval a C.env), (false, eval b C.env)] := by rfl) (hs2 : starEach [b] C.env = [(false, eval b C.env)] := by rfl) : I C tg (.Call (.Name "range" pp) [a, b] [] pos) (iRange2 p) := by
  obtain ⟨t, h1, h2⟩ := ha
  refine ⟨_, pi_range2 hg hm h1 hs hs2, fun z X H0 H σ env R k o c hp => h2 z X H0 H σ env _ _ o (fun ds vs H1 e1 r1 hx => ?_) hp⟩
  unfold rgK2 at hx
  split at hx
  · rename_i i j
    cases IsA.ints (ns := [_, _]) r1
    exact ⟨i, j, rfl, by omega, c _ _ H1 e1 yl_rng hx.2⟩
  · exact hx.elim
end
end Pu

namespace Pu
open PySem PySem.Spec PyProof.Rows L2
variable [Tbs]
/-! ### one reading for all places -/
def tP (m : Mode) (p : PX) : TE := fun σ H Q => ∃ z X H0 env k, Ok z X H0 H σ env ∧ (∀ d v H', Evo z H H' → Rel m z X H H' σ env v d → k d → Q v H') ∧ p env k
def tPT (p : PTs') : TT := fun σ H Q => ∃ z X H0 env k, Ok z X H0 H σ env ∧ (∀ b H', Evo z H H' → k b → Q b H') ∧ p env k
def tPI (p : PIt) : TI := fun σ H R => ∃ z X H0 env k, Ok z X H0 H σ env ∧ (∀ ds J H', Evo z H H' → Yields z X (Ms z X σ env) H' J ds → k ds → R J H') ∧ p env k
section
variable {C : Cx} {m : Mode} {e tg : Expr} {p : PX} {q : PTs'} {r : PIt}
theorem E.pe (h : E m C e p) : PE C e (tP m p) := by
  obtain ⟨t, h1, h2⟩ := h
  exact ⟨fun pins s σ H Q I ⟨z, X, H0, env, k, o, c, hp⟩ => h1.run pins s σ H Q I (h2 z X H0 H σ env Q k o c hp)⟩
theorem T.pt (h : T C e q) : PT C e (tPT q) := by
  obtain ⟨t, h1, h2⟩ := h
  exact ⟨fun pins s σ H Q I ⟨z, X, H0, env, k, o, c, hp⟩ => h1.run pins s σ H Q I (h2 z X H0 H σ env Q k o c hp)⟩
theorem I.pi (h : I C tg e r) : PI C tg e (tPI r) := by
  obtain ⟨t, h1, h2⟩ := h
  exact ⟨fun pins s σ H Q I ⟨z, X, H0, env, k, o, c, hp⟩ => h1.run pins s σ H Q I (h2 z X H0 H σ env Q k o c hp)⟩
theorem re_tP : RE m (tP m p) p := fun z X H0 H σ env Q k o c hp => ⟨z, X, H0, env, k, o, c, hp⟩
theorem rt_tP : RT (tPT q) q := fun z X H0 H σ env Q k o c hp => ⟨z, X, H0, env, k, o, c, hp⟩
theorem ri_tP : RI (tPI r) r := fun z X H0 H σ env Q k o c hp => ⟨z, X, H0, env, k, o, c, hp⟩
end
/-- the tests of a clause -/
structure Ts (C : Cx) (es : List Expr) (p : PTs') : Prop where
  ex : PTs C es (tPT p)
theorem ts_nil {C : Cx} : Ts C [] (fun _ k => k true) := by
  refine ⟨⟨fun pins s σ H Q I ⟨z, X, H0, env, k, o, c, hp⟩ => ?_⟩⟩
  exact pts_nil.run pins s σ H Q I (c true H (Evo.refl _ _) hp)
theorem ts_one {C : Cx} {e : Expr} {p : PTs'} (h : T C e p) : Ts C [e] p := ⟨pts_one h.pt⟩

/-! ### comprehensions -/
def wipeE (env : List SV) : List Nat → List SV
  | [] => env
  | v :: vs => (wipeE env vs).set v .no
def noOwn (env : List SV) : List Nat → Prop
  | [] => True
  | v :: vs => (match env[v]? with | some (.own _) => False | _ => True) ∧ noOwn env vs
theorem noOwn_ne {env : List SV} : ∀ {vs : List Nat}, noOwn env vs → ∀ {i : Nat} {d : D}, env[i]? = some (.own d) → i ∉ vs
  | [], _, _, _, _ => by simp
  | v :: vs, h, i, d, e => by
    intro hi
    rcases List.mem_cons.mp hi with q | q
    · subst q
      have h1 := h.1
      rw [e] at h1
      exact h1
    · exact noOwn_ne h.2 e q
section
variable {z : Zn} {X : AP} {H0 H H1 H' : Hp} {σ σ' : Sl} {env env' : List SV}
theorem wipeE_len : ∀ vs : List Nat, (wipeE env vs).length = env.length
  | [] => rfl
  | v :: vs => by unfold wipeE; rw [List.length_set, wipeE_len vs]
theorem wipeE_out : ∀ {vs : List Nat} {i : Nat}, i ∉ vs → (wipeE env vs)[i]? = env[i]?
  | [], _, _ => rfl
  | v :: vs, i, h => by
    rw [List.mem_cons, not_or] at h
    unfold wipeE
    rw [List.getElem?_set_ne (Ne.symm h.1), wipeE_out h.2]
theorem wipeE_in : ∀ {vs : List Nat} {i : Nat}, i ∈ vs → (wipeE env vs)[i]? = none ∨ (wipeE env vs)[i]? = some .no
  | v :: vs, i, h => by
    unfold wipeE
    by_cases hv : v = i
    · subst hv
      rw [List.getElem?_set]
      simp only [if_true]
      split
      · exact .inr rfl
      · exact .inl rfl
    · rw [List.getElem?_set_ne hv]
      exact wipeE_in ((List.mem_cons.mp h).resolve_left (fun e => hv e.symm))
theorem wipe_out' : ∀ {vs : List Nat} {i : Nat}, i ∉ vs → (wipe σ vs)[i]? = σ[i]?
  | [], _, _ => rfl
  | v :: vs, i, h => by
    rw [List.mem_cons, not_or] at h
    unfold wipe
    rw [List.getElem?_set_ne (Ne.symm h.1), wipe_out' h.2]
theorem wipe_in' : ∀ {vs : List Nat} {i : Nat}, i ∈ vs → (wipe σ vs)[i]? = if i < σ.length then some none else none
  | v :: vs, i, h => by
    unfold wipe
    by_cases hv : v = i
    · subst hv
      rw [List.getElem?_set]
      simp only [if_true, wipe_length]
    · rw [List.getElem?_set_ne hv]
      exact wipe_in' ((List.mem_cons.mp h).resolve_left (fun e => hv e.symm))
theorem wipe_eq {vs js : List Nat} (h : Keep js (wipe σ vs) env σ' env') (hj : ∀ i ∈ js, i ∈ vs) : wipe σ' vs = wipe σ vs := by
  apply List.ext_getElem?
  intro i
  have hl : σ'.length = σ.length := by rw [h.1, wipe_length]
  by_cases hi : i ∈ vs
  · rw [wipe_in' hi, wipe_in' hi, hl]
  · rw [wipe_out' hi, (h.2 i (fun q => hi (hj i q))).2]
/-- one more place that is locked -/
theorem Ok.lock (o : Ok z X H0 H σ env) {a : Addr} (ha : H a = none) (e : Evo z H H') (h' : H' a ≠ none) : Ok z (X.or a) H0 H' σ env := by
  have na : ∀ {b u}, H b = some u → b ≠ a := fun {b u} q => ne_of_none q ha
  have ms : ∀ b, Ms z (X.or a) σ env b → Ms z X σ env b ∨ b = a := by
    rintro b (h | (h | h) | h)
    · exact .inl (.inl h)
    · exact .inl (.inr (.inl h))
    · exact .inr h
    · exact .inl (.inr (.inr h))
  have old : ∀ b u, H b = some u → ¬ Ms z X σ env b → H' b = some u ∧ ¬ Ms z (X.or a) σ env b := fun b u q n => ⟨e.old b u q fun y => n (.inl y), fun y => (ms b y).elim n (na q)⟩
  refine ⟨o.len, o.evo.trans e, fun b h => e.al b (o.zal b h), fun b h => ?_, fun i d h => ?_, fun i d h => ?_, o.inj, e.tab o.tab⟩
  · rcases h with h | h
    · exact ⟨e.al b (o.xal b h).1, (o.xal b h).2⟩
    · rw [h]; exact ⟨h', fun q => o.zal a q ha⟩
  · obtain ⟨v, h1, h2⟩ := o.val i d h
    exact ⟨v, h1, h2.gen old e.dk⟩
  · obtain ⟨b, h1, h2, h3, h4, h5⟩ := o.own i d h
    obtain ⟨u, hu⟩ := h2.some
    exact ⟨b, h1, h2.gen (fun u q => e.old b u q h3) old e.dk, h3, fun q => q.elim h4 (na hu), h5⟩
theorem Ok.wipe (o : Ok z X H0 H σ env) {vs : List Nat} : Ok z X H0 H (L2.wipe σ vs) (wipeE env vs) ∧ ∀ a, Ms z X (L2.wipe σ vs) (wipeE env vs) a → Ms z X σ env a := by
  have ow : ∀ {i : Nat} {d : SV}, (wipeE env vs)[i]? = some d → d ≠ .no → i ∉ vs ∧ env[i]? = some d := fun {i d} h n => by
    by_cases hi : i ∈ vs
    · rcases wipeE_in (env := env) hi with q | q
      · rw [q] at h; cases h
      · rw [q] at h; cases h; exact absurd rfl n
    · rw [wipeE_out hi] at h; exact ⟨hi, h⟩
  have sub : ∀ a, Ms z X (L2.wipe σ vs) (wipeE env vs) a → Ms z X σ env a := by
    rintro a (h | h | ⟨i, d, h1, h2⟩)
    · exact .inl h
    · exact .inr (.inl h)
    · obtain ⟨hi, h1⟩ := ow h1 (by intro q; cases q)
      rw [wipe_out' hi] at h2
      exact .inr (.inr ⟨i, d, h1, h2⟩)
  refine ⟨⟨by rw [wipe_length, wipeE_len]; exact o.len, o.evo, o.zal, o.xal, fun i d h => ?_, fun i d h => ?_, fun i j a d f h1 h2 h3 h4 => ?_, o.tab⟩, sub⟩
  · obtain ⟨hi, h⟩ := ow h (by intro q; cases q)
    obtain ⟨v, h1, h2⟩ := o.val i d h
    exact ⟨v, by rw [wipe_out' hi]; exact h1, h2.weak sub⟩
  · obtain ⟨hi, h⟩ := ow h (by intro q; cases q)
    obtain ⟨a, h1, h2, h3⟩ := o.own i d h
    exact ⟨a, by rw [wipe_out' hi]; exact h1, h2.gen (fun _ q => q) (fun b u q n => ⟨q, fun y => n (sub b y)⟩) fun _ h => h, h3⟩
  · obtain ⟨hi, h1⟩ := ow h1 (by intro q; cases q)
    obtain ⟨hj, h2⟩ := ow h2 (by intro q; cases q)
    rw [wipe_out' hi] at h3
    rw [wipe_out' hj] at h4
    exact o.inj i j a d f h1 h2 h3 h4
/-- what slots own is owned in the comprehension too -/
theorem ms_in {vs js : List Nat} {σ2 : Sl} {env2 : List SV} (hn : noOwn env vs) (hj : ∀ i ∈ js, i ∈ vs) (h : Keep js (L2.wipe σ vs) (wipeE env vs) σ2 env2) : ∀ a, Ms z X σ env a → Ms z X σ2 env2 a := by
  rintro a (q | q | ⟨i, d, h1, h2⟩)
  · exact .inl q
  · exact .inr (.inl q)
  · have hi := noOwn_ne hn h1
    obtain ⟨g1, g2⟩ := h.2 i fun q => hi (hj i q)
    refine .inr (.inr ⟨i, d, ?_, ?_⟩)
    · rw [g1, wipeE_out hi]; exact h1
    · rw [g2, wipe_out' hi]; exact h2
end
def lcP (pg : PGt) (pt : PTs') (pe : PX) (env : List SV) : List D → List D → (List D → Prop) → Prop
  | [], acc, k => k acc
  | d :: ds, acc, k => pg d env fun env1 => pt env1 fun b => if b = true then pe env1 fun r => acc.length ≤ 100000 ∧ lcP pg pt pe env ds (acc ++ [r]) k else lcP pg pt pe env ds acc k
def eLc (vs : List Nat) (pi : PIt) (pg : PGt) (pt : PTs') (pe : PX) : PX := fun env k => pi env fun ds => noOwn env vs ∧ lcP pg pt pe (wipeE env vs) ds [] fun r => k (.lst r)
theorem re_lc {wi : TI} {pi : PIt} {js vs : List Nat} {g : TG} {pg : PGt} {tt : TT} {pt : PTs'} {te : TE} {pe : PX} (hi : RI wi pi) (hg : RG js g pg) (hj : ∀ i ∈ js, i ∈ vs) (ht : RT tt pt) (he : RE .e te pe) : RE .f (tLc wi g tt te vs) (eLc vs pi pg pt pe) := fun z X H0 H σ env Q k o c hp => by
  refine hi z X H0 H σ env _ _ o (fun ds J H1 e1 yl hx => ?_) hp
  obtain ⟨hn, hx⟩ := hx
  have o1 := o.go e1
  intro Da hD
  have hzD : ¬ z.Z Da := fun q => o1.zal Da q hD
  refine ⟨fun i mm H' => mm = ds.length - i ∧ i ≤ ds.length ∧ ∃ accV accD, Evo z H1 H' ∧ H' Da = some (.lst accV) ∧ IsA z (Ms z (X.or Da) σ env) H' accV accD ∧ lcP pg pt pe (wipeE env vs) (ds.drop i) accD fun r => k (.lst r),
    ⟨ds.length, by simp, Nat.zero_le _, [], [], (Evo.refl _ _).new hD, upd_same, .nil, by simpa using hx⟩, ?_⟩
  rintro i mm H' ⟨rfl, hil, accV, accD, e', hacc, hA, hk⟩
  have oL : Ok z (X.or Da) H0 H' σ env := o1.lock hD e' (by rw [hacc]; intro q; cases q)
  have ms2 : ∀ b, Ms z (X.or Da) σ env b → Ms z X σ env b ∨ b = Da := by
    rintro b (h | (h | h) | h)
    · exact .inl (.inl h)
    · exact .inl (.inr (.inl h))
    · exact .inr h
    · exact .inl (.inr (.inr h))
  have fr : Fr z X (Ms z X σ env) H1 (Ms z (X.or Da) σ env) H' := ⟨fun b u q n => ⟨e'.old b u q fun y => n (.inl y), fun y => (ms2 b y).elim n (ne_of_none q hD)⟩, e'.dk, e'.al⟩
  obtain ⟨y1, y2⟩ := yl _ _ fr
  by_cases hlt : i < ds.length
  · obtain ⟨go, y3⟩ := y2 i ds[i] (List.getElem?_eq_getElem hlt)
    rw [List.drop_eq_getElem_cons hlt] at hk
    refine .inr ⟨go, fun H2 => ∃ accV accD, Evo z H1 H2 ∧ H2 Da = some (.lst accV) ∧ IsA z (Ms z (X.or Da) σ env) H2 accV accD ∧ lcP pg pt pe (wipeE env vs) (ds.drop (i + 1)) accD fun r => k (.lst r), fun H2 h2 => ⟨ds.length - (i + 1), by omega, rfl, hlt, h2⟩, fun x H2 hy => ?_⟩
    obtain ⟨e2, is⟩ := y3 x H2 hy
    have oL2 := oL.go e2
    obtain ⟨oW, sub⟩ := oL2.wipe (vs := vs)
    refine hg z (X.or Da) H0 H2 _ _ x _ _ _ oW ((is (fun a q => .inl q) (fun b q => oL.notMs q)).weak sub) (fun env3 σ3 o3 f3 kp hx3 => ⟨wipe_eq kp hj, ?_⟩) hk
    refine ht z (X.or Da) H0 H2 σ3 env3 _ _ o3 (fun b H3 e3 hx4 => ?_) hx3
    have e13 := e'.trans (e2.trans e3)
    have acc3 : H3 Da = some (.lst accV) := e3.old _ _ (e2.old _ _ hacc hzD) hzD
    have A3 : IsA z (Ms z (X.or Da) σ env) H3 accV accD := hA.evo (fun _ q => .inl q) (e2.trans e3)
    cases b with
    | false =>
      rw [if_neg Bool.false_ne_true]
      exact ⟨accV, accD, e13, acc3, A3, hx4⟩
    | true =>
      rw [if_pos rfl]
      refine he z (X.or Da) H0 H3 σ3 env3 _ _ (o3.go e3) (fun r y H4 e4 r4 hx5 => ?_) hx4
      refine ⟨accV, e4.old _ _ acc3 hzD, by rw [hA.length]; exact szl hx5.1, accV ++ [y], accD ++ [r], (e13.trans e4).mut hD hzD, upd_same, ?_, hx5.2⟩
      have ir : Is z (Ms z (X.or Da) σ env) H4 y r := Is.weak (ms_in hn hj kp) r4
      refine ((A3.evo (fun _ q => .inl q) e4).append (.cons ir .nil)).gen (fun b u q n => ⟨?_, n⟩) fun b hb => ok_mut hzD hb
      rw [upd_ne (fun w => n (by rw [w]; exact .inr (.inl (.inr rfl))))]
      exact q
  · have ei : i = ds.length := by omega
    subst ei
    rw [List.drop_length] at hk
    exact .inl ⟨y1, c (.lst accD) (.ref Da) H' (e1.trans e') ⟨Da, rfl, e1.fresh hD, accV, hacc, hA⟩ hk⟩
/-- two clauses -/
def lcP2 (vs1 : List Nat) (pg : PGt) (pt : PTs') (pi1 : PIt) (pg1 : PGt) (pt1 : PTs') (pe : PX) (env : List SV) : List D → List D → (List D → Prop) → Prop
  | [], acc, k => k acc
  | d :: ds, acc, k => pg d env fun env1 => pt env1 fun b => if b = true then pi1 env1 fun ds1 => noOwn env1 vs1 ∧ lcP pg1 pt1 pe (wipeE env1 vs1) ds1 acc fun acc1 => lcP2 vs1 pg pt pi1 pg1 pt1 pe env ds acc1 k else lcP2 vs1 pg pt pi1 pg1 pt1 pe env ds acc k
def eLc2 (vs vs1 : List Nat) (pi : PIt) (pg : PGt) (pt : PTs') (pi1 : PIt) (pg1 : PGt) (pt1 : PTs') (pe : PX) : PX := fun env k => pi env fun ds => noOwn env vs ∧ lcP2 vs1 pg pt pi1 pg1 pt1 pe (wipeE env vs) ds [] fun r => k (.lst r)
theorem ms_or {z : Zn} {X : AP} {σ : Sl} {env : List SV} {a b : Addr} (h : Ms z (X.or a) σ env b) : Ms z X σ env b ∨ b = a := by
  rcases h with h | (h | h) | h
  · exact .inl (.inl h)
  · exact .inl (.inr (.inl h))
  · exact .inr h
  · exact .inl (.inr (.inr h))
theorem re_lc2 {wi wi1 : TI} {pi pi1 : PIt} {js js1 vs vs1 : List Nat} {g g1 : TG} {pg pg1 : PGt} {tt tt1 : TT} {pt pt1 : PTs'} {te : TE} {pe : PX} (hi : RI wi pi) (hg : RG js g pg) (hj : ∀ i ∈ js, i ∈ vs) (ht : RT tt pt) (hi1 : RI wi1 pi1) (hg1 : RG js1 g1 pg1) (hj1 : ∀ i ∈ js1, i ∈ vs1) (ht1 : RT tt1 pt1) (he : RE .e te pe) :
    RE .f (tLc2 wi g tt wi1 g1 tt1 te vs vs1) (eLc2 vs vs1 pi pg pt pi1 pg1 pt1 pe) := fun z X H0 H σ env Q k o c hp => by
  refine hi z X H0 H σ env _ _ o (fun ds J H1 e1 yl hx => ?_) hp
  obtain ⟨hn, hx⟩ := hx
  have o1 := o.go e1
  intro Da hD
  have hzD : ¬ z.Z Da := fun q => o1.zal Da q hD
  have nt : ∀ {u : HO}, some u ≠ none := fun q => by cases q
  refine ⟨fun i mm H' => mm = ds.length - i ∧ i ≤ ds.length ∧ ∃ accV accD, Evo z H1 H' ∧ H' Da = some (.lst accV) ∧ IsA z (Ms z (X.or Da) σ env) H' accV accD ∧ lcP2 vs1 pg pt pi1 pg1 pt1 pe (wipeE env vs) (ds.drop i) accD fun r => k (.lst r),
    ⟨ds.length, by simp, Nat.zero_le _, [], [], (Evo.refl _ _).new hD, upd_same, .nil, by simpa using hx⟩, ?_⟩
  rintro i mm H' ⟨rfl, hil, accV, accD, e', hacc, hA, hk⟩
  have oL : Ok z (X.or Da) H0 H' σ env := o1.lock hD e' (by rw [hacc]; exact nt)
  have fr : Fr z X (Ms z X σ env) H1 (Ms z (X.or Da) σ env) H' := ⟨fun b u q n => ⟨e'.old b u q fun y => n (.inl y), fun y => (ms_or y).elim n (ne_of_none q hD)⟩, e'.dk, e'.al⟩
  obtain ⟨y1, y2⟩ := yl _ _ fr
  by_cases hlt : i < ds.length
  · obtain ⟨go, y3⟩ := y2 i ds[i] (List.getElem?_eq_getElem hlt)
    rw [List.drop_eq_getElem_cons hlt] at hk
    refine .inr ⟨go, fun H2 => ∃ accV accD, Evo z H1 H2 ∧ H2 Da = some (.lst accV) ∧ IsA z (Ms z (X.or Da) σ env) H2 accV accD ∧ lcP2 vs1 pg pt pi1 pg1 pt1 pe (wipeE env vs) (ds.drop (i + 1)) accD fun r => k (.lst r), fun H2 h2 => ⟨ds.length - (i + 1), by omega, rfl, hlt, h2⟩, fun x H2 hy => ?_⟩
    obtain ⟨e2, is⟩ := y3 x H2 hy
    have oL2 := oL.go e2
    obtain ⟨oW, sub⟩ := oL2.wipe (vs := vs)
    refine hg z (X.or Da) H0 H2 _ _ x _ _ _ oW ((is (fun a q => .inl q) (fun b q => oL.notMs q)).weak sub) (fun env3 σ3 o3 f3 kp hx3 => ⟨wipe_eq kp hj, ?_⟩) hk
    refine ht z (X.or Da) H0 H2 σ3 env3 _ _ o3 (fun b H3 e3 hx4 => ?_) hx3
    have e13 := e'.trans (e2.trans e3)
    have acc3 : H3 Da = some (.lst accV) := e3.old _ _ (e2.old _ _ hacc hzD) hzD
    have A3 : IsA z (Ms z (X.or Da) σ env) H3 accV accD := hA.evo (fun _ q => .inl q) (e2.trans e3)
    have o3' := o3.go e3
    have up : ∀ a, Ms z (X.or Da) σ env a → Ms z (X.or Da) σ3 env3 a := ms_in hn hj kp
    cases b with
    | false =>
      rw [if_neg Bool.false_ne_true]
      exact ⟨accV, accD, e13, acc3, A3, hx4⟩
    | true =>
      rw [if_pos rfl]
      refine hi1 z (X.or Da) H0 H3 σ3 env3 _ _ o3' (fun ds1 J1 H4 e4 yl1 hx5 => ?_) hx4
      obtain ⟨hn1, hx5⟩ := hx5
      have o4 := o3'.go e4
      refine ⟨fun j mm H' => mm = ds1.length - j ∧ j ≤ ds1.length ∧ ∃ accV accD, Evo z H1 H' ∧ Fr z (X.or Da) (Ms z (X.or Da) σ3 env3) H4 (Ms z (X.or Da) σ3 env3) H' ∧ Ok z (X.or Da) H0 H' σ3 env3 ∧ H' Da = some (.lst accV) ∧ IsA z (Ms z (X.or Da) σ env) H' accV accD ∧
          lcP pg1 pt1 pe (wipeE env3 vs1) (ds1.drop j) accD fun acc1 => lcP2 vs1 pg pt pi1 pg1 pt1 pe (wipeE env vs) (ds.drop (i + 1)) acc1 fun r => k (.lst r),
        ⟨ds1.length, by simp, Nat.zero_le _, accV, accD, e13.trans e4, Fr.refl, o4, e4.old _ _ acc3 hzD, A3.evo (fun _ q => .inl q) e4, by simpa using hx5⟩, ?_⟩
      rintro j mm H5 ⟨rfl, hjl, accV, accD, e5, f5, o5, hacc, hA, hk⟩
      obtain ⟨y1, y2⟩ := yl1 _ _ f5
      by_cases hlt1 : j < ds1.length
      · obtain ⟨go, y3⟩ := y2 j ds1[j] (List.getElem?_eq_getElem hlt1)
        rw [List.drop_eq_getElem_cons hlt1] at hk
        refine .inr ⟨go, fun H' => ∃ accV accD, Evo z H1 H' ∧ Fr z (X.or Da) (Ms z (X.or Da) σ3 env3) H4 (Ms z (X.or Da) σ3 env3) H' ∧ Ok z (X.or Da) H0 H' σ3 env3 ∧ H' Da = some (.lst accV) ∧ IsA z (Ms z (X.or Da) σ env) H' accV accD ∧
          lcP pg1 pt1 pe (wipeE env3 vs1) (ds1.drop (j + 1)) accD fun acc1 => lcP2 vs1 pg pt pi1 pg1 pt1 pe (wipeE env vs) (ds.drop (i + 1)) acc1 fun r => k (.lst r), fun H2 h2 => ⟨ds1.length - (j + 1), by omega, rfl, hlt1, h2⟩, fun x H6 hy => ?_⟩
        obtain ⟨e6, is⟩ := y3 x H6 hy
        have o6 := o5.go e6
        obtain ⟨oW, sub⟩ := o6.wipe (vs := vs1)
        refine hg1 z (X.or Da) H0 H6 _ _ x _ _ _ oW ((is (fun a q => .inl q) (fun b q => o5.notMs q)).weak sub) (fun env7 σ7 o7 f7 kp7 hx7 => ⟨wipe_eq kp7 hj1, ?_⟩) hk
        refine ht1 z (X.or Da) H0 H6 σ7 env7 _ _ o7 (fun b H7 e7 hx8 => ?_) hx7
        have e67 := e6.trans e7
        have acc7 : H7 Da = some (.lst accV) := e67.old _ _ hacc hzD
        have A7 : IsA z (Ms z (X.or Da) σ env) H7 accV accD := hA.evo (fun _ q => .inl q) e67
        cases b with
        | false =>
          rw [if_neg Bool.false_ne_true]
          exact ⟨accV, accD, e5.trans e67, f5.trans (o5.fr e67), o5.go e67, acc7, A7, hx8⟩
        | true =>
          rw [if_pos rfl]
          refine he z (X.or Da) H0 H7 σ7 env7 _ _ (o7.go e7) (fun r y H8 e8 r8 hx9 => ?_) hx8
          have e58 := e67.trans e8
          have o8 := o5.go e58
          have inD : ∀ {σ : Sl} {env : List SV}, Ms z (X.or Da) σ env Da := .inr (.inl (.inr rfl))
          have old : ∀ (M : AP), M Da → ∀ b u, H8 b = some u → ¬ M b → upd H8 Da (.lst (accV ++ [y])) b = some u ∧ ¬ M b := fun M hM b u q n => ⟨by rw [upd_ne (fun w => n (by rw [w]; exact hM))]; exact q, n⟩
          have dk : ∀ b, z.ok H8 b → z.ok (upd H8 Da (.lst (accV ++ [y]))) b := fun b hb => ok_mut hzD hb
          have al : ∀ b, H8 b ≠ none → upd H8 Da (.lst (accV ++ [y])) b ≠ none := fun b hb => by
            by_cases w : b = Da
            · rw [w, upd_same]; exact nt
            · rw [upd_ne w]; exact hb
          have h0D : H0 Da = none := o1.evo.fresh hD
          refine ⟨accV, e8.old _ _ acc7 hzD, by rw [hA.length]; exact szl hx9.1, accV ++ [y], accD ++ [r], (e5.trans e58).mut hD hzD, (f5.trans (o5.fr e58)).trans ⟨old _ inD, dk, al⟩, ?_, upd_same, ?_, hx9.2⟩
          · refine ⟨o8.len, o8.evo.mut h0D hzD, fun b q => al b (o8.zal b q), fun b q => ⟨al b (o8.xal b q).1, (o8.xal b q).2⟩, fun i d q => ?_, fun i d q => ?_, o8.inj, o8.tab.mut hzD⟩
            · obtain ⟨v, h1, h2⟩ := o8.val i d q
              exact ⟨v, h1, h2.gen (old _ inD) dk⟩
            · obtain ⟨a, h1, h2, h3, h4, h5⟩ := o8.own i d q
              exact ⟨a, h1, h2.gen (fun u w => by rw [upd_ne (fun x => h4 (.inr x))]; exact w) (old _ inD) dk, h3, h4, h5⟩
          · have ir : Is z (Ms z (X.or Da) σ env) H8 y r := Is.weak (fun a q => ms_in hn1 hj1 kp7 a (up a q)) r8
            exact ((A7.evo (fun _ q => .inl q) e8).append (.cons ir .nil)).gen (old _ inD) dk
      · have ei : j = ds1.length := by omega
        subst ei
        rw [List.drop_length] at hk
        exact .inl ⟨y1, accV, accD, e5, hacc, hA, hk⟩
  · have ei : i = ds.length := by omega
    subst ei
    rw [List.drop_length] at hk
    exact .inl ⟨y1, c (.lst accD) (.ref Da) H' (e1.trans e') ⟨Da, rfl, e1.fresh hD, accV, hacc, hA⟩ hk⟩
section
variable {C : Cx} {fr : Bool} {elt tg iter tg1 iter1 : Expr} {ifs ifs1 : List Expr} {scope : Scope} {own : List (Str × Nat)} {pos : Pos} {pi pi1 : PIt} {js js1 vs1 : List Nat} {g g1 : TG} {pg pg1 : PGt} {pt pt1 : PTs'} {pe : PX}
theorem e_lc (hi : I C tg iter pi) (hg : ∀ (s : Shared) (H : Hp) (Ca : Addr) (cl : List (Str × Addr)) (fp : List Addr), G (C.blk s H scope (compEnvC scope cl Ca C.env) fp) tg js g pg) (ht : ∀ (s : Shared) (H : Hp) (Ca : Addr) (cl : List (Str × Addr)) (fp : List Addr), Ts (C.blk s H scope (compEnvC scope cl Ca C.env) fp) ifs pt)
    (he : ∀ (s : Shared) (H : Hp) (Ca : Addr) (cl : List (Str × Addr)) (fp : List Addr), E .e (C.blk s H scope (compEnvC scope cl Ca C.env) fp) elt pe) (hc : C.calm = true) (hN : C.N.Nodup) (ok : BlkOk C.N C.env.scope scope own) (hj : ∀ i ∈ js, i ∈ own.map (·.2)) (rg : RG js g pg) (hs : ∀ x, foldedSetIterable iter C.env x = pure x := by intro _; rfl) :
    E .f C (.ListComp elt [⟨tg, iter, ifs, 0⟩] scope pos) (eLc (own.map (·.2)) pi pg pt pe) :=
  ⟨_, pe_lc hc hN hi.pi ok (fun s H Ca cl fp => (hg s H Ca cl fp).pg) (fun s H Ca cl fp => (ht s H Ca cl fp).ex) (fun s H Ca cl fp => (he s H Ca cl fp).pe) hs, re_lc ri_tP rg hj rt_tP re_tP⟩
theorem s_ownLc {i : Nat} {y : Str} {py spos : Pos} (hi : I C tg iter pi) (hg : ∀ (s : Shared) (H : Hp) (Ca : Addr) (cl : List (Str × Addr)) (fp : List Addr), G (C.blk s H scope (compEnvC scope cl Ca C.env) fp) tg js g pg) (ht : ∀ (s : Shared) (H : Hp) (Ca : Addr) (cl : List (Str × Addr)) (fp : List Addr), Ts (C.blk s H scope (compEnvC scope cl Ca C.env) fp) ifs pt)
    (he : ∀ (s : Shared) (H : Hp) (Ca : Addr) (cl : List (Str × Addr)) (fp : List Addr), E .e (C.blk s H scope (compEnvC scope cl Ca C.env) fp) elt pe) (hc : C.calm = true) (hN : C.N.Nodup) (hy : C.N[i]? = some y) (hyl : C.env.scope.names.lookup y = some .local)
    (hsw : swapsWith (.ListComp elt [⟨tg, iter, ifs, 0⟩] scope pos) (some (.Name y py)) spos.line C.env = pure true) (ok : BlkOk C.N C.env.scope scope own) (hj : ∀ i ∈ js, i ∈ own.map (·.2)) (rg : RG js g pg) (hs : ∀ x, foldedSetIterable iter C.env x = pure x := by intro _; rfl) :
    S fr C (.Assign [.Name y py] (.ListComp elt [⟨tg, iter, ifs, 0⟩] scope pos) spos) (sOwn i (eLc (own.map (·.2)) pi pg pt pe)) :=
  ⟨_, ps_setLc hc hN hy hyl hsw hi.pi ok (fun s H Ca cl fp => (hg s H Ca cl fp).pg) (fun s H Ca cl fp => (ht s H Ca cl fp).ex) (fun s H Ca cl fp => (he s H Ca cl fp).pe) hs, rs_own (re_lc ri_tP rg hj rt_tP re_tP)⟩
theorem RE.fe' {t : TE} {p : PX} (h : RE .f t p) : RE .e t p := fun z X H0 H σ env Q k o c hp => h z X H0 H σ env Q k o (fun d v H' ev r kd => c d v H' ev (r.fe o) kd) hp
theorem rs_set {i : Nat} {t : TE} {p : PX} (h : RE .e t p) : RS fr (tAsg t (gName i)) (sSet i p) := fun z X H0 H σ env G k o s hp => h z X H0 H σ env _ _ o (fun d v H1 e1 r1 hx => by
  obtain ⟨o2, f2⟩ := (o.go e1).set (i := i) (show Is z _ H1 v d from r1)
  exact s.nx _ _ H1 o2 ((o.fr e1).trans f2) hx) hp
theorem s_setLc {i : Nat} {y : Str} {py spos : Pos} (hi : I C tg iter pi) (hg : ∀ (s : Shared) (H : Hp) (Ca : Addr) (cl : List (Str × Addr)) (fp : List Addr), G (C.blk s H scope (compEnvC scope cl Ca C.env) fp) tg js g pg) (ht : ∀ (s : Shared) (H : Hp) (Ca : Addr) (cl : List (Str × Addr)) (fp : List Addr), Ts (C.blk s H scope (compEnvC scope cl Ca C.env) fp) ifs pt)
    (he : ∀ (s : Shared) (H : Hp) (Ca : Addr) (cl : List (Str × Addr)) (fp : List Addr), E .e (C.blk s H scope (compEnvC scope cl Ca C.env) fp) elt pe) (hc : C.calm = true) (hN : C.N.Nodup) (hy : C.N[i]? = some y) (hyl : C.env.scope.names.lookup y = some .local)
    (hsw : swapsWith (.ListComp elt [⟨tg, iter, ifs, 0⟩] scope pos) (some (.Name y py)) spos.line C.env = pure true) (ok : BlkOk C.N C.env.scope scope own) (hj : ∀ i ∈ js, i ∈ own.map (·.2)) (rg : RG js g pg) (hs : ∀ x, foldedSetIterable iter C.env x = pure x := by intro _; rfl) :
    S fr C (.Assign [.Name y py] (.ListComp elt [⟨tg, iter, ifs, 0⟩] scope pos) spos) (sSet i (eLc (own.map (·.2)) pi pg pt pe)) :=
  ⟨_, ps_setLc hc hN hy hyl hsw hi.pi ok (fun s H Ca cl fp => (hg s H Ca cl fp).pg) (fun s H Ca cl fp => (ht s H Ca cl fp).ex) (fun s H Ca cl fp => (he s H Ca cl fp).pe) hs, rs_set (RE.fe' (re_lc ri_tP rg hj rt_tP re_tP))⟩
theorem e_lc2 (hi : I C tg iter pi) (hg : ∀ (s : Shared) (H : Hp) (Ca : Addr) (cl : List (Str × Addr)) (fp : List Addr), G (C.blk s H scope (compEnvC scope cl Ca C.env) fp) tg js g pg) (ht : ∀ (s : Shared) (H : Hp) (Ca : Addr) (cl : List (Str × Addr)) (fp : List Addr), Ts (C.blk s H scope (compEnvC scope cl Ca C.env) fp) ifs pt)
    (hi1 : ∀ (s : Shared) (H : Hp) (Ca : Addr) (cl : List (Str × Addr)) (fp : List Addr), I (C.blk s H scope (compEnvC scope cl Ca C.env) fp) tg1 iter1 pi1)
    (hg1 : ∀ (s : Shared) (H : Hp) (Ca : Addr) (cl : List (Str × Addr)) (fp : List Addr), G (C.blk s H scope (compEnvC scope cl Ca C.env) fp) tg1 js1 g1 pg1) (ht1 : ∀ (s : Shared) (H : Hp) (Ca : Addr) (cl : List (Str × Addr)) (fp : List Addr), Ts (C.blk s H scope (compEnvC scope cl Ca C.env) fp) ifs1 pt1)
    (he : ∀ (s : Shared) (H : Hp) (Ca : Addr) (cl : List (Str × Addr)) (fp : List Addr), E .e (C.blk s H scope (compEnvC scope cl Ca C.env) fp) elt pe) (hc : C.calm = true) (hN : C.N.Nodup) (ok : BlkOk C.N C.env.scope scope own) (hj : ∀ i ∈ js, i ∈ own.map (·.2)) (hj1 : ∀ i ∈ js1, i ∈ vs1) (hv : ∀ i ∈ vs1, i ∈ own.map (·.2)) (rg : RG js g pg) (rg1 : RG js1 g1 pg1)
    (hs : ∀ x, foldedSetIterable iter C.env x = pure x := by intro _; rfl) (hs1 : ∀ env x, foldedSetIterable iter1 env x = pure x := by intro _ _; rfl) :
    E .f C (.ListComp elt [⟨tg, iter, ifs, 0⟩, ⟨tg1, iter1, ifs1, 0⟩] scope pos) (eLc2 (own.map (·.2)) vs1 pi pg pt pi1 pg1 pt1 pe) :=
  ⟨_, pe_lc2 hc hN hi.pi ok hv (fun s H Ca cl fp => (hg s H Ca cl fp).pg) (fun s H Ca cl fp => (ht s H Ca cl fp).ex) (fun s H Ca cl fp => (hi1 s H Ca cl fp).pi) (fun s H Ca cl fp => (hg1 s H Ca cl fp).pg) (fun s H Ca cl fp => (ht1 s H Ca cl fp).ex) (fun s H Ca cl fp => (he s H Ca cl fp).pe) hs hs1,
    re_lc2 ri_tP rg hj rt_tP ri_tP rg1 hj1 rt_tP re_tP⟩
end
end Pu

namespace Ew
open PySem PySem.Spec PyProof.Rows L2
theorem places_rev (n : Nat) (hn : 1 ≤ n) : Builtin.Slice.slicePlaces ((n : Int) - 1) (-1) (-1) = n := by
  unfold Builtin.Slice.slicePlaces
  rw [if_neg (by decide), if_pos (by omega)]
  show (((n : Int) - 1 - -1 - 1) / 1 + 1).toNat = n
  rw [Int.ediv_one]
  omega
theorem fm_congr {α β : Type} {f g : α → Option β} : ∀ l : List α, (∀ m ∈ l, f m = g m) → l.filterMap f = l.filterMap g
  | [], _ => rfl
  | a :: r, h => by
    rw [List.filterMap_cons, List.filterMap_cons, h a List.mem_cons_self, fm_congr r fun m hm => h m (List.mem_cons_of_mem _ hm)]
theorem pick_rev (xs : Array Value) : ((List.range xs.size).filterMap fun (m : Nat) => xs[((((xs.size : Nat) : Int) - 1) + (m : Int) * (-1)).toNat]?).toArray = xs.toList.reverse.toArray := by
  congr 1
  have e : (List.range xs.size).filterMap (fun (m : Nat) => xs[((((xs.size : Nat) : Int) - 1) + (m : Int) * (-1)).toNat]?) = (List.range xs.size).filterMap (fun (m : Nat) => xs.toList.reverse[m]?) := by
    apply fm_congr
    intro m hm
    have h := List.mem_range.mp hm
    have e1 : ((((xs.size : Nat) : Int) - 1) + (m : Int) * (-1)).toNat = xs.size - 1 - m := by omega
    rw [e1, List.getElem?_reverse (by rw [Array.length_toList]; exact h), Array.length_toList, Array.getElem?_toList]
  rw [e]
  have hl : xs.toList.reverse.length = xs.size := by rw [List.length_reverse, Array.length_toList]
  rw [← hl]
  generalize xs.toList.reverse = l
  induction l with
  | nil => rfl
  | cons a r ih =>
    rw [List.length_cons, List.range_succ_eq_map, List.filterMap_cons]
    show a :: ((List.range r.length).map Nat.succ).filterMap (fun m => (a :: r)[m]?) = a :: r
    congr 1
    rw [List.filterMap_map]
    exact ih
section
variable {prog : Program} {w : World} {A : Around} {E : Value → Shared → Prop} {s : Shared}
theorem applied_revN {sl : Addr} {tk : Tok} {n : Nat} {Q : Int × Int × Nat → Shared → Prop} (hn : 1 ≤ n) (hs : s.heap.IsSliceOf sl .none .none (.int (-1) tk))
    (h : Q ((n : Int) - 1, -1, n) s) : wpAny (model prog w) A (Builtin.Slice.sliceApplied (.ref sl) (pure (n : Int))) Q E s := by
  obtain ⟨os, hos, hcs, hds⟩ := id hs
  unfold Builtin.Slice.sliceApplied Builtin.Slice.sliceFields
  refine wpAny_bind (wpAny_bind (wpAny_field hos hds (x := .none) rfl (wpAny_bind (wpAny_field hos hds (x := .none) rfl (wpAny_bind (wpAny_field hos hds (x := .int (-1) tk) rfl (wpAny_pure ?_)))))))
  refine wpAny_bind (HT.slicePart_ (.int (-1) tk) ?_)
  show wpAny _ _ (if ((-1 : Int) == 0) = true then _ else _) _ _ s
  rw [if_neg (by decide)]
  refine wpAny_bind (HT.slicePart_ .none (wpAny_bind (HT.slicePart_ .none (wpAny_bind (wpAny_pure ?_)))))
  show wpAny _ _ (pure ((n : Int) - 1, (-1 : Int), Builtin.Slice.slicePlaces ((n : Int) - 1) (-1) (-1))) _ _ s
  rw [places_rev n hn]
  exact wpAny_pure h
theorem getItem_revN {t sl : Addr} {items : Array Value} {tk : Tok} {Q : Value → Shared → Prop} (hn : 1 ≤ items.size) (ht : IsTup s.heap t items) (hs : s.heap.IsSliceOf sl .none .none (.int (-1) tk)) (hz : items.size ≤ sizeLine)
    (h : Q (.ref s.heap.objs.size) { s with heap := s.heap.push { cls := .type "tuple", data := .seq items.toList.reverse.toArray } }) : wpAny (model prog w) A (getItem (.ref t) (.ref sl)) Q E s := by
  have htake : sizeOk (.seq items.toList.reverse.toArray) := by
    show items.toList.reverse.toArray.size ≤ sizeLine
    rw [List.size_toArray, List.length_reverse, Array.length_toList]
    exact hz
  obtain ⟨os, hos, hcs, hds⟩ := id hs
  have hTs : s.TypeIs (.ref sl) "slice" := ⟨os, hos, hcs⟩
  unfold getItem
  try with_reducible refine wpAny_holding ?_
  first | refine wpAny_bind (wpAny_pure ?_) | skip
  refine wpAny_bind (wpAny_sequenceKey ht.typeIs (by decide) ?_)
  refine wpAny_bind (wpAny_callSpecial?_slot (name := Str.ofString "__getitem__") ht.typeIs PyProof.Rows.slot_tuple_getitem
    (wpAny_call_entry PyProof.Rows.slot_tuple_getitem ht.typeIs entry_tuple_getitem ?_ (args_tuple_getitem _ _)))
  show wpAny _ _ (Builtin.Tuple.tupleItemsOf (.ref t) >>= _) _ _ s
  refine wpAny_bind (tupleItemsOf_ ht ?_)
  refine wpAny_bind (wpAny_typeOf hTs ?_)
  rw [if_pos (by decide)]
  refine wpAny_bind (applied_revN hn hs ?_)
  show wpAny _ _ (if ((((items.size : Nat) : Int) - 1 == 0) && ((-1 : Int) == 1) && (items.size == items.size)) = true then _ else _) _ _ s
  rw [if_neg (by rw [show ((-1 : Int) == 1) = false from rfl, Bool.and_false, Bool.false_and]; exact Bool.false_ne_true), pick_rev]
  first
    | exact wpAny_bind (m := Builtin.Tuple.tupleExact _) (wpAny_newObj_type (wpAny_pure ⟨_, rfl, wpAny_pure h⟩) htake)
    | exact wpAny_bind (m := Builtin.Tuple.tupleExact _) (wpAny_newObj_type (wpAny_bind (wpAny_pure (wpAny_pure ⟨_, rfl, wpAny_pure h⟩))) htake)
    | exact wpAny_bind (wpAny_bind (m := Builtin.Tuple.tupleExact _) (wpAny_newObj_type (wpAny_pure (wpAny_pure ⟨_, rfl, wpAny_pure h⟩)) htake))
end
/-- t[::-1] of a tuple that is not empty -/
def tRevN (K : PySem.W.Frag) (te : TE) : TE := fun σ H Q => te σ H fun v H1 => ∃ a xs, v = .ref a ∧ SqT K H1 a xs ∧ 1 ≤ xs.length ∧ ∀ p, H1 p = none → Q (.ref p) (upd H1 p (.tup xs.reverse))
theorem pe_revN {X : Cx} {e : Expr} {te : TE} {k : Nat} {p1 p2 p3 pos : Pos} (he : PE X e te) : PE X (.Subscript e (.Slice none none (some (.UnaryOp .USub (.Constant (.int 1) k p1) p2)) p3) pos) (tRevN X.K te) := by
  refine ⟨fun pins s σ H Q I h => ?_⟩
  refine Subscript_ (thn (he.run pins s σ H _ I h) fun v s1 ⟨x, H1, I1, r1, q1⟩ => ?_)
  obtain ⟨a, xs, ex, hx, h1, q⟩ := q1
  subst ex
  cases r1
  have hst : PO X (some (.UnaryOp .USub (.Constant (.int 1) k p1) p2)) (tPart (tUn (rU fun i => .int (-i)) (tC (.int 1)))) := po_some (pe_un un_neg pe_int)
  refine wpAny_Slice (thn (po_none.run pins s1 σ H1 (fun o H2 => o = none ∧ H2 = H1) I1 ⟨rfl, rfl⟩) fun vl s2 ⟨l, H2, I2, pl, el, e2⟩ => ?_)
  subst el e2
  refine thn (po_none.run pins s2 σ H2 (fun o H3 => o = none ∧ H3 = H2) I2 ⟨rfl, rfl⟩) fun vu s3 ⟨u, H3, I3, pu, eu, e3⟩ => ?_
  subst eu e3
  refine thn (hst.run pins s3 σ H3 (fun o H4 => o = some (-1) ∧ H4 = H3) I3 ⟨1, rfl, -1, rfl, rfl, rfl⟩) fun vs s4 ⟨o, H4, I4, ps, eo, e4⟩ => ?_
  subst eo e4
  cases pl
  cases pu
  cases ps with
  | int _ tk =>
    have I5 : Inv X pins σ H4 { s4 with heap := s4.heap.push { cls := .type "slice", data := .fields #[.none, .none, .int (-1) tk] } } := I4.kept (t' := s4.toks) fun b ob q => Heap.get?_push_of_some _ q
    obtain ⟨its, r, ht, hz⟩ := I5.tuple hx
    have hlen := r.length
    show wpAny (model X.prog X.w) X.A (subscriptTail e (.Slice none none (some (.UnaryOp .USub (.Constant (.int 1) k p1) p2)) p3) (.ref a) (.ref s4.heap.objs.size)) (EP X pins σ Q) X.xe { s4 with heap := s4.heap.push { cls := .type "slice", data := .fields #[.none, .none, .int (-1) tk] } }
    refine tail_any (ops := [.ref a, .ref s4.heap.objs.size]) ht.typeIs (PyProof.Rows.slot_tuple_getitem.lookup) ?_ (by with_unfolding_all rfl)
    refine getItem_revN (by rw [List.size_toArray]; omega) ht (Heap.IsSliceOf.new _ .none .none (.int (-1) tk)) (by rw [List.size_toArray]; omega) ?_
    exact ⟨.ref _, _, I5.laid (t' := s4.toks) (o := .tup xs.reverse) (fun b ob q => Heap.get?_push_of_some _ q) (Nat.le_refl _) ⟨by rw [List.length_reverse]; exact hz, _, r.reverse, IsTup.new _ _⟩, rfl, q _ (I5.hok.fresh (Nat.le_refl _))⟩
end Ew

namespace Pu
open PySem PySem.Spec PyProof.Rows L2
variable [Tbs]
/-! ### targets, once more without a place -/
theorem rg_name {i : Nat} : RG [i] (gName i) (gtName i) := fun z X H0 H σ env v d Q k o hv c hp => let ⟨o2, f2⟩ := o.set (i := i) hv; c _ _ o2 f2 ⟨by simp, fun j hj => by
    have hj' : i ≠ j := fun e => hj (by simp [e])
    exact ⟨List.getElem?_set_ne hj', List.getElem?_set_ne hj'⟩⟩ hp
theorem rgs_nil : RGs [] gNil gtNil := fun z X H0 H σ env v d Q k o hv c hp => by
  cases hv with
  | nil => exact ⟨rfl, c env σ o Fr.refl Keep.refl hp⟩
  | cons _ _ => exact (show False from hp).elim
theorem rgs_cons {js ks : List Nat} {g : TG} {gs : TGs} {p : PGt} {q : PGs'} (h1 : RG js g p) (h2 : RGs ks gs q) : RGs (js ++ ks) (gCons g gs) (gtCons p q) := fun z X H0 H σ env v d Q k o hv c hp => by
  cases hv with
  | nil => exact (show False from hp).elim
  | cons q t =>
    refine ⟨_, _, rfl, h1 z X H0 H σ env _ _ _ _ o q (fun env' σ' o' f' kp hx => ?_) hp⟩
    exact h2 z X H0 H σ' env' _ _ _ _ o' (f'.isA t) (fun env2 σ2 o2 f2 kp2 hy => c env2 σ2 o2 (f'.trans f2) (kp.trans kp2) hy) hx
theorem rg_tup {K : PySem.W.Frag} {js : List Nat} {gs : TGs} {q : PGs'} {n : Nat} (h : RGs js gs q) : RG js (gTup K n gs) (gtTup n q) := fun z X H0 H σ env v d Q k o hv c hp => by
  cases hv with
  | tup e nn r => exact ⟨_, _, rfl, SqT.of e, by rw [r.length]; exact hp.1, h z X H0 H σ env _ _ _ _ o r c hp.2⟩
  | _ => exact (show False from hp).elim

/-! ### a def by its body -/
def wpOf (fr : Bool) (n : Nat) (p : PSt) : List D → (D → Prop) → Prop := fun ds k => p (ds.map SV.val ++ List.replicate (n - ds.length) SV.no) { nx := fun _ => fr = false ∧ k .non, rt := k }
theorem start_ok {z : Zn} {X : AP} {H : Hp} {N : List Str} {vs : List V} {ds : List D} (hz : (∀ a, z.Z a → H a ≠ none) ∧ Tabs H) (hx : ∀ a, X a → H a ≠ none ∧ ¬ z.Z a) (hA : IsA z (Zx z X) H vs ds) :
    Ok z X H H (L2.start N vs) (ds.map SV.val ++ List.replicate (N.length - ds.length) SV.no) := by
  have hl := hA.length
  have no : ∀ (i : Nat) (d : D), (ds.map SV.val ++ List.replicate (N.length - ds.length) SV.no)[i]? = some (.own d) → False := fun i d h => by
    by_cases hi : i < ds.length
    · rw [List.getElem?_append_left (by simpa using hi), List.getElem?_map] at h
      cases q : ds[i]? with
      | none => rw [q] at h; cases h
      | some x => rw [q] at h; cases h
    · rw [List.getElem?_append_right (by simpa using hi), List.getElem?_replicate] at h
      split at h <;> cases h
  have ms : ∀ a, Ms z X (L2.start N vs) (ds.map SV.val ++ List.replicate (N.length - ds.length) SV.no) a → Zx z X a := by
    rintro a (h | h | ⟨i, d, h1, _⟩)
    · exact .inl h
    · exact .inr h
    · exact (no i d h1).elim
  refine ⟨by unfold L2.start; simp [hl], Evo.refl _ _, hz.1, hx, fun i d h => ?_, fun i d h => (no i d h).elim, fun i j a d e h _ _ _ => (no i d h).elim, hz.2⟩
  by_cases hi : i < ds.length
  · rw [List.getElem?_append_left (by simpa using hi), List.getElem?_map] at h
    cases q : ds[i]? with
    | none => rw [q] at h; cases h
    | some x =>
      rw [q] at h
      cases h
      obtain ⟨v, h1, h2⟩ := hA.get q
      refine ⟨v, ?_, h2.weak ms⟩
      unfold L2.start
      rw [List.getElem?_append_left (by simpa [hl] using hi), List.getElem?_map, h1]
      rfl
  · rw [List.getElem?_append_right (by simpa using hi), List.getElem?_replicate] at h
    split at h <;> cases h
section
variable {P : Program} {w : World} {K : PySem.W.Frag} {mg : Str → Option Value} {base : Heap}
theorem fn_ok {x qual : Str} {st : Stmt} {f : Addr} {fd : FuncData} {N ps : List Str} {k : Nat} {fr : Bool} {p : PSt} (F : Fun K x qual st f fd) (S : FnScope N ps (defScope st))
    (hb : ∀ (cdv : Value) (A : Around) (outer : List Env) (s : Shared) (H : Hp) (E : XK), Room k (A.deeper (envOfC qual (defScope st) s.heap.objs.size f cdv)) → B fr (cxOf CX0 P w K mg base N qual (defScope st) f cdv A outer s H E).nox (defBody st) p) :
    FnOk P w K mg base CX0 (k + 1) f fd ps (Sf fr ps.length (wpOf fr N.length p)) := by
  refine F.ok S (fun vs H Q E h => ?_) (fun cdv A outer s H vs Q E hr h => ?_)
  · obtain ⟨z, X, ds, kk, hl, _⟩ := h
    exact hl
  · obtain ⟨z, X, ds, kk, hl, hz, hx, hA, hw, c⟩ := h
    obtain ⟨t, b1, b2⟩ := hb cdv A outer s H E hr
    refine ⟨t, b1, b2 z X H H (L2.start N vs) _ _ { nx := fun _ => fr = false ∧ kk .non, rt := kk } (start_ok hz hx hA) ⟨fun env' σ' H' o' f' hk => ?_, fun d v H' e r fq hk => ?_, fun _ _ _ _ _ hk => hk.elim, fun _ _ _ _ _ hk => hk.elim, fun _ _ _ _ _ _ _ h => h.elim⟩ hw⟩
    · exact c .non .non H' o'.evo .non (fun q => by rw [hk.1] at q; cases q) hk.2
    · exact c d v H' e r fq hk
end
section
variable {C : Cx} {e a b : Expr} {es : List Expr} {p q : PX} {m : Mode} {fr : Bool} {pos pp : Pos} {x : Str}
/-! ### tuple(range(..)), list(range(..)) -/
def dRg (f : List D → D) : D → D → (D → Prop) → Prop := fun x y k => match x, y with
  | .int i, .int j => (0 ≤ i ∧ i < 100000 ∧ 0 ≤ j ∧ j < 100000) ∧ k (f (rangeD i (j - i).toNat))
  | _, _ => False
def eRg1 (f : List D → D) (p : PX) : PX := fun env k => p env fun x => dRg f (.int 0) x k
def eRg2 (f : List D → D) (p q : PX) : PX := fun env k => p env fun x => q env fun y => dRg f x y k
theorem isa_rg {z : Zn} {M : AP} {H : Hp} {i j : Int} : IsA z M H (rgV i j) (rangeD i (j - i).toNat) := by
  unfold rgV rangeD
  generalize (j - i).toNat = n
  have : ∀ (l : List Nat), IsA z M H (l.map fun t => V.int (i + (t : Nat))) (l.map fun t => D.int (i + (t : Nat))) := fun l => by
    induction l with
    | nil => exact .nil
    | cons t l ih => exact .cons (.int _) ih
  exact this _
theorem e_tupRg1 (h : E m C a p) (hc : C.calm = true) (hg : Gl C "tuple") (hm : C.mg "tuple" = none) (hg' : Gl C "range") (hm' : C.mg "range" = none) {p2 pos2 : Pos} (na : starEach [a] C.env = (false, eval a C.env) :: starEach [] C.env := by rfl)
    (nb : starEach [.Call (.Name "range" p2) [a] [] pos2] C.env = (false, eval (.Call (.Name "range" p2) [a] [] pos2) C.env) :: starEach [] C.env := by rfl) : E .e C (.Call (.Name "tuple" pp) [.Call (.Name "range" p2) [a] [] pos2] [] pos) (eRg1 .tup p) := by
  obtain ⟨t, h1, h2⟩ := h.toB
  refine ⟨_, pe_tupRg hc hg hm (prg_1 hg' hm' h1 na) nb, fun z X H0 H σ env Q k o c hp => h2 z X H0 H σ env _ _ o (fun d v H1 e1 r1 hx => ?_) hp⟩
  cases d with
  | int i =>
    cases Is.intI r1
    obtain ⟨hb, hk⟩ := hx
    exact ⟨i, rfl, ⟨by omega, by omega, by omega, by omega, by omega⟩, fun q hq => c _ _ _ (e1.new hq) ((Rel.newT (e1.fresh hq) hq isa_rg).fe o) hk⟩
  | _ => exact (show False from hx).elim
theorem e_lstRg1 (h : E m C a p) (hc : C.calm = true) (hg : Gl C "list") (hm : C.mg "list" = none) (hg' : Gl C "range") (hm' : C.mg "range" = none) {p2 pos2 : Pos} (na : starEach [a] C.env = (false, eval a C.env) :: starEach [] C.env := by rfl)
    (nb : starEach [.Call (.Name "range" p2) [a] [] pos2] C.env = (false, eval (.Call (.Name "range" p2) [a] [] pos2) C.env) :: starEach [] C.env := by rfl) : E .f C (.Call (.Name "list" pp) [.Call (.Name "range" p2) [a] [] pos2] [] pos) (eRg1 .lst p) := by
  obtain ⟨t, h1, h2⟩ := h.toB
  refine ⟨_, pe_listRg hc hg hm (prg_1 hg' hm' h1 na) nb, fun z X H0 H σ env Q k o c hp => h2 z X H0 H σ env _ _ o (fun d v H1 e1 r1 hx => ?_) hp⟩
  cases d with
  | int i =>
    cases Is.intI r1
    obtain ⟨hb, hk⟩ := hx
    exact ⟨i, rfl, ⟨by omega, by omega, by omega, by omega, by omega⟩, fun q hq => c _ _ _ (e1.new hq) (Rel.newL (e1.fresh hq) hq isa_rg) hk⟩
  | _ => exact (show False from hx).elim
/-- t[::-1] -/
def dRevT : D → (D → Prop) → Prop := fun d k => match d with
  | .tup xs => xs ≠ [] ∧ k (.tup xs.reverse)
  | _ => False
def dRevL : D → (D → Prop) → Prop := fun d k => match d with
  | .lst xs => k (.lst xs.reverse)
  | _ => False
theorem e_revT {kk : Nat} {p1 p2 p3 : Pos} (h : E .c C e p) : E .e C (.Subscript e (.Slice none none (some (.UnaryOp .USub (.Constant (.int 1) kk p1) p2)) p3) pos) (eUn dRevT p) := by
  obtain ⟨t, h1, h2⟩ := h
  refine ⟨_, Ew.pe_revN h1, fun z X H0 H σ env Q k o c hp => h2 z X H0 H σ env _ _ o (fun d v H1 e1 r1 hx => ?_) hp⟩
  cases d with
  | tup xs =>
    obtain ⟨a, vs, rfl, q1, q2, n⟩ := r1.conT
    exact ⟨a, vs, rfl, SqT.of q1, by rw [q2.length]; exact List.length_pos_iff.mpr hx.1, fun q hq => c _ _ _ (e1.new hq) ((Rel.newT (e1.fresh hq) hq q2.reverse).fe o) hx.2⟩
  | _ => exact (show False from hx).elim
/-! ### more changes of what a slot owns -/
/-- y = x.pop(e) -/
def sPopAt (j i : Nat) (p : PX) : PSt := fun env k => match env[i]? with
  | some (.own (.lst xs)) => p env fun d => inK d fun n => (-100000 < n ∧ n < 100000) ∧ ∃ jj y, seqIndex? n xs.length = some jj ∧ xs[jj]? = some y ∧ k.nx ((env.set i (.own (.lst (xs.eraseIdx jj)))).set j (.val y))
  | _ => False
theorem mutL {z : Zn} {X : AP} {H0 H : Hp} {σ : Sl} {env : List SV} {i : Nat} {a : Addr} {d : D} {vs' : List V} {ds' : List D} (o : Ok z X H0 H σ env) (hi : env[i]? = some (.own d)) (hs : σ[i]? = some (some (V.ref a))) (hz : ¬ z.Z a) (h : IsA z (Ms z X σ env) H vs' ds') :
    Ok z X H0 (upd H a (.lst vs')) σ (env.set i (.own (.lst ds'))) ∧ Fr z X (Ms z X σ env) H (Ms z X σ (env.set i (.own (.lst ds')))) (upd H a (.lst vs')) := by
  have ia : Ms z X σ env a := .inr (.inr ⟨i, _, hi, hs⟩)
  exact o.mut hi hs ⟨vs', upd_same, h.gen (fun b u hb n => ⟨by rw [upd_ne (fun e => n (by rw [e]; exact ia))]; exact hb, n⟩) fun b hb => ok_mut hz hb⟩
theorem Is.setOwn {z : Zn} {X : AP} {H0 H : Hp} {σ : Sl} {env : List SV} {i : Nat} {a : Addr} {d d' y : D} {v : V} {o' : HO} (f : Fr z X (Ms z X σ env) H (Ms z X σ (env.set i (.own d'))) (upd H a o')) (h : Is z (Ms z X σ env) H v y) : Is z (Ms z X σ (env.set i (.own d'))) (upd H a o') v y := f.is h
theorem s_popAt (j i : Nat) {x y : Str} {py apos cpos : Pos} (h : E m C e p) (hj : C.N[j]? = some y) (hy : Loc C.env.scope y) (hND : C.N.Nodup)
    (hb : ∀ to te, PE C (.Name x pp) to → PE C e te → PE C (.Call (.Attribute (.Name x pp) "pop" apos) [e] [] cpos) (tBM C.K "list" rPopAt to (tCons te tNil)))
    (hN : C.N[i]? = some x := by rfl) (hv : Vis C.env.scope x := by first | exact Or.inl rfl | exact Or.inr (Or.inl rfl) | exact Or.inr (Or.inr rfl)) (hd : (x == ("__debug__" : Str)) = false := by decide)
    (hcd : (x == ("__classdict__" : Str)) = false := by decide)
    (hs : swapsWith (.Call (.Attribute (.Name x pp) "pop" apos) [e] [] cpos) (some (.Name y py)) pos.line C.env = pure false := by rfl) (hf : C.fn y = true ∨ C.env.scope.names.lookup y = some .local := by first | exact .inl rfl | exact .inr rfl | assumption) :
    S fr C (.Assign [.Name y py] (.Call (.Attribute (.Name x pp) "pop" apos) [e] [] cpos) pos) (sPopAt j i p) := by
  obtain ⟨t, h1, h2⟩ := h.toB
  refine ⟨_, ps_set hND hj hy (hb _ _ (pe_var hN hv hd hcd) h1) hs hf, fun z X H0 H σ env G k o s hp => ?_⟩
  unfold sPopAt at hp
  split at hp
  · rename_i xs he
    obtain ⟨a, q1, ⟨vs, q5, q6⟩, q3, q4⟩ := o.own i _ he
    refine ⟨_, q1, .inl ⟨rfl, vs, SqL.of q5⟩, h2 z X H0 H σ env _ _ o (fun d v H1 e1 r1 hx => ?_) hp⟩
    cases d with
    | int n =>
      cases Is.intI r1
      obtain ⟨hn, jj, yy, g1, g2, hk⟩ := hx
      have o1 := o.go e1
      have q5' := e1.old a _ q5 q3
      have q6' := IsA.evo (fun _ q => .inl q) e1 q6
      obtain ⟨w, w1, w2⟩ := q6'.get g2
      refine ⟨a, vs, n, jj, w, rfl, rfl, q5', by omega, by omega, by rw [q6.length]; exact g1, w1, ?_⟩
      obtain ⟨o2, f2⟩ := mutL o1 he q1 q3 (q6'.eraseIdx jj)
      obtain ⟨o3, f3⟩ := o2.set (i := j) (f2.is w2)
      exact s.nx _ _ _ o3 ((o.fr e1).trans (f2.trans f3)) hk
    | _ => exact (show False from hx).elim
  · exact hp.elim
/-- x[i] = e -/
def sPut (i : Nat) (pi pe : PX) : PSt := fun env k => pe env fun y => match env[i]? with
  | some (.own (.lst xs)) => pi env fun d => match d with
    | .int n => ∃ jj, ixN xs.length n = some jj ∧ k.nx (env.set i (.own (.lst (xs.set jj y))))
    | _ => False
  | _ => False
theorem s_put (i : Nat) {x : Str} {ix : Expr} {spos : Pos} (he : E .e C e p) (hi : E m C ix q) (hN : C.N[i]? = some x := by rfl) (hv : Vis C.env.scope x := by first | exact Or.inl rfl | exact Or.inr (Or.inl rfl) | exact Or.inr (Or.inr rfl)) (hd : (x == ("__debug__" : Str)) = false := by decide)
    (hcd : (x == ("__classdict__" : Str)) = false := by decide)
    (ha : ∀ v, assign (.Subscript (.Name x pp) ix spos) C.env v = (do
      let ov ← holding [v] (eval (.Name x pp) C.env)
      let iv ← holding [v, ov] (eval ix C.env)
      standAt spos
      holding [v, ov, iv] (setItem ov iv v)
      release [v, ov, iv] []) := by intro _; rfl)
    (hs : swapsWithSole [.Subscript (.Name x pp) ix spos] e pos.line C.env = pure false := by rfl) (hw : swappedStores [.Subscript (.Name x pp) ix spos] e C.env = pure none := by rfl)
    (h1 : (assignEach [.Subscript (.Name x pp) ix spos] C.env).map (·.2) = [assign (.Subscript (.Name x pp) ix spos) C.env] := by rfl) : S fr C (.Assign [.Subscript (.Name x pp) ix spos] e pos) (sPut i q p) := by
  obtain ⟨t, a1, a2⟩ := he
  obtain ⟨t2, b1, b2⟩ := hi.toB
  refine ⟨_, ps_asg a1 (pg_sub (pe_var hN hv hd hcd) b1 set_list ha) hs hw h1, fun z X H0 H σ env G k o s hp => a2 z X H0 H σ env _ _ o (fun y v H1 e1 r1 hx => ?_) hp⟩
  split at hx
  · rename_i xs he
    have o1 := o.go e1
    obtain ⟨a, q1, ⟨vs, q5, q6⟩, q3, q4⟩ := o1.own i _ he
    refine ⟨_, q1, b2 z X H0 H1 σ env _ _ o1 (fun d u H2 e2 r2 hx => ?_) hx⟩
    cases d with
    | int n =>
      cases Is.intI r2
      obtain ⟨jj, g1, hk⟩ := hx
      have o2 := o1.go e2
      have q5' := e2.old a _ q5 q3
      have q6' := IsA.evo (fun _ q => .inl q) e2 q6
      refine ⟨a, vs, n, jj, rfl, rfl, q5', by rw [q6.length]; exact g1, ?_⟩
      obtain ⟨o3, f3⟩ := mutL o2 he q1 q3 (IsA.set (Is.evo (fun _ q => .inl q) e2 r1) jj q6')
      exact s.nx _ _ _ o3 ((o.fr (e1.trans e2)).trans f3) hk
    | _ => exact (show False from hx).elim
  · exact hx.elim
/-! ### while -/
def whileN (c : PTs') (body : PSt) (k : PK') : Nat → List SV → Prop
  | 0, _ => False
  | n + 1, env => c env fun b => if b = true then body env { nx := whileN c body k n, rt := k.rt, bk := k.nx, ct := whileN c body k n } else k.nx env
def sWhile (c : PTs') (body : PSt) : PSt := fun env k => ∃ n, whileN c body k n env
theorem s_while {c : Expr} {body : List Stmt} {pc : PTs'} {pb : PSt} (h : T C c pc) (g : B fr C body pb) (hp : PassesOwn (model C.prog C.w) C.A C.env C.xe) : S fr C (.While c body [] pos) (sWhile pc pb) := by
  obtain ⟨t, h1, h2⟩ := h
  obtain ⟨u, g1, g2⟩ := g
  refine ⟨_, ps_while hp h1 g1, fun z X H0 H σ env G k o s hw => ?_⟩
  obtain ⟨n, hw⟩ := hw
  refine ⟨fun mm σ' H' => ∃ env', Ok z X H0 H' σ' env' ∧ Fr z X (Ms z X σ env) H (Ms z X σ' env') H' ∧ whileN pc pb k mm env', ⟨n, env, o, Fr.refl, hw⟩, ?_⟩
  rintro mm σ' H' ⟨env', o', f', hw'⟩
  cases mm with
  | zero => exact hw'.elim
  | succ mm =>
    refine h2 z X H0 H' σ' env' _ _ o' (fun b H1 e1 hx => ?_) hw'
    have o1 := o'.go e1
    have f1 := f'.trans (o'.fr e1)
    cases b with
    | true =>
      rw [if_pos rfl] at hx ⊢
      refine ⟨fun σ2 H2 => ∃ env2, Ok z X H0 H2 σ2 env2 ∧ Fr z X (Ms z X σ env) H (Ms z X σ2 env2) H2 ∧ whileN pc pb k mm env2, fun σ2 H2 q => ⟨mm, Nat.lt_succ_self _, q⟩, ?_⟩
      exact g2 z X H0 H1 σ' env' _ { nx := whileN pc pb k mm, rt := k.rt, bk := k.nx, ct := whileN pc pb k mm } o1 ⟨fun env2 σ2 H2 o2 f2 hx2 => ⟨env2, o2, f1.trans f2, hx2⟩, s.rt, fun env2 σ2 H2 o2 f2 hx2 => s.nx env2 σ2 H2 o2 (f1.trans f2) hx2, fun env2 σ2 H2 o2 f2 hx2 => ⟨env2, o2, f1.trans f2, hx2⟩, fun _ _ _ _ _ _ _ h => h.elim⟩ hx
    | false =>
      rw [if_neg Bool.false_ne_true] at hx ⊢
      exact s.nx env' σ' H1 o1 f1 hx
end
end Pu

namespace Pu
open PySem PySem.Spec PyProof.Rows L2
variable [Tbs]
section
variable {C : Cx} {tg e : Expr} {pe : PX} {m : Mode} {fr : Bool} {pos pp : Pos}
/-- a list or a tuple walked -/
def iSeqT (K : PySem.W.Frag) (tl : TE) : TI := fun σ H R => tl σ H fun x H1 => (∃ a, x = .ref a ∧ (∃ xs, SqL K H1 a xs) ∧ R (Itl K a) H1) ∨ (∃ a, x = .ref a ∧ (∃ xs, SqT K H1 a xs) ∧ R (Itt K a) H1)
theorem pi_seq {l : Expr} {tl : TE} (hl : PE C l tl) : PI C tg l (iSeqT C.K tl) := by
  refine ⟨fun pins s σ H R I h => ?_⟩
  refine thn (hl.run pins s σ H _ I h) fun v s1 ⟨x, H1, I1, r1, q1⟩ => ?_
  have hb : ∀ b ∈ [s1.heap.objs.size], FpOk C pins H1 b := fun b hb => by
    have e : b = s1.heap.objs.size := by simpa using hb
    subst e
    exact I1.fpOk (Nat.le_refl _) (I1.hok.fresh (Nat.le_refl _))
  rcases q1 with ⟨a, e, ⟨xs, hq⟩, q⟩ | ⟨a, e, ⟨xs, hq⟩, q⟩
  · subst e
    cases r1
    obtain ⟨its, rv, p, hz⟩ := I1.list hq
    refine wpAny_pyIter_list p.isList ?_
    exact ⟨s1.heap.objs.size, [s1.heap.objs.size], _, _, H1, rfl, I1.kept (t' := s1.toks) fun b o e => Heap.get?_push_of_some _ e, turn_list a _, ⟨_, Heap.get?_push_size _ rfl, rfl, rfl⟩, hb, q⟩
  · subst e
    cases r1
    obtain ⟨its, rv, p, hz⟩ := I1.tuple hq
    refine wpAny_pyIter_tuple (show s1.heap.IsTuple a its.toArray from p) ?_
    exact ⟨s1.heap.objs.size, [s1.heap.objs.size], _, _, H1, rfl, I1.kept (t' := s1.toks) fun b o e => Heap.get?_push_of_some _ e, turn_tuple a _, ⟨_, Heap.get?_push_size _ rfl, rfl, rfl⟩, hb, q⟩
theorem i_seq (h : E .e C e pe) : I C tg e (iSeq pe) := by
  obtain ⟨t, h1, h2⟩ := h
  refine ⟨_, pi_seq h1, fun z X H0 H σ env R k o c hp => h2 z X H0 H σ env _ _ o (fun d v H1 e1 r1 hx => ?_) hp⟩
  cases (show Is z _ H1 v d from r1) with
  | lst e n r => exact .inl ⟨_, rfl, ⟨_, SqL.of e⟩, c _ _ H1 e1 (yl_lst e n r) hx⟩
  | tup e n r => exact .inr ⟨_, rfl, ⟨_, SqT.of e⟩, c _ _ H1 e1 (yl_tup e n r) hx⟩
  | _ => exact (show False from hx).elim
/-- what a slot owns is changed no more -/
def frz (i : Nat) (env : List SV) : List SV := match env[i]? with
  | some (.own d) => env.set i (.val d)
  | _ => env
theorem Ok.frz {z : Zn} {X : AP} {H0 H : Hp} {σ : Sl} {env : List SV} (o : Ok z X H0 H σ env) (i : Nat) : Ok z X H0 H σ (frz i env) ∧ Fr z X (Ms z X σ env) H (Ms z X σ (Pu.frz i env)) H := by
  unfold Pu.frz
  split
  · rename_i d hd
    have hl : i < env.length := (List.getElem?_eq_some_iff.mp hd).1
    obtain ⟨a, ha, hc, hz, hx, h0⟩ := o.own i d hd
    have sub : ∀ b, Ms z X σ (env.set i (.val d)) b → Ms z X σ env b ∧ b ≠ a := by
      rintro b (h | h | ⟨j, e, h1, h2⟩)
      · exact ⟨.inl h, fun q => hz (by rw [← q]; exact h)⟩
      · exact ⟨.inr (.inl h), fun q => hx (by rw [← q]; exact h)⟩
      · obtain ⟨hj, h1⟩ := set_own h1
        refine ⟨.inr (.inr ⟨j, e, h1, h2⟩), fun q => hj ?_⟩
        rw [q] at h2
        exact o.inj j i a e d h1 hd h2 ha
    have old : ∀ b u, H b = some u → ¬ Ms z X σ env b → H b = some u ∧ ¬ Ms z X σ (env.set i (.val d)) b := fun b u q n => ⟨q, fun y => n (sub b y).1⟩
    refine ⟨⟨by simp [o.len], o.evo, o.zal, o.xal, fun j e h => ?_, fun j e h => ?_, fun j l b e f h1 h2 h3 h4 => ?_, o.tab⟩, ⟨old, fun _ h => h, fun _ h => h⟩⟩
    · by_cases hj : i = j
      · subst hj
        rw [List.getElem?_set_self hl] at h
        cases h
        exact ⟨_, ha, (hc.gen (fun _ q => q) old fun _ h => h).is fun q => (sub a q).2 rfl⟩
      · rw [List.getElem?_set_ne hj] at h
        obtain ⟨v, h1, h2⟩ := o.val j e h
        exact ⟨v, h1, h2.gen old fun _ h => h⟩
    · obtain ⟨hj, h⟩ := set_own h
      obtain ⟨b, h1, h2, h3⟩ := o.own j e h
      exact ⟨b, h1, h2.gen (fun _ q => q) old fun _ h => h, h3⟩
    · exact o.inj j l b e f (set_own h1).2 (set_own h2).2 h3 h4
  · exact ⟨o, Fr.refl⟩
def sFrz (i : Nat) (p : PSt) : PSt := fun env k => p (frz i env) k
theorem b_frz (i : Nat) {sts : List Stmt} {p : PSt} (h : B fr C sts p) : B fr C sts (sFrz i p) := by
  obtain ⟨t, h1, h2⟩ := h
  refine ⟨t, h1, fun z X H0 H σ env G k o s hp => ?_⟩
  obtain ⟨o2, f2⟩ := o.frz i
  exact h2 z X H0 H σ _ G k o2 (s.go f2) hp
/-- t[::-1] of a list -/
theorem e_revL {kk : Nat} {p1 p2 p3 : Pos} (h : E .c C e pe) : E .f C (.Subscript e (.Slice none none (some (.UnaryOp .USub (.Constant (.int 1) kk p1) p2)) p3) pos) (eUn dRevL pe) := by
  obtain ⟨t, h1, h2⟩ := h
  refine ⟨_, pe_revL h1, fun z X H0 H σ env Q k o c hp => h2 z X H0 H σ env _ _ o (fun d v H1 e1 r1 hx => ?_) hp⟩
  cases d with
  | lst xs =>
    obtain ⟨a, vs, rfl, q1, q2, n⟩ := r1.conL
    exact ⟨a, vs, rfl, SqL.of q1, fun q hq => c _ _ _ (e1.new hq) (Rel.newL (e1.fresh hq) hq q2.reverse) hx⟩
  | _ => exact (show False from hx).elim
end
/-! ### a law by its deck and the rest of its body -/
section
variable {P : Program} {w : World} {K : PySem.W.Frag} {mg : Str → Option Value} {base : Heap}
/-- the deck's promise: a new deck of kind nt -/
def SpDeck (K : PySem.W.Frag) (nt : Nat) : Sp := fun vs H Q _ => ∃ (a : Addr) (ns : List Int), vs = [.ref a] ∧ SqL K H a (ns.map V.int) ∧ ns.length ≤ 63 ∧ ∀ H' dk c, DkF nt H' dk c → Q (.ref dk) H'
def SpLaw (K : PySem.W.Frag) : Sp := fun vs H Q _ => ∃ (a : Addr) (ns : List Int), vs = [.ref a] ∧ SqL K H a (ns.map V.int) ∧ ns.length ≤ 63 ∧ ∀ H', Q (.bl true) H'
def sp_lawT (K : PySem.W.Frag) (tb : List Addr) : Sp := fun vs H Q _ => ∃ (a : Addr) (ns : List Int), vs = [.ref a] ∧ SqL K H a (ns.map V.int) ∧ ns.length ≤ 63 ∧ (∀ P ∈ tb, GxR.TabG H P) ∧ ∀ H', Q (.bl true) H'
/-- the rest of the body, behind the deck's making -/
theorem rest_ok {t : TS} {p : PSt} {nt : Nat} (hnt : nt ≠ 0) (h : RS false t p) {N : List Str} {a dk c : Addr} {H : Hp} (hl : 2 ≤ N.length) (hd : DkF nt H dk c) (hT : Tabs H) {Q : VK} (k : ∀ H', Q (.bl true) H')
    (hp : p (SV.no :: SV.val (.deck nt) :: List.replicate (N.length - 2) SV.no) { nx := fun _ => False, rt := fun d => d = .bl true }) :
    t { nx := fun _ H' => Q .non H', rt := Q } ((L2.start N [V.ref a]).set 1 (some (.ref dk))) H := by
  have hst : (L2.start N [V.ref a]).set 1 (some (.ref dk)) = some (V.ref a) :: some (.ref dk) :: List.replicate (N.length - 2) none := by
    unfold L2.start
    obtain ⟨m, hm⟩ : ∃ m, N.length = m + 2 := ⟨N.length - 2, by omega⟩
    rw [hm]
    simp [List.replicate_succ]
  rw [hst]
  let z : Zn := ⟨dk, c, nt, Option.none⟩
  have zal : ∀ b, z.Z b → H b ≠ none := fun b q => by
    rcases q with ⟨_, q | q⟩ | q
    · rw [q]; exact hd.al.1
    · rw [q]; exact hd.al.2
    · exact hT.at q
  have hrep : ∀ (i : Nat) (d : SV), (SV.no :: SV.val (.deck nt) :: List.replicate (N.length - 2) SV.no)[i]? = some d → d = .no ∨ (i = 1 ∧ d = .val (.deck nt)) := fun i d h => by
    match i, h with
    | 0, h => simp at h; exact .inl h.symm
    | 1, h => simp at h; exact .inr ⟨rfl, h.symm⟩
    | j + 2, h =>
      simp only [List.getElem?_cons_succ, List.getElem?_replicate] at h
      split at h
      · cases h; exact .inl rfl
      · cases h
  have o : Ok z (fun _ => False) H H (some (V.ref a) :: some (.ref dk) :: List.replicate (N.length - 2) none) (SV.no :: SV.val (.deck nt) :: List.replicate (N.length - 2) SV.no) := by
    refine ⟨by simp, Evo.refl _ _, zal, fun _ q => q.elim, fun i d h => ?_, fun i d h => ?_, fun i j b d e h _ _ _ => ?_, hT⟩
    · rcases hrep i _ h with q | ⟨rfl, q⟩
      · cases q
      · cases q
        exact ⟨.ref dk, rfl, Is.deck ⟨rfl, hnt, hd⟩⟩
    · rcases hrep i _ h with q | ⟨rfl, q⟩ <;> cases q
    · rcases hrep i _ h with q | ⟨rfl, q⟩ <;> cases q
  refine h z (fun _ => False) H H _ _ _ { nx := fun _ => False, rt := fun d => d = .bl true } o ⟨fun _ _ _ _ _ q => q.elim, fun d v H' _ r _ q => ?_, fun _ _ _ _ _ q => q.elim, fun _ _ _ _ _ q => q.elim, fun _ _ _ _ _ _ _ q => q.elim⟩ hp
  subst q
  cases r
  exact k H'
/-- the rest of a deck's making, behind the cells' copy: [cells, seed, 0, 0] -/
theorem rest_deck {t : TS} {p : PSt} (h : RS false t p) {N : List Str} {a q : Addr} {H : Hp} {cs : List Int} (hl : 2 ≤ N.length) (hc : H q = some (.lst (cs.map V.int))) (hT : Tabs H) {Q : VK} {R : D → Prop} (k : ∀ H' v d, R d → Is Zn.none (fun _ => False) H' v d → Tabs H' → Q v H')
    (hp : p (SV.no :: SV.val (.lst (cs.map D.int)) :: List.replicate (N.length - 2) SV.no) { nx := fun _ => False, rt := R }) :
    t { nx := fun _ H' => Q .non H', rt := Q } ((L2.start N [V.ref a]).set 1 (some (.ref q))) H := by
  have hst : (L2.start N [V.ref a]).set 1 (some (.ref q)) = some (V.ref a) :: some (.ref q) :: List.replicate (N.length - 2) none := by
    unfold L2.start
    obtain ⟨m, hm⟩ : ∃ m, N.length = m + 2 := ⟨N.length - 2, by omega⟩
    rw [hm]
    simp [List.replicate_succ]
  rw [hst]
  have zz : ∀ b, Zn.none.Z b → b ∈ Tbs.tb := fun b w => w.elim (fun w => absurd rfl w.1) fun w => w
  have zq : ¬ Zn.none.Z q := fun w => by
    obtain ⟨ps, e, _⟩ := hT q (zz q w)
    rw [hc] at e
    cases e
  have hrep : ∀ (i : Nat) (d : SV), (SV.no :: SV.val (.lst (cs.map D.int)) :: List.replicate (N.length - 2) SV.no)[i]? = some d → d = .no ∨ (i = 1 ∧ d = .val (.lst (cs.map D.int))) := fun i d h => by
    match i, h with
    | 0, h => simp at h; exact .inl h.symm
    | 1, h => simp at h; exact .inr ⟨rfl, h.symm⟩
    | j + 2, h =>
      simp only [List.getElem?_cons_succ, List.getElem?_replicate] at h
      split at h
      · cases h; exact .inl rfl
      · cases h
  have hia : ∀ (M : AP) (ns : List Int), IsA Zn.none M H (ns.map V.int) (ns.map D.int) := fun M ns => by
    induction ns with
    | nil => exact .nil
    | cons n ns ih => exact .cons (.int n) ih
  have hms : ¬ Ms Zn.none (fun _ => False) (some (V.ref a) :: some (.ref q) :: List.replicate (N.length - 2) none) (SV.no :: SV.val (.lst (cs.map D.int)) :: List.replicate (N.length - 2) SV.no) q := fun w => by
    rcases w with w | w | ⟨i, d, w, _⟩
    · exact zq w
    · exact w
    · rcases hrep i _ w with q | ⟨_, q⟩ <;> cases q
  have o : Ok Zn.none (fun _ => False) H H (some (V.ref a) :: some (.ref q) :: List.replicate (N.length - 2) none) (SV.no :: SV.val (.lst (cs.map D.int)) :: List.replicate (N.length - 2) SV.no) := by
    refine ⟨by simp, Evo.refl _ _, fun b w => hT.at (zz b w), fun _ q => q.elim, fun i d h => ?_, fun i d h => ?_, fun i j b d e h _ _ _ => ?_, hT⟩
    · rcases hrep i _ h with q | ⟨rfl, q⟩
      · cases q
      · cases q
        exact ⟨.ref _, rfl, Is.lst hc hms (hia _ cs)⟩
    · rcases hrep i _ h with q | ⟨rfl, q⟩ <;> cases q
    · rcases hrep i _ h with q | ⟨rfl, q⟩ <;> cases q
  refine h Zn.none (fun _ => False) H H _ _ _ { nx := fun _ => False, rt := R } o ⟨fun _ _ _ _ _ q => q.elim, fun d v H' ev r _ w => ?_, fun _ _ _ _ _ q => q.elim, fun _ _ _ _ _ q => q.elim, fun _ _ _ _ _ _ _ q => q.elim⟩ hp
  exact k H' v d w (r.gen (fun b o e _ => ⟨e, fun w => w⟩) fun _ w => w) (ev.tab hT)
end
end Pu
namespace Pu
open PySem PySem.Spec PyProof.Rows L2
variable [Tbs]
theorem E.conv {C : Cx} {m : Mode} {e : Expr} {p p' : PX} (h : E m C e p) (f : ∀ env k, p' env k → p env k) : E m C e p' := by
  obtain ⟨t, h1, h2⟩ := h
  exact ⟨t, h1, fun z X H0 H σ env Q k o c hp => h2 z X H0 H σ env Q k o c (f env k hp)⟩
/-- a written power -/
theorem e_powC {C : Cx} {i1 i2 : Nat} {p1 p2 pos : Pos} (b e r : Int) (hc : CPow b e := by exact ⟨by decide, by decide, by decide⟩) (hr : b ^ e.toNat = r := by rfl) : E .e C (.BinOp (.Constant (.int b) i1 p1) .Pow (.Constant (.int e) i2 p2) pos) (eC (.int r)) :=
  (e_op op_pow opd_pow e_int.toB e_int.toB).conv fun env k h => ⟨hc, by show k (.int (b ^ e.toNat)); rw [hr]; exact h⟩
def tPS (fr : Bool) (p : PSt) : TS := fun G σ H => ∃ z X H0 env k, Ok z X H0 H σ env ∧ Sim fr z X H0 (Ms z X σ env) H G k ∧ p env k
theorem B.pss {fr : Bool} {C : Cx} {sts : List Stmt} {p : PSt} (h : B fr C sts p) : PSs C sts (tPS fr p) := by
  obtain ⟨t, h1, h2⟩ := h
  exact ⟨fun pins s σ H G I ⟨z, X, H0, env, k, o, c, hp⟩ => h1.run pins s σ H G I (h2 z X H0 H σ env G k o c hp)⟩
theorem rs_tPS {fr : Bool} {p : PSt} : RS fr (tPS fr p) p := fun z X H0 H σ env G k o c hp => ⟨z, X, H0, env, k, o, c, hp⟩
end Pu

namespace Ew
open PySem PySem.Spec PyProof.Rows L2
variable [Tbs]
section
variable {M : Model} {A : Around} {E : Value → Shared → Prop} {s : Shared} {env : Env}
theorem callT_kwB {pos : Pos} {T : String} {first : List Value} {args : List (Bool × Sem Value)} {keywords : List (Option Str × Sem Value)} {Q : Value → Shared → Prop}
    (hplain : args.any (·.1) = false) (hkw : keywords.any (·.1.isNone) = false)
    (h : wpAny M A (evalArgs (.type T) true args keywords) (fun a s₁ => wpAny M A (call (.type T) (first ++ a.pos) a.kw) Q E s₁) E s) :
    wpAny M A (callWith pos (.type T) first args keywords) Q E s := by
  unfold callWith
  refine wpAny_bind (wpAny_holding (wpAny_mono h (fun a s₁ h₁ => wpAny_bind (wpAny_standAt ?_)) fun _ _ x => x))
  simp only [hplain, hkw, Bool.or_false]
  refine wpAny_bind (wpAny_pure ?_)
  exact wpAny_bind (wpAny_mono h₁ (fun r s₂ hr => wpAny_bind (wpAny_holding (wpAny_point (wpAny_pure hr)))) fun _ _ x => x)
theorem callT_kw {pos : Pos} {T : String} {e : Expr} {rest : List Expr} {kws : List Keyword} {Q : Value → Shared → Prop}
    (h : wpAny M A (spliced (backTo pos (starEach (e :: rest) env))) (fun vs s₁ => wpAny M A (evalAll ((backToKw pos (keywordEach kws env)).map (·.2)))
      (fun kvs s₂ => wpAny M A (call (.type T) vs (((backToKw pos (keywordEach kws env)).filterMap (·.1)).zip kvs)) Q E s₂) E s₁) E s)
    (he : backTo pos (starEach (e :: rest) env) = (false, eval e env) :: backTo pos (starEach rest env))
    (hplain : (backTo pos (starEach (e :: rest) env)).any (·.1) = false)
    (hall : (backToKw pos (keywordEach kws env)).all (·.1.isSome) = true)
    (hkw : (backToKw pos (keywordEach kws env)).any (·.1.isNone) = false) :
    wpAny M A (callWith pos (.type T) [] (backTo pos (starEach (e :: rest) env)) (backToKw pos (keywordEach kws env))) Q E s := by
  refine callT_kwB hplain hkw ?_
  rw [he] at h ⊢
  exact evalArgs_kwB hall h
end
/-- enumerate(t, start=k) over the tuple at t -/
def IteS (K : PySem.W.Frag) (t : Addr) (k : Int) : It :=
  ⟨fun i H => ∃ xs x, SqT K H t xs ∧ xs[i]? = some x, fun i H v H' => ∃ T x, v = .ref T ∧ H T = none ∧ H' = upd H T (.tup [.int (k + (i : Int)), x]) ∧ ∀ xs, SqT K H t xs → xs[i]? = some x, fun i H => ∃ xs, SqT K H t xs ∧ xs.length = i⟩
theorem turn_enumS {P : Program} {w : World} {K : PySem.W.Frag} {elts : List Expr} {kk : Nat} {tpos : Pos} (t e it : Addr) (k : Int) (hte : t ≠ it) (het : e ≠ t) :
    Turn P w K (.Tuple elts kk tpos) (IteS K t k) [e, it] e (fun i h => (∃ old, IsEnum h e it (k + (i : Int)) old) ∧ h.IsTupleIter it t i ∧ e ≠ it) where
  mem := by simp
  obj := fun i h st b hb => by
    obtain ⟨⟨old, he⟩, ⟨o, ho, hc, hd⟩, _⟩ := st
    have e' : b = e ∨ b = it := by simpa using hb
    rcases e' with z | z
    · rw [z]; exact ⟨_, he, fun v q => nomatch q⟩
    · rw [z]; exact ⟨o, ho, fun v q => by rw [hd] at q; cases q⟩
  keep := fun i h h' st kk => let ⟨⟨old, he⟩, hi, hne⟩ := st; ⟨⟨old, kk e (by simp) _ he⟩, hi.at fun o q => kk it (by simp) o q, hne⟩
  item := by
    intro X hP hw hK hc i pins s σ H E I hf st hg
    subst hP hw hK
    obtain ⟨⟨old, he⟩, hit, hne⟩ := st
    obtain ⟨xs, x, hq, hx⟩ := hg
    obtain ⟨its, rv, p, hz⟩ := I.tuple hq
    obtain ⟨u, hu, ru⟩ := rv.get hx
    have hi : i < its.toArray.size := by
      rw [List.size_toArray]
      exact (List.getElem?_eq_some_iff.mp hu).1
    have D := Draws.tuple (prog := X.prog) (w := X.w) (A := X.A.in1) (I.ok.hd hc) it t hte its.toArray
    have G := GoesN.enumFrom (elts := elts) (x1 := kk) (pos := tpos) k D e hne (by intro m; rcases List.mem_cons.mp m with z | z; exact hne z; exact het (List.mem_singleton.mp z)) (by simp)
    refine G.goes i s _ E hi ⟨⟨old, he⟩, hit, p⟩ fun v h' tk hY st' hk htk => ?_
    obtain ⟨T, tt, x', rfl, hT, hx', hTu⟩ := hY
    have ex : x' = u := by
      have q : its.toArray[i]? = some u := by simpa using hu
      rw [q] at hx'
      exact (Option.some.inj hx').symm
    subst ex
    have new : ObjOk X.prog X.w (upd H T (.tup [.int (k + (i : Int)), x])) h' T (.tup [.int (k + (i : Int)), x]) := ⟨by show 2 ≤ sizeLine; decide, [.int (k + (i : Int)) tt, x'], .cons ⟨_, rfl⟩ (.cons ru .nil), hTu⟩
    have I1 := I.turnedNew (t' := tk) (ch := [e, it]) hk hf hT new
    obtain ⟨⟨old', he'⟩, hit', _⟩ := st'
    refine ⟨.ref T, _, I1, rfl, ⟨T, x, rfl, I.hok.fresh hT, rfl, fun ys hy => by rw [I.tuple_inj hy hq]; exact hx⟩, ⟨⟨old', ?_⟩, hit', hne⟩, fun b hb => ?_⟩
    · have e1 : k + ((i + 1 : Nat) : Int) = k + (i : Int) + 1 := by omega
      have e2 : k + ((i : Nat) + 1 : Int) = k + (i : Int) + 1 := by omega
      exact he'
    · have hb' : b < s.heap.objs.size := by
        have e' : b = e ∨ b = it := by simpa using hb
        rcases e' with z | z
        · rw [z]; exact Heap.lt_size he
        · rw [z]; obtain ⟨_, q, _⟩ := hit; exact Heap.lt_size q
      rw [upd_ne (Nat.ne_of_lt (Nat.lt_of_lt_of_le hb' hT))]
      exact (hf b hb).1
  done := by
    intro X hP hw hK hc i pins s σ H E I hf st hg
    subst hP hw hK
    obtain ⟨⟨old, he⟩, hit, hne⟩ := st
    obtain ⟨xs, hq, hx⟩ := hg
    obtain ⟨its, rv, p, hz⟩ := I.tuple hq
    have hl := rv.length
    have hn : i = its.toArray.size := by rw [List.size_toArray]; omega
    subst hn
    have D := Draws.tuple (prog := X.prog) (w := X.w) (A := X.A.in1) (I.ok.hd hc) it t hte its.toArray
    have G := GoesN.enumFrom (elts := elts) (x1 := kk) (pos := tpos) k D e hne (by intro m; rcases List.mem_cons.mp m with z | z; exact hne z; exact het (List.mem_singleton.mp z)) (by simp)
    exact G.stops s _ E ⟨⟨old, he⟩, hit, p⟩ fun h' tk hk htk => I.turnedL (t' := tk) hk hf
  self := fun A i s Q E st h => let ⟨⟨_, he⟩, _⟩ := st; wpAny_pyIter_enum he h
def iEnumS (K : PySem.W.Frag) (ta tk : TA) : TI := fun σ H R => ta σ H fun vs H1 => tk σ H1 fun zs H2 => ∃ (t : Addr) (k : Int) (xs : List V), vs = [.ref t] ∧ zs = [.int k] ∧ SqT K H2 t xs ∧ -(2 ^ 63) ≤ k ∧ k < 2 ^ 63 ∧ R (IteS K t k) H2
theorem pi_enumS {X : Cx} {e : Expr} {kws : List Keyword} {ta tk : TA} {p pos tpos : Pos} {elts : List Expr} {kk : Nat} (hg : Gl X "enumerate") (hm : X.mg "enumerate" = none) (ha : PA X [e] ta) (hk : PK X kws tk)
    (he : backTo pos (starEach [e] X.env) = (false, eval e X.env) :: backTo pos (starEach [] X.env) := by rfl) (hpl : (backTo pos (starEach [e] X.env)).any (·.1) = false := by rfl)
    (hall : (backToKw pos (keywordEach kws X.env)).all (·.1.isSome) = true := by rfl) (hnone : (backToKw pos (keywordEach kws X.env)).any (·.1.isNone) = false := by rfl) (hks : (backToKw pos (keywordEach kws X.env)).filterMap (·.1) = [Str.ofString "start"] := by rfl) :
    PI X (.Tuple elts kk tpos) (.Call (.Name "enumerate" p) [e] kws pos) (iEnumS X.K ta tk) := by
  refine ⟨fun pins s σ H R I h => ?_⟩
  refine wpAny_Call_Name_kw (ld_blt I hg hm boot_enumerate ?_)
  refine callT_kw (thn (ha.run pos pins s σ H _ I h) fun us s1 ⟨vs, H1, I1, r1, q1⟩ => thn (hk.run pos pins s1 σ H1 _ I1 q1) fun ws s2 ⟨zs, H2, I2, r2, q2⟩ => ?_) he hpl hall hnone
  obtain ⟨t, k, xs, ev, ez, hq, k0, k1, q⟩ := q2
  subst ev ez
  rw [hks]
  cases r1 with
  | cons ra rr =>
    cases rr
    cases ra
    cases r2 with
    | cons rb rr2 =>
      cases rr2
      obtain ⟨tok, rfl⟩ := rb
      obtain ⟨its, rv, p', hz⟩ := I2.tuple hq
      refine enum_begins_start (begins_tuple t its.toArray) p' k0 k1 fun h' hen hit hsz hkeep => wpAny_pyIter_enum hen ?_
      have I3 : Inv X pins σ H2 { s2 with heap := h' } := I2.kept (t' := s2.toks) hkeep
      have htl : t < s2.heap.objs.size := by obtain ⟨_, qq, _⟩ := p'; exact Heap.lt_size qq
      refine ⟨s2.heap.objs.size + 1, [s2.heap.objs.size + 1, s2.heap.objs.size], _, _, H2, rfl, I3, turn_enumS t (s2.heap.objs.size + 1) s2.heap.objs.size k (Nat.ne_of_lt htl) (Nat.ne_of_gt (Nat.lt_succ_of_lt htl)), ⟨⟨.none, ?_⟩, ⟨_, hit, rfl, rfl⟩, Nat.succ_ne_self _⟩, fun b hb => ?_, q⟩
      · show IsEnum h' _ _ (k + ((0 : Nat) : Int)) .none
        rw [show k + ((0 : Nat) : Int) = k by omega]
        exact hen
      have e' : b = s2.heap.objs.size + 1 ∨ b = s2.heap.objs.size := by simpa using hb
      have hle : s2.heap.objs.size ≤ b := by
        rcases e' with z | z
        · rw [z]; exact Nat.le_add_right _ _
        · rw [z]; exact Nat.le_refl _
      exact I2.fpOk hle (I2.hok.fresh hle)
/-- the loop: each turn a new pair of start + i and the item -/
theorem for_enumS {K : PySem.W.Frag} {t : Addr} {k : Int} {xs : List V} {g : TG} {tb : TS} {D : Ends} {σ : L2.St} {H : Hp} (Pv : Nat → L2.St → Hp → Prop) (h0 : Pv 0 σ H) (hl : ∀ i σ H, i ≤ xs.length → Pv i σ H → SqT K H t xs)
    (hs : ∀ i x T σ H, xs[i]? = some x → Pv i σ H → H T = none → g (.ref T) σ (upd H T (.tup [.int (k + (i : Int)), x])) fun σ2 H2 => tb { D with nx := Pv (i + 1), ct := Pv (i + 1), bk := D.nx } σ2 H2) (hd : ∀ σ H, Pv xs.length σ H → D.nx σ H) :
    ∃ W : Nat → Nat → L2.St → Hp → Prop, (∃ m, W 0 m σ H) ∧ ∀ i m σ H, W i m σ H →
      ((IteS K t k).stop i H ∧ D.nx σ H) ∨ ((IteS K t k).go i H ∧ ∃ N : L2.St → Hp → Prop, (∀ σ' H', N σ' H' → ∃ m', m' < m ∧ W (i + 1) m' σ' H') ∧ ∀ x H', (IteS K t k).yld i H x H' → g x σ H' fun σ2 H2 => tb { D with nx := N, ct := N, bk := D.nx } σ2 H2) := by
  refine ⟨fun i m σ H => m = xs.length - i ∧ i ≤ xs.length ∧ Pv i σ H, ⟨xs.length, by simp, Nat.zero_le _, h0⟩, ?_⟩
  rintro i m σ H ⟨rfl, hi, p⟩
  have q := hl i σ H hi p
  by_cases hlt : i < xs.length
  · refine .inr ⟨⟨xs, xs[i], q, by simp [hlt]⟩, Pv (i + 1), fun σ' H' p' => ⟨xs.length - (i + 1), by omega, rfl, hlt, p'⟩, fun x H' y => ?_⟩
    obtain ⟨T, x', rfl, hT, rfl, hx⟩ := y
    exact hs i x' T σ H (hx xs q) p hT
  · have e : i = xs.length := by omega
    subst e
    exact .inl ⟨⟨xs, q, rfl⟩, hd σ H p⟩
end Ew

namespace Pu
open PySem PySem.Spec PyProof.Rows L2
variable [Tbs]
section
variable {C : Cx} {e tg : Expr} {p q : PX} {m : Mode} {fr : Bool} {pos pp : Pos}
/-- a statement that is never come to -/
def sNever : PSt := fun _ _ => False
theorem s_never {st : Stmt} : S fr C st sNever := ⟨_, ps_never, fun _ _ _ _ _ _ _ _ _ _ h => h.elim⟩
/-! enumerate -/
def enumD (j : Int) (xs : List D) : List D := (List.range xs.length).map fun i => .tup [.int (j + (i : Nat)), (xs[i]?).getD .non]
theorem enumD_get {j : Int} {xs : List D} {i : Nat} {d : D} (h : (enumD j xs)[i]? = some d) : ∃ x, xs[i]? = some x ∧ d = .tup [.int (j + (i : Nat)), x] := by
  have hl := (List.getElem?_eq_some_iff.mp h).1
  have hi : i < xs.length := by simpa [enumD] using hl
  refine ⟨xs[i], List.getElem?_eq_getElem hi, ?_⟩
  unfold enumD at h
  rw [List.getElem?_map, List.getElem?_range hi] at h
  simp only [Option.map_some, Option.some.injEq] at h
  rw [← h, List.getElem?_eq_getElem hi]
  rfl
theorem enumD_len {j : Int} {xs : List D} : (enumD j xs).length = xs.length := by simp [enumD]
theorem pair_is {z : Zn} {M : AP} {H : Hp} {T : Addr} {x : V} {d : D} {n : Int} (hT : H T = none) (hM : ¬ M T) (h : Is z M H x d) : Is z M (upd H T (.tup [.int n, x])) (.ref T) (.tup [.int n, d]) :=
  .tup upd_same hM (.cons (.int n) (.cons (h.new hT) .nil))
theorem yl_enumS {z : Zn} {X : AP} {M : AP} {H : Hp} {K : PySem.W.Frag} {a : Addr} {vs : List V} {ds : List D} {j : Int} (h : H a = some (.tup vs)) (n : ¬ M a) (r : IsA z M H vs ds) : Yields z X M H (Ew.IteS K a j) (enumD j ds) := fun M' H' f => by
  have h' := (f.old a _ h n).1
  have r' := f.isA r
  have hl := r'.length
  refine ⟨⟨vs, SqT.of h', by rw [hl, enumD_len]⟩, fun i d hd => ?_⟩
  · obtain ⟨x, hx, rfl⟩ := enumD_get hd
    obtain ⟨v, h1, h2⟩ := r'.get hx
    refine ⟨⟨vs, v, SqT.of h', h1⟩, fun y H2 yy => ?_⟩
    obtain ⟨T, x', rfl, hT, rfl, hx'⟩ := yy
    have e := hx' vs (SqT.of h')
    rw [h1] at e
    cases e
    exact ⟨(Evo.refl _ _).new hT, fun _ fm => pair_is hT (fm T hT) h2⟩
theorem yl_enumL {z : Zn} {X : AP} {M : AP} {H : Hp} {K : PySem.W.Frag} {a : Addr} {vs : List V} {ds : List D} (h : H a = some (.lst vs)) (n : ¬ M a) (r : IsA z M H vs ds) : Yields z X M H (Ite K a) (enumD 0 ds) := fun M' H' f => by
  have h' := (f.old a _ h n).1
  have r' := f.isA r
  have hl := r'.length
  refine ⟨⟨vs, SqL.of h', by rw [hl, enumD_len]; exact Nat.le_refl _⟩, fun i d hd => ?_⟩
  · obtain ⟨x, hx, rfl⟩ := enumD_get hd
    obtain ⟨v, h1, h2⟩ := r'.get hx
    refine ⟨⟨vs, v, SqL.of h', h1⟩, fun y H2 yy => ?_⟩
    obtain ⟨T, x', rfl, hT, rfl, hx'⟩ := yy
    have e := hx' vs (SqL.of h')
    rw [h1] at e
    cases e
    rw [show (0 : Int) + (i : Nat) = (i : Nat) from Int.zero_add _]
    exact ⟨(Evo.refl _ _).new hT, fun _ fm => pair_is hT (fm T hT) h2⟩
def enK (d s : D) (k : List D → Prop) : Prop := match d, s with
  | .tup xs, .int j => (-100000 < j ∧ j < 100000) ∧ k (enumD j xs)
  | _, _ => False
def iEnumS (p q : PX) : PIt := fun env k => p env fun d => q env fun s => enK d s k
theorem i_enumS {b : Expr} {nm : Option Str} {kpos tpos : Pos} {elts : List Expr} {kk : Nat} (h : E .e C e p) (g : E m C b q) (hg : Gl C "enumerate") (hm : C.mg "enumerate" = none)
    (he : backTo pos (starEach [e] C.env) = (false, eval e C.env) :: backTo pos (starEach [] C.env) := by rfl) (hpl : (backTo pos (starEach [e] C.env)).any (·.1) = false := by rfl)
    (hall : (backToKw pos (keywordEach [⟨nm, b, kpos⟩] C.env)).all (·.1.isSome) = true := by rfl) (hnone : (backToKw pos (keywordEach [⟨nm, b, kpos⟩] C.env)).any (·.1.isNone) = false := by rfl) (hks : (backToKw pos (keywordEach [⟨nm, b, kpos⟩] C.env)).filterMap (·.1) = [Str.ofString "start"] := by rfl)
    (hs : starEach [e] C.env = (false, eval e C.env) :: starEach [] C.env := by rfl) :
    I C (.Tuple elts kk tpos) (.Call (.Name "enumerate" pp) [e] [⟨nm, b, kpos⟩] pos) (iEnumS p q) := by
  obtain ⟨t, h1, h2⟩ := h
  obtain ⟨u, g1, g2⟩ := g.toB
  refine ⟨_, Ew.pi_enumS hg hm (pa_cons h1 pa_nil hs) (pk_cons g1 pk_nil) he hpl hall hnone hks, fun z X H0 H σ env R k o c hp => h2 z X H0 H σ env _ _ o (fun d v H1 e1 r1 hx => ?_) hp⟩
  refine g2 z X H0 H1 σ env _ _ (o.go e1) (fun s w H2 e2 r2 hx => ?_) hx
  have r1' : Is z (Ms z X σ env) H2 v d := Is.evo (fun _ q => .inl q) e2 r1
  cases r1' with
  | tup e' n r =>
    cases s with
    | int j =>
      cases Is.intI r2
      obtain ⟨⟨j0, j1⟩, hk⟩ := hx
      exact ⟨_, j, _, rfl, rfl, SqT.of e', by omega, by omega, c _ _ H2 (e1.trans e2) (yl_enumS e' n r) hk⟩
    | _ => exact (show False from hx).elim
  | _ => exact (show False from hx).elim
/-- reversed(range(n)) -/
def revD (n : Nat) : List D := (List.range n).map fun i => .int ((n : Int) - 1 - (i : Nat))
theorem revD_get {n i : Nat} {d : D} (h : (revD n)[i]? = some d) : d = .int ((n : Int) - 1 - (i : Nat)) ∧ i < n := by
  have hl := (List.getElem?_eq_some_iff.mp h).1
  have hi : i < n := by simpa [revD] using hl
  refine ⟨?_, hi⟩
  unfold revD at h
  rw [List.getElem?_map, List.getElem?_range hi] at h
  simpa using h.symm
theorem yl_rev {z : Zn} {X : AP} {M : AP} {H : Hp} {n : Nat} : Yields z X M H (Itc (0 + ((n : Nat) : Int) - 1) (-1) n) (revD n) := fun M' H' f => by
  refine ⟨(by show n ≤ (revD n).length; simp [revD]), fun i d hd => ?_⟩
  obtain ⟨rfl, hi⟩ := revD_get hd
  refine ⟨hi, fun x H2 y => ?_⟩
  obtain ⟨rfl, rfl⟩ := y
  refine ⟨Evo.refl _ _, fun _ _ => ?_⟩
  rw [show (0 : Int) + ((n : Nat) : Int) - 1 + ((i : Nat) : Int) * (-1) = (n : Int) - 1 - (i : Nat) by omega]
  exact Is.int _
def rvK (d : D) (k : List D → Prop) : Prop := match d with
  | .int j => (-100000 < j ∧ j < 100000) ∧ k (revD j.toNat)
  | _ => False
def iRev1 (p : PX) : PIt := fun env k => p env fun d => rvK d k
theorem i_rev1 {a : Expr} {p2 pos2 : Pos} (h : E m C a p) (hg : Gl C "reversed") (hm : C.mg "reversed" = none) (hg' : Gl C "range") (hm' : C.mg "range" = none) (na : starEach [a] C.env = (false, eval a C.env) :: starEach [] C.env := by rfl)
    (nb : starEach [.Call (.Name "range" p2) [a] [] pos2] C.env = (false, eval (.Call (.Name "range" p2) [a] [] pos2) C.env) :: starEach [] C.env := by rfl) : I C tg (.Call (.Name "reversed" pp) [.Call (.Name "range" p2) [a] [] pos2] [] pos) (iRev1 p) := by
  obtain ⟨t, h1, h2⟩ := h.toB
  refine ⟨_, pi_revR hg hm (prg_1 hg' hm' h1 na) nb, fun z X H0 H σ env R k o c hp => h2 z X H0 H σ env _ _ o (fun d v H1 e1 r1 hx => ?_) hp⟩
  cases d with
  | int j =>
    cases Is.intI r1
    obtain ⟨hj, hk⟩ := hx
    refine ⟨j, rfl, by omega, by omega, by omega, by omega, c _ _ H1 e1 ?_ hk⟩
    rw [show j - 0 = j by omega]
    exact yl_rev
  | _ => exact (show False from hx).elim
/-- sorted(xs), whole numbers -/
def gSorted : List D → (D → Prop) → Prop := fun ds k => ∃ xs ns, ds = [.lst xs] ∧ intsD xs = some ns ∧ ∀ ms : List Int, ms.Perm ns → ms.Pairwise (· ≤ ·) → k (.lst (ms.map D.int))
theorem cd_sorted {l : Bool} {K : PySem.W.Frag} : CallD l .f (rSortedI K) gSorted := fun z X H0 H σ env vs ds Q k o h c hp => by
  obtain ⟨xs, ns, rfl, hi, hk⟩ := hp
  obtain ⟨a, rfl, ha⟩ := one_ints h hi
  exact ⟨a, ns, rfl, SqL.of ha, fun ms q h1 h2 hq => c _ _ _ ((Evo.refl _ _).new hq) (Rel.newL hq hq (IsA.ofInts ms)) (hk ms h1 h2)⟩
/-- x += e, whole numbers -/
def sAug (i : Nat) (p : PX) : PSt := fun env k => match env[i]? with
  | some (.val (.int a)) => p env fun d => inK d fun b => k.nx (env.set i (.val (.int (a + b))))
  | _ => False
theorem s_aug {i : Nat} {x : Str} {p2 : Pos} (h : E m C e p) (hN : C.N.Nodup) (hi : C.N[i]? = some x) (hx : Loc C.env.scope x) (hf : C.fn x = true ∨ C.env.scope.names.lookup x = some .local := by first | exact .inl rfl | exact .inr rfl | assumption) :
    S fr C (.AugAssign (.Name x p2) .Add e pos) (sAug i p) := by
  obtain ⟨t, h1, h2⟩ := h.toB
  refine ⟨_, ps_aug hN hi hx h1 ip_add hf, fun z X H0 H σ env G k o s hp => ?_⟩
  unfold sAug at hp
  split at hp
  · rename_i a he
    obtain ⟨v, v1, v2⟩ := o.val i _ he
    cases v2
    refine ⟨_, v1, h2 z X H0 H σ env _ _ o (fun d w H1 e1 r1 hx => ?_) hp⟩
    cases d with
    | int b =>
      cases Is.intI r1
      obtain ⟨o2, f2⟩ := (o.go e1).set (i := i) (v := .int (a + b)) (d := .int (a + b)) (.int _)
      exact ⟨a, b, rfl, rfl, s.nx _ _ H1 o2 ((o.fr e1).trans f2) hx⟩
    | _ => exact (show False from hx).elim
  · exact hp.elim
end
end Pu

namespace Ew
open PySem PySem.Spec PyProof.Rows L2
variable [Tbs]
set_option maxHeartbeats 1000000 in
/-- enumerate(v) with no start, of anything that begins so -/
theorem meets_en0 {vv : Value} {ob : Obj} {HH : Heap → Prop} (Bg : Begins vv ob HH) :
    Meets (Builtin.«enumerate.__new__» ⟨[.type "enumerate", vv], []⟩) (fun _ R s => HH s.heap ∧
      R (.ok (.ret (.ref (s.heap.push ob).objs.size))) { s with heap := (s.heap.push ob).push { cls := .type "enumerate", data := .fields #[.none, .bool false, .ref s.heap.objs.size, rawInt 0, .none, .none] } }) :=
  .of_wp fun prg wld Ar Rr st hh => by
    obtain ⟨hp0, g0, d0, tk0, os0⟩ := st; obtain ⟨hh1, hh⟩ := hh
    have hsb := sub_enumerate
    have qq : ∀ {A' : Around} {E : Value → Shared → Prop} {Q : Value → Shared → Prop}, Q (.ref hp0.objs.size) ⟨hp0.push ob, g0, d0, tk0, os0⟩ → wpAny (model prg wld) A' (pyIter vv) Q E ⟨hp0, g0, d0, tk0, os0⟩ :=
      fun q => Bg.iter prg wld _ _ ⟨hp0, g0, d0, tk0, os0⟩ _ hh1 q
    wp_walk using qq
    refine wpAny_stack_any fun st => wpAny_pure ?_
    split
    · rename_i cc _ _ _ _ _
      cases (cc == Value.type "enumerate") <;> (wp_walk using qq; exact ⟨_, rfl, hh⟩)
    · wp_walk using qq
      exact ⟨_, rfl, hh⟩
section
variable {prog : Program} {w : World} {A : Around} {E : Value → Shared → Prop} {s : Shared}
theorem en0_begins {vv : Value} {ob : Obj} {HH : Heap → Prop} {Q : Value → Shared → Prop} (Bg : Begins vv ob HH) (hh1 : HH s.heap)
    (hh : ∀ h', IsEnum h' (s.heap.objs.size + 1) s.heap.objs.size 0 .none → h'.get? s.heap.objs.size = some ob → (∀ b o, s.heap.get? b = some o → h'.get? b = some o) → Q (.ref (s.heap.objs.size + 1)) { s with heap := h' }) :
    wpAny (model prog w) A (call (.type "enumerate") [vv]) Q E s := by
  refine callType_new F.called_enumerate (by decide) (F.typeCall_enumerate_1 _) (F.newCall_enumerate_1 _) (fun obj => F.args_object_init_2 obj _) F.entry_enumerate_new (meets_en0 Bg) ⟨hh1, ?_⟩
  have hsz : (s.heap.push ob).objs.size = s.heap.objs.size + 1 := Heap.size_push ..
  show _ ∧ _
  rw [hsz]
  have hen : IsEnum ((s.heap.push ob).push { cls := .type "enumerate", data := .fields #[.none, .bool false, .ref s.heap.objs.size, rawInt 0, .none, .none] }) (s.heap.objs.size + 1) s.heap.objs.size 0 .none := by
    have th := Heap.get?_push_size (s.heap.push ob) (o := { cls := .type "enumerate", data := .fields #[.none, .bool false, .ref s.heap.objs.size, rawInt 0, .none, .none] }) rfl
    rw [hsz] at th; exact th
  exact ⟨⟨_, hen, rfl⟩, hh _ hen (Heap.get?_push_of_some _ (Heap.get?_push_size _ Bg.free)) fun b o x => Heap.get?_push_of_some _ (Heap.get?_push_of_some _ x)⟩
end
/-- enumerate(x), a list or a tuple -/
def iEn0 (K : PySem.W.Frag) (ta : TA) : TI := fun σ H R => ta σ H fun vs H1 => ∃ (t : Addr) (xs : List V), vs = [.ref t] ∧ ((SqL K H1 t xs ∧ R (Ite K t) H1) ∨ (SqT K H1 t xs ∧ R (IteS K t 0) H1))
theorem pi_en0 {X : Cx} {e : Expr} {ta : TA} {p pos tpos : Pos} {elts : List Expr} {kk : Nat} (hg : Gl X "enumerate") (hm : X.mg "enumerate" = none) (ha : PA X [e] ta) (hs : starEach [e] X.env = [(false, eval e X.env)] := by rfl) :
    PI X (.Tuple elts kk tpos) (.Call (.Name "enumerate" p) [e] [] pos) (iEn0 X.K ta) := by
  refine ⟨fun pins s σ H R I h => ?_⟩
  refine Call_ (ld_blt I hg hm boot_enumerate (PyProof.Rows.callWith_type1 (thn (ha.run pos pins s σ H _ I h) fun us s1 ⟨vs, H1, I1, r1, q1⟩ => ?_) hs rfl))
  obtain ⟨t, xs, ex, q1⟩ := q1
  subst ex
  cases r1 with
  | cons r rr =>
    cases rr
    cases r
    have fp2 : ∀ b, b ∈ [s1.heap.objs.size + 1, s1.heap.objs.size] → FpOk X pins H1 b := fun b hb => by
      have hle : s1.heap.objs.size ≤ b := by
        rcases List.mem_cons.mp hb with z | z
        · rw [z]; exact Nat.le_add_right _ _
        · rw [List.mem_singleton.mp z]; exact Nat.le_refl _
      exact I1.fpOk hle (I1.hok.fresh hle)
    rcases q1 with ⟨hq, q⟩ | ⟨hq, q⟩
    · obtain ⟨its, rv, pl, hz⟩ := I1.list hq
      refine call_enumerate_list pl.isList fun h' hen hit hsz hk => wpAny_pyIter_enum hen ?_
      exact ⟨s1.heap.objs.size + 1, [s1.heap.objs.size + 1, s1.heap.objs.size], _, _, H1, rfl, I1.kept (t' := s1.toks) hk, turn_enum t (s1.heap.objs.size + 1) s1.heap.objs.size, ⟨⟨.none, hen⟩, hit, Nat.succ_ne_self _⟩, fp2, q⟩
    · obtain ⟨its, rv, pl, hz⟩ := I1.tuple hq
      refine en0_begins (begins_tuple t its.toArray) pl fun h' hen hit hk => wpAny_pyIter_enum hen ?_
      have htl : t < s1.heap.objs.size := by obtain ⟨_, qq, _⟩ := pl; exact Heap.lt_size qq
      refine ⟨s1.heap.objs.size + 1, [s1.heap.objs.size + 1, s1.heap.objs.size], _, _, H1, rfl, I1.kept (t' := s1.toks) hk, turn_enumS t (s1.heap.objs.size + 1) s1.heap.objs.size 0 (Nat.ne_of_lt htl) (Nat.ne_of_gt (Nat.lt_succ_of_lt htl)), ⟨⟨.none, ?_⟩, ⟨_, hit, rfl, rfl⟩, Nat.succ_ne_self _⟩, fp2, q⟩
      show IsEnum h' _ _ (0 + ((0 : Nat) : Int)) .none
      rw [show (0 : Int) + ((0 : Nat) : Int) = 0 by omega]
      exact hen
end Ew
namespace Pu
open PySem PySem.Spec PyProof.Rows L2
variable [Tbs]
section
variable {C : Cx} {e tg : Expr} {p q : PX} {m : Mode} {fr : Bool} {pos pp : Pos}
def en0K (d : D) (k : List D → Prop) : Prop := match d with
  | .tup xs => k (enumD 0 xs)
  | .lst xs => k (enumD 0 xs)
  | _ => False
def iEnum0 (p : PX) : PIt := fun env k => p env fun d => en0K d k
theorem i_enum0 {tpos : Pos} {elts : List Expr} {kk : Nat} (h : E .e C e p) (hg : Gl C "enumerate") (hm : C.mg "enumerate" = none) (hs : starEach [e] C.env = [(false, eval e C.env)] := by rfl) (hs2 : starEach [e] C.env = (false, eval e C.env) :: starEach [] C.env := by rfl) :
    I C (.Tuple elts kk tpos) (.Call (.Name "enumerate" pp) [e] [] pos) (iEnum0 p) := by
  obtain ⟨t, h1, h2⟩ := h
  refine ⟨_, Ew.pi_en0 hg hm (pa_cons h1 pa_nil hs2) hs, fun z X H0 H σ env R k o c hp => h2 z X H0 H σ env _ _ o (fun d v H1 e1 r1 hx => ?_) hp⟩
  cases (show Is z _ H1 v d from r1) with
  | lst e n r => exact ⟨_, _, rfl, .inl ⟨SqL.of e, c _ _ H1 e1 (yl_enumL e n r) hx⟩⟩
  | tup e n r => exact ⟨_, _, rfl, .inr ⟨SqT.of e, c _ _ H1 e1 (yl_enumS e n r) hx⟩⟩
  | _ => exact (show False from hx).elim
/-- x.insert(i, e) -/
def sInsert (i : Nat) (pi pe : PX) : PSt := fun env k => match env[i]? with
  | some (.own (.lst xs)) => pi env fun d => pe env fun y => inK d fun n => (0 ≤ n ∧ n < 100000 ∧ xs.length ≤ 100000) ∧ k.nx (env.set i (.own (.lst (xs.take n.toNat ++ [y] ++ xs.drop n.toNat))))
  | _ => False
def rInsert : V → List V → Hp → VK → Prop := fun x vs H Q => ∃ (l : Addr) (xs : List V) (i : Int) (y : V), x = .ref l ∧ vs = [.int i, y] ∧ H l = some (.lst xs) ∧ xs.length < sizeLine ∧ 0 ≤ i ∧ i < 2 ^ 63 ∧ Q .non (upd H l (.lst (xs.take i.toNat ++ [y] ++ xs.drop i.toNat)))
theorem s_insert (i : Nat) {x : Str} {ix : Expr} {apos cpos : Pos} (hi : E m C ix p) (h : E .e C e q) (hN : C.N[i]? = some x := by rfl) (hv : Vis C.env.scope x := by first | exact Or.inl rfl | exact Or.inr (Or.inl rfl) | exact Or.inr (Or.inr rfl)) (hd : (x == ("__debug__" : Str)) = false := by decide)
    (hcd : (x == ("__classdict__" : Str)) = false := by decide)
    (hb : ∀ to t1 t2, PE C (.Name x pp) to → PE C ix t1 → PE C e t2 → PE C (.Call (.Attribute (.Name x pp) "insert" apos) [ix, e] [] cpos) (tBM C.K "list" rInsert to (tCons t1 (tCons t2 tNil))))
    (hs : swapsWith (.Call (.Attribute (.Name x pp) "insert" apos) [ix, e] [] cpos) none pos.line C.env = pure false := by rfl) :
    S fr C (.Expr (.Call (.Attribute (.Name x pp) "insert" apos) [ix, e] [] cpos) pos) (sInsert i p q) := by
  obtain ⟨t1, a1, a2⟩ := hi.toB
  obtain ⟨t2, b1, b2⟩ := h
  refine ⟨_, ps_expr (hb _ _ _ (pe_var hN hv hd hcd) a1 b1) hs, fun z X H0 H σ env G k o s hp => ?_⟩
  unfold sInsert at hp
  split at hp
  · rename_i xs he
    obtain ⟨a, q1, ⟨vs, q5, q6⟩, q3, q4⟩ := o.own i _ he
    refine ⟨_, q1, .inl ⟨rfl, vs, SqL.of q5⟩, a2 z X H0 H σ env _ _ o (fun d v H1 e1 r1 hx => ?_) hp⟩
    refine b2 z X H0 H1 σ env _ _ (o.go e1) (fun y w H2 e2 r2 hx => ?_) hx
    cases d with
    | int n =>
      cases Is.intI r1
      obtain ⟨⟨n0, n1, n2⟩, hk⟩ := hx
      have o2 := (o.go e1).go e2
      have e12 := e1.trans e2
      have q6' := IsA.evo (fun _ q => .inl q) e12 q6
      refine ⟨a, vs, n, w, rfl, rfl, e12.old a _ q5 q3, by rw [q6.length]; exact szl n2, n0, by omega, ?_⟩
      obtain ⟨o3, f3⟩ := mutL o2 he q1 q3 (((q6'.take n.toNat).append (.cons r2 .nil)).append (q6'.drop n.toNat))
      exact s.nx _ _ _ o3 ((o.fr e12).trans f3) hk
    | _ => exact (show False from hx).elim
  · exact hp.elim
end
end Pu

namespace Pu
open PySem PySem.Spec PyProof.Rows L2
variable [Tbs]
/-! min of a list of tuples of whole numbers -/
theorem lex_tr : ∀ {a b c : List Int}, HT.lexLt b a = false → HT.lexLt c b = false → HT.lexLt c a = false
  | [], [], c, _, h => h
  | [], _ :: _, [], _, _ => rfl
  | [], _ :: _, _ :: _, _, _ => rfl
  | _ :: _, [], _, h, _ => by cases h
  | x :: a, y :: b, [], _, h => by cases h
  | x :: a, y :: b, w :: c, h1, h2 => by
    rw [HT.lexLt_cons] at h1 h2 ⊢
    by_cases e1 : y = x
    · subst e1
      rw [if_pos rfl] at h1
      by_cases e2 : w = y
      · subst e2
        rw [if_pos rfl] at h2 ⊢
        exact lex_tr h1 h2
      · rw [if_neg e2] at h2 ⊢
        exact h2
    · rw [if_neg e1] at h1
      have q1 := of_decide_eq_false h1
      by_cases e2 : w = y
      · subst e2
        rw [if_neg e1]
        exact h1
      · rw [if_neg e2] at h2
        have q2 := of_decide_eq_false h2
        rw [if_neg (by omega)]
        exact decide_eq_false (by omega)
theorem lex_irr : ∀ a : List Int, HT.lexLt a a = false
  | [] => rfl
  | x :: a => by rw [HT.lexLt_cons, if_pos rfl]; exact lex_irr a
theorem lex_as : ∀ {a b : List Int}, HT.lexLt a b = true → HT.lexLt b a = false
  | [], [], _ => rfl
  | [], _ :: _, _ => rfl
  | _ :: _, [], h => by cases h
  | x :: a, y :: b, h => by
    rw [HT.lexLt_cons] at h ⊢
    by_cases e : x = y
    · subst e
      rw [if_pos rfl] at h ⊢
      exact lex_as h
    · rw [if_neg e] at h
      have := of_decide_eq_true h
      rw [if_neg (Ne.symm e)]
      exact decide_eq_false (by omega)
theorem argBest_lex (num : Nat → List Int) : ∀ k, argBest (fun i j => HT.lexLt (num i) (num j)) k ≤ k ∧ ∀ j, j ≤ k → HT.lexLt (num j) (num (argBest (fun i j => HT.lexLt (num i) (num j)) k)) = false
  | 0 => ⟨Nat.le_refl _, fun j hj => by
    have : j = 0 := by omega
    subst this
    exact lex_irr _⟩
  | k + 1 => by
    obtain ⟨h1, h2⟩ := argBest_lex num k
    simp only [argBest]
    by_cases hc : HT.lexLt (num (k + 1)) (num (argBest (fun i j => HT.lexLt (num i) (num j)) k)) = true
    · rw [if_pos hc]
      refine ⟨Nat.le_refl _, fun j hj => ?_⟩
      rcases Nat.lt_or_ge j (k + 1) with hlt | hge
      · exact lex_tr (lex_as hc) (h2 j (by omega))
      · have : j = k + 1 := by omega
        subst this
        exact lex_irr _
    · rw [if_neg hc]
      refine ⟨by omega, fun j hj => ?_⟩
      rcases Nat.lt_or_ge j (k + 1) with hlt | hge
      · exact h2 j (by omega)
      · have : j = k + 1 := by omega
        subst this
        exact Bool.not_eq_true _ ▸ hc
def TupsAt (K : PySem.W.Frag) (H : Hp) (xs : List V) (rs : List (List Int)) : Prop := xs.length = rs.length ∧ ∀ (i : Nat) (v : V) (r : List Int), xs[i]? = some v → rs[i]? = some r → ∃ p, v = V.ref p ∧ SqT K H p (r.map V.int)
def rMinTup (K : PySem.W.Frag) : List V → Hp → VK → Prop := fun vs H Q => ∃ (a : Addr) (xs : List V) (rs : List (List Int)), vs = [.ref a] ∧ SqL K H a xs ∧ TupsAt K H xs rs ∧ rs ≠ [] ∧ ∀ (i : Nat) (v : V) (m : List Int), xs[i]? = some v → rs[i]? = some m → (∀ r ∈ rs, HT.lexLt r m = false) → Q v H
theorem vals_at : ∀ {xs : List V} {us : List Value} {i : Nat} {u : Value}, Vals xs us → us[i]? = some u → ∃ v, xs[i]? = some v ∧ RelV v u
  | _, _, _, _, .nil, h => by cases h
  | _, _, 0, _, .cons r _, h => by cases h; exact ⟨_, rfl, r⟩
  | _, _, i + 1, _, .cons _ t, h => vals_at (i := i) t (by simpa using h)
theorem cr_minTup {X : Cx} (hc : X.calm = true) (hu : X.A.units + 64 < cLine) : CallR X (.builtin "min") (rMinTup X.K) := by
  intro pins s σ H vs us Q I r h
  obtain ⟨a, xs, rs, rfl, hs, ⟨hlen, ht⟩, hne, q⟩ := h
  obtain ⟨its, rv, hl, _⟩ := I.list hs
  rw [Vals.ref1 r]
  have hl1 := rv.length
  have hpos : 0 < rs.length := List.length_pos_iff.mpr hne
  refine call_min_walkH (PySem.W.iter_listW (A := X.A.in1) (I.ok.hd hc) hl.isList fun s₂ e W st hfp hw hk => ?_)
  refine ⟨_, _, _, _, _, _, _, s.heap, (fun i j => HT.lexLt (rs.getD i []) (rs.getD j [])), rfl, W, st, hfp, by rw [List.size_toArray]; omega, hw, hk, ?_, fun v s' hP m => ?_⟩
  · intro i j vi vj s' Q' E' hk' hi hj hq
    have at1 : ∀ i vi, its.toArray[i]? = some vi → ∃ p its', vi = .ref p ∧ IsTup s'.heap p its'.toArray ∧ IntsAre its' (rs.getD i []) := fun i vi hi => by
      obtain ⟨v, hv, rl⟩ := vals_at (i := i) (u := vi) rv (by simpa using hi)
      have hil : i < rs.length := by
        rw [← hlen]
        exact (List.getElem?_eq_some_iff.mp hv).1
      obtain ⟨p, rfl, hT⟩ := ht i v _ hv (List.getElem?_eq_getElem hil)
      cases rl
      obtain ⟨its', r1, p1, _⟩ := I.tuple hT
      refine ⟨p, its', rfl, ?_, ?_⟩
      · obtain ⟨o, ho, rest⟩ := p1
        exact ⟨o, hk' _ _ ho, rest⟩
      · rw [List.getD_eq_getElem?_getD, List.getElem?_eq_getElem hil]
        exact Vals.ints r1
    obtain ⟨p, i1, rfl, t1, n1⟩ := at1 i vi hi
    obtain ⟨p', i2, rfl, t2, n2⟩ := at1 j vj hj
    exact HT.lt_tupInts t1 t2 n1 n2 (by show X.A.units + 1 < cLine; omega) hq
  · obtain ⟨h', tk, rfl, hk'⟩ := PySem.W.moved_old e rfl m
    obtain ⟨b1, b2⟩ := argBest_lex (fun i => rs.getD i []) (its.toArray.size - 1)
    have hP' : its[argBest (fun i j => HT.lexLt (rs.getD i []) (rs.getD j [])) (its.toArray.size - 1)]? = some v := by simpa using hP
    obtain ⟨u, hu1, rl⟩ := vals_at rv hP'
    rw [List.size_toArray] at b1 b2 hP' hu1
    generalize argBest (fun i j => HT.lexLt (rs.getD i []) (rs.getD j [])) (its.length - 1) = bi at *
    have hil : bi < rs.length := by omega
    refine ⟨u, H, I.kept hk', rl, q bi u _ hu1 (List.getElem?_eq_getElem hil) fun r hr => ?_⟩
    obtain ⟨j, hj, rfl⟩ := List.getElem_of_mem hr
    have := b2 j (by omega)
    rw [List.getD_eq_getElem?_getD, List.getD_eq_getElem?_getD, List.getElem?_eq_getElem hj, List.getElem?_eq_getElem hil] at this
    exact this
def tI (r : List Int) : D := .tup (r.map D.int)
def gMinTup : List D → (D → Prop) → Prop := fun ds k => ∃ rs : List (List Int), ds = [.lst (rs.map tI)] ∧ rs ≠ [] ∧ ∀ m ∈ rs, (∀ r ∈ rs, HT.lexLt r m = false) → k (tI m)
theorem isa_ints {z : Zn} {M : AP} {H : Hp} : ∀ {vs : List V} {es : List Int}, IsA z M H vs (es.map D.int) → vs = es.map V.int
  | [], [], _ => rfl
  | v :: vs, e :: es, h => by
    cases h with
    | cons h1 h2 =>
      cases h1
      rw [isa_ints h2]
      rfl
theorem cd_minTup {K : PySem.W.Frag} : CallD true .e (rMinTup K) gMinTup := fun z X H0 H σ env vs ds Q k o h c hp => by
  obtain ⟨rs, rfl, hne, hk⟩ := hp
  obtain ⟨v, rfl, hv⟩ := IsA.one h
  cases (show Is z (Ms z X σ env) H v (.lst (rs.map tI)) from hv) with
  | lst e n r =>
    rename_i a us
    have hl := r.length
    rw [List.length_map] at hl
    refine ⟨a, us, rs, rfl, SqL.of e, ⟨hl, fun i u r' hu hr => ?_⟩, hne, fun i u m hu hm hmin => ?_⟩
    · obtain ⟨u', h1, h2⟩ := r.get (i := i) (d := tI r') (by rw [List.getElem?_map, hr]; rfl)
      rw [hu] at h1
      cases h1
      cases (show Is z (Ms z X σ env) H u (.tup (r'.map D.int)) from h2) with
      | tup e' _ r2 => exact ⟨_, rfl, SqT.of (by rw [e', isa_ints r2])⟩
    · obtain ⟨u', h1, h2⟩ := r.get (i := i) (d := tI m) (by rw [List.getElem?_map, hm]; rfl)
      rw [hu] at h1
      cases h1
      exact c _ _ H (Evo.refl _ _) h2 (hk m (List.mem_of_getElem? hm) hmin)
/-! ### expressions that change what a slot owns -/
abbrev PMX := List SV → (List SV → D → Prop) → Prop
abbrev PMA := List SV → (List SV → List D → Prop) → Prop
def RMX (t : TE) (p : PMX) : Prop := ∀ (z : Zn) (X : AP) (H0 H : Hp) (σ : Sl) (env : List SV) (Q : VK) (k : List SV → D → Prop), Ok z X H0 H σ env → (∀ d v H' env', Ok z X H0 H' σ env' → Fr z X (Ms z X σ env) H (Ms z X σ env') H' → Is z (Ms z X σ env') H' v d → k env' d → Q v H') → p env k → t σ H Q
def RMA (t : TA) (p : PMA) : Prop := ∀ (z : Zn) (X : AP) (H0 H : Hp) (σ : Sl) (env : List SV) (Q : List V → Hp → Prop) (k : List SV → List D → Prop), Ok z X H0 H σ env → (∀ ds vs H' env', Ok z X H0 H' σ env' → Fr z X (Ms z X σ env) H (Ms z X σ env') H' → IsA z (Ms z X σ env') H' vs ds → k env' ds → Q vs H') → p env k → t σ H Q
structure MX (C : Cx) (e : Expr) (p : PMX) : Prop where
  ex : ∃ t, PE C e t ∧ RMX t p
structure MA (C : Cx) (es : List Expr) (p : PMA) : Prop where
  ex : ∃ t, PA C es t ∧ RMA t p
section
variable {C : Cx} {fr : Bool} {m : Mode} {e : Expr} {es : List Expr} {p : PX} {pos pp : Pos}
def mE (p : PX) : PMX := fun env k => p env fun d => k env d
def mNil : PMA := fun env k => k env []
def mCons (p : PMX) (q : PMA) : PMA := fun env k => p env fun env1 d => q env1 fun env2 ds => k env2 (d :: ds)
def mLst (q : PMA) : PMX := fun env k => q env fun env1 ds => ds.length ≤ 100000 ∧ k env1 (.lst ds)
def mTup (q : PMA) : PMX := fun env k => q env fun env1 ds => ds.length ≤ 100000 ∧ k env1 (.tup ds)
def sSetM (i : Nat) (p : PMX) : PSt := fun env k => p env fun env1 d => k.nx (env1.set i (.val d))
theorem mx_e (h : E .e C e p) : MX C e (mE p) := by
  obtain ⟨t, h1, h2⟩ := h
  exact ⟨t, h1, fun z X H0 H σ env Q k o c hp => h2 z X H0 H σ env _ _ o (fun d v H1 e1 r1 hx => c d v H1 env (o.go e1) (o.fr e1) r1 hx) hp⟩
theorem ma_nil : MA C [] mNil := ⟨_, pa_nil, fun z X H0 H σ env Q k o c hp => c [] [] H env o ⟨fun _ _ h n => ⟨h, n⟩, fun _ h => h, fun _ h => h⟩ .nil hp⟩
theorem ma_cons {q : PMX} {g : PMA} (h : MX C e q) (hs : MA C es g) (hst : starEach (e :: es) C.env = (false, eval e C.env) :: starEach es C.env := by rfl) : MA C (e :: es) (mCons q g) := by
  obtain ⟨t, h1, h2⟩ := h
  obtain ⟨u, g1, g2⟩ := hs
  refine ⟨_, pa_cons h1 g1 hst, fun z X H0 H σ env Q k o c hp => h2 z X H0 H σ env _ _ o (fun d v H1 env1 o1 f1 r1 hx => g2 z X H0 H1 σ env1 _ _ o1 (fun ds vs H2 env2 o2 f2 r2 hy => c _ _ H2 env2 o2 (f1.trans f2) (.cons (f2.is r1) r2) hy) hx) hp⟩
theorem mx_lst {g : PMA} (h : MA C es g) : MX C (.List es pos) (mLst g) := by
  obtain ⟨t, h1, h2⟩ := h
  refine ⟨_, pe_lst h1, fun z X H0 H σ env Q k o c hp => h2 z X H0 H σ env _ _ o (fun ds vs H1 env1 o1 f1 r1 hx => ⟨by rw [r1.length]; exact sz hx.1, fun q hq => ?_⟩) hp⟩
  have ev : Evo z H1 (upd H1 q (.lst vs)) := (Evo.refl _ _).new hq
  exact c _ _ _ env1 (o1.go ev) (f1.trans (o1.fr ev)) (Is.lst upd_same (fun hz => o1.notMs hq hz) (IsA.new hq r1)) hx.2
theorem mx_tup {x1 : Nat} {g : PMA} (h : MA C es g) : MX C (.Tuple es x1 pos) (mTup g) := by
  obtain ⟨t, h1, h2⟩ := h
  refine ⟨_, pe_tup h1, fun z X H0 H σ env Q k o c hp => h2 z X H0 H σ env _ _ o (fun ds vs H1 env1 o1 f1 r1 hx => ⟨by rw [r1.length]; exact sz hx.1, fun q hq => ?_⟩) hp⟩
  have ev : Evo z H1 (upd H1 q (.tup vs)) := (Evo.refl _ _).new hq
  exact c _ _ _ env1 (o1.go ev) (f1.trans (o1.fr ev)) (Is.tup upd_same (fun hz => o1.notMs hq hz) (IsA.new hq r1)) hx.2
theorem s_setM {i : Nat} {x : Str} {pp : Pos} {q : PMX} (h : MX C e q) (hN : C.N.Nodup) (hi : C.N[i]? = some x) (hx : Loc C.env.scope x) (hs : swapsWith e (some (.Name x pp)) pos.line C.env = pure false := by rfl) (hf : C.fn x = true ∨ C.env.scope.names.lookup x = some .local := by first | exact .inl rfl | exact .inr rfl | assumption) :
    S fr C (.Assign [.Name x pp] e pos) (sSetM i q) := by
  obtain ⟨t, h1, h2⟩ := h
  refine ⟨_, ps_set hN hi hx h1 hs hf, fun z X H0 H σ env G k o s hp => h2 z X H0 H σ env _ _ o (fun d v H1 env1 o1 f1 r1 hx => ?_) hp⟩
  obtain ⟨o2, f2⟩ := o1.set (i := i) r1
  exact s.nx _ _ H1 o2 (f1.trans f2) hx
/-- x.pop(e), x.pop() -/
def mPop (i : Nat) (p : PX) : PMX := fun env k => match env[i]? with
  | some (.own (.lst xs)) => p env fun d => inK d fun n => (-100000 < n ∧ n < 100000) ∧ ∃ jj y, seqIndex? n xs.length = some jj ∧ xs[jj]? = some y ∧ k (env.set i (.own (.lst (xs.eraseIdx jj)))) y
  | _ => False
def mPop0 (i : Nat) : PMX := fun env k => match env[i]? with
  | some (.own (.lst xs)) => ∃ y, xs[xs.length - 1]? = some y ∧ k (env.set i (.own (.lst xs.dropLast))) y
  | _ => False
theorem mx_pop (i : Nat) {x : Str} {apos cpos : Pos} (h : E m C e p)
    (hb : ∀ to te, PE C (.Name x pp) to → PE C e te → PE C (.Call (.Attribute (.Name x pp) "pop" apos) [e] [] cpos) (tBM C.K "list" rPopAt to (tCons te tNil)))
    (hN : C.N[i]? = some x := by rfl) (hv : Vis C.env.scope x := by first | exact Or.inl rfl | exact Or.inr (Or.inl rfl) | exact Or.inr (Or.inr rfl)) (hd : (x == ("__debug__" : Str)) = false := by decide)
    (hcd : (x == ("__classdict__" : Str)) = false := by decide) : MX C (.Call (.Attribute (.Name x pp) "pop" apos) [e] [] cpos) (mPop i p) := by
  obtain ⟨t, h1, h2⟩ := h.toB
  refine ⟨_, hb _ _ (pe_var hN hv hd hcd) h1, fun z X H0 H σ env Q k o c hp => ?_⟩
  unfold mPop at hp
  split at hp
  · rename_i xs he
    obtain ⟨a, q1, ⟨vs, q5, q6⟩, q3, q4⟩ := o.own i _ he
    refine ⟨_, q1, .inl ⟨rfl, vs, SqL.of q5⟩, h2 z X H0 H σ env _ _ o (fun d v H1 e1 r1 hx => ?_) hp⟩
    cases d with
    | int n =>
      cases Is.intI r1
      obtain ⟨hn, jj, yy, g1, g2, hk⟩ := hx
      have o1 := o.go e1
      have q5' := e1.old a _ q5 q3
      have q6' := IsA.evo (fun _ q => .inl q) e1 q6
      obtain ⟨w, w1, w2⟩ := q6'.get g2
      refine ⟨a, vs, n, jj, w, rfl, rfl, q5', by omega, by omega, by rw [q6.length]; exact g1, w1, ?_⟩
      obtain ⟨o2, f2⟩ := mutL o1 he q1 q3 (q6'.eraseIdx jj)
      exact c _ _ _ _ o2 ((o.fr e1).trans f2) (f2.is w2) hk
    | _ => exact (show False from hx).elim
  · exact hp.elim
theorem mx_pop0 (i : Nat) {x : Str} {apos cpos : Pos}
    (hb : ∀ to, PE C (.Name x pp) to → PE C (.Call (.Attribute (.Name x pp) "pop" apos) [] [] cpos) (tBM0 C.K "list" rPop to))
    (hN : C.N[i]? = some x := by rfl) (hv : Vis C.env.scope x := by first | exact Or.inl rfl | exact Or.inr (Or.inl rfl) | exact Or.inr (Or.inr rfl)) (hd : (x == ("__debug__" : Str)) = false := by decide)
    (hcd : (x == ("__classdict__" : Str)) = false := by decide) : MX C (.Call (.Attribute (.Name x pp) "pop" apos) [] [] cpos) (mPop0 i) := by
  refine ⟨_, hb _ (pe_var hN hv hd hcd), fun z X H0 H σ env Q k o c hp => ?_⟩
  unfold mPop0 at hp
  split at hp
  · rename_i xs he
    obtain ⟨a, q1, ⟨vs, q5, q6⟩, q3, q4⟩ := o.own i _ he
    refine ⟨_, q1, .inl ⟨rfl, vs, SqL.of q5⟩, ?_⟩
    obtain ⟨yy, g2, hk⟩ := hp
    obtain ⟨w, w1, w2⟩ := q6.get g2
    have hl := q6.length
    refine ⟨a, vs, w, rfl, rfl, q5, by rw [hl]; exact w1, ?_⟩
    have hdl : IsA z (Ms z X σ env) H vs.dropLast xs.dropLast := by
      rw [List.dropLast_eq_take, List.dropLast_eq_take, hl]
      exact q6.take _
    obtain ⟨o2, f2⟩ := mutL o he q1 q3 hdl
    exact c _ _ _ _ o2 f2 (f2.is w2) hk
  · exact hp.elim
theorem sSeq_setM {i : Nat} {p : PMX} {Q : PSt} {env : List SV} {K : PK'} (h : sSetM i p env { K with nx := fun env' => Q env' K }) : sSeq (sSetM i p) Q env K := h
theorem sSetM_i {i : Nat} {p : PMX} {env : List SV} {K : PK'} (h : p env fun env1 d => K.nx (env1.set i (.val d))) : sSetM i p env K := h
theorem mE_i {p : PX} {env : List SV} {k : List SV → D → Prop} (h : p env fun d => k env d) : mE p env k := h
theorem mNil_i {env : List SV} {k : List SV → List D → Prop} (h : k env []) : mNil env k := h
theorem mCons_i {p : PMX} {q : PMA} {env : List SV} {k : List SV → List D → Prop} (h : p env fun env1 d => q env1 fun env2 ds => k env2 (d :: ds)) : mCons p q env k := h
theorem mLst_i {q : PMA} {env : List SV} {k : List SV → D → Prop} (h : q env fun env1 ds => ds.length ≤ 100000 ∧ k env1 (.lst ds)) : mLst q env k := h
theorem mTup_i {q : PMA} {env : List SV} {k : List SV → D → Prop} (h : q env fun env1 ds => ds.length ≤ 100000 ∧ k env1 (.tup ds)) : mTup q env k := h
theorem mPop_i {i : Nat} {p : PX} {env : List SV} {xs : List D} {k : List SV → D → Prop} (e : env[i]? = some (.own (.lst xs))) (h : p env fun d => inK d fun n => (-100000 < n ∧ n < 100000) ∧ ∃ jj y, seqIndex? n xs.length = some jj ∧ xs[jj]? = some y ∧ k (env.set i (.own (.lst (xs.eraseIdx jj)))) y) : mPop i p env k := by unfold mPop; rw [e]; exact h
theorem mPop0_i {i : Nat} {env : List SV} {xs : List D} {k : List SV → D → Prop} (e : env[i]? = some (.own (.lst xs))) (h : ∃ y, xs[xs.length - 1]? = some y ∧ k (env.set i (.own (.lst xs.dropLast))) y) : mPop0 i env k := by unfold mPop0; rw [e]; exact h
end
/-! ### zip of two lists, of two tuples -/
def zipD (xs ys : List D) : List D := (xs.zip ys).map fun p => .tup [p.1, p.2]
def zipK (d e : D) (k : List D → Prop) : Prop := match d, e with
  | .lst xs, .lst ys => k (zipD xs ys)
  | .tup xs, .tup ys => k (zipD xs ys)
  | _, _ => False
def iZipP (p q : PX) : PIt := fun env k => p env fun d => q env fun e => zipK d e k
theorem zipD_get {xs ys : List D} {i : Nat} {d : D} (h : (zipD xs ys)[i]? = some d) : ∃ x y, xs[i]? = some x ∧ ys[i]? = some y ∧ d = .tup [x, y] := by
  unfold zipD at h
  rw [List.getElem?_map] at h
  cases q : (xs.zip ys)[i]? with
  | none => rw [q] at h; cases h
  | some p =>
    rw [q] at h
    cases h
    obtain ⟨h1, h2⟩ := List.getElem?_zip_eq_some.mp q
    exact ⟨p.1, p.2, h1, h2, rfl⟩
theorem zipD_len {xs ys : List D} : (zipD xs ys).length = min xs.length ys.length := by simp [zipD]
theorem pair2_is {z : Zn} {M : AP} {H : Hp} {T : Addr} {x y : V} {d e : D} (hT : H T = none) (hM : ¬ M T) (h : Is z M H x d) (g : Is z M H y e) : Is z M (upd H T (.tup [x, y])) (.ref T) (.tup [d, e]) :=
  .tup upd_same hM (.cons (h.new hT) (.cons (g.new hT) .nil))
theorem yl_zipL {z : Zn} {X : AP} {M : AP} {H : Hp} {K : PySem.W.Frag} {a b : Addr} {vs us : List V} {ds es : List D} (h : H a = some (.lst vs)) (n : ¬ M a) (r : IsA z M H vs ds) (h2 : H b = some (.lst us)) (n2 : ¬ M b) (r2 : IsA z M H us es) : Yields z X M H (Itz K a b) (zipD ds es) := fun M' H' f => by
  have h' := (f.old a _ h n).1
  have r' := f.isA r
  have h2' := (f.old b _ h2 n2).1
  have r2' := f.isA r2
  have hl := r'.length
  have hl2 := r2'.length
  refine ⟨⟨vs, us, SqL.of h', SqL.of h2', by rw [hl, hl2, zipD_len]; omega⟩, fun i d hd => ?_⟩
  obtain ⟨x, y, hx, hy, rfl⟩ := zipD_get hd
  obtain ⟨v, q1, q2⟩ := r'.get hx
  obtain ⟨u, p1, p2⟩ := r2'.get hy
  refine ⟨⟨vs, us, v, u, SqL.of h', SqL.of h2', q1, p1⟩, fun w H2 yy => ?_⟩
  obtain ⟨T, x', y', rfl, hT, rfl, hx', hy'⟩ := yy
  have e := hx' vs (SqL.of h')
  rw [q1] at e
  cases e
  have e := hy' us (SqL.of h2')
  rw [p1] at e
  cases e
  exact ⟨(Evo.refl _ _).new hT, fun _ fm => pair2_is hT (fm T hT) q2 p2⟩
theorem yl_zipT {z : Zn} {X : AP} {M : AP} {H : Hp} {K : PySem.W.Frag} {a b : Addr} {vs us : List V} {ds es : List D} (h : H a = some (.tup vs)) (n : ¬ M a) (r : IsA z M H vs ds) (h2 : H b = some (.tup us)) (n2 : ¬ M b) (r2 : IsA z M H us es) : Yields z X M H (RZ.ItzT K a b) (zipD ds es) := fun M' H' f => by
  have h' := (f.old a _ h n).1
  have r' := f.isA r
  have h2' := (f.old b _ h2 n2).1
  have r2' := f.isA r2
  have hl := r'.length
  have hl2 := r2'.length
  refine ⟨⟨vs, us, SqT.of h', SqT.of h2', by rw [hl, hl2, zipD_len]; omega⟩, fun i d hd => ?_⟩
  obtain ⟨x, y, hx, hy, rfl⟩ := zipD_get hd
  obtain ⟨v, q1, q2⟩ := r'.get hx
  obtain ⟨u, p1, p2⟩ := r2'.get hy
  refine ⟨⟨vs, us, v, u, SqT.of h', SqT.of h2', q1, p1⟩, fun w H2 yy => ?_⟩
  obtain ⟨T, x', y', rfl, hT, rfl, hx', hy'⟩ := yy
  have e := hx' vs (SqT.of h')
  rw [q1] at e
  cases e
  have e := hy' us (SqT.of h2')
  rw [p1] at e
  cases e
  exact ⟨(Evo.refl _ _).new hT, fun _ fm => pair2_is hT (fm T hT) q2 p2⟩
theorem i_zip {C : Cx} {e e2 : Expr} {p q : PX} {tpos pp pos : Pos} {elts : List Expr} {kk : Nat} (h : E .e C e p) (g : E .e C e2 q) (hg : Gl C "zip") (hm : C.mg "zip" = none) (hs : starEach [e, e2] C.env = (false, eval e C.env) :: starEach [e2] C.env := by rfl) (hs2 : starEach [e2] C.env = (false, eval e2 C.env) :: starEach [] C.env := by rfl)
    (hpl : (backTo pos (starEach [e2] C.env)).any (·.1) = false := by rfl) : I C (.Tuple elts kk tpos) (.Call (.Name "zip" pp) [e, e2] [] pos) (iZipP p q) := by
  obtain ⟨t, h1, h2⟩ := h
  obtain ⟨u, g1, g2⟩ := g
  refine ⟨_, RZ.pi_zipA hg hm (pa_cons h1 (pa_cons g1 pa_nil hs2) hs) hs hpl, fun z X H0 H σ env R k o c hp => h2 z X H0 H σ env _ _ o (fun d v H1 e1 r1 hx => g2 z X H0 H1 σ env _ _ (o.go e1) (fun d2 v2 H2 e2 r2 hy => ?_) hx) hp⟩
  have r1' : Is z (Ms z X σ env) H2 v d := Is.evo (fun _ q => .inl q) e2 r1
  cases r1' with
  | lst a1 n1 b1 =>
    cases (show Is z (Ms z X σ env) H2 v2 d2 from r2) with
    | lst a2 n2 b2 => exact ⟨_, _, _, _, rfl, .inl ⟨SqL.of a1, SqL.of a2, c _ _ H2 (e1.trans e2) (yl_zipL a1 n1 b1 a2 n2 b2) hy⟩⟩
    | _ => exact (show False from hy).elim
  | tup a1 n1 b1 =>
    cases (show Is z (Ms z X σ env) H2 v2 d2 from r2) with
    | tup a2 n2 b2 => exact ⟨_, _, _, _, rfl, .inr ⟨SqT.of a1, SqT.of a2, c _ _ H2 (e1.trans e2) (yl_zipT a1 n1 b1 a2 n2 b2) hy⟩⟩
    | _ => exact (show False from hy).elim
  | _ => exact (show False from hy).elim
theorem iZipP_i {p q : PX} {env : List SV} {k : List D → Prop} (h : p env fun d => q env fun e => zipK d e k) : iZipP p q env k := h
theorem zipK_t {xs ys : List D} {k : List D → Prop} (h : k (zipD xs ys)) : zipK (.tup xs) (.tup ys) k := h
theorem zipK_l {xs ys : List D} {k : List D → Prop} (h : k (zipD xs ys)) : zipK (.lst xs) (.lst ys) k := h
/-! ### sum, max, min of a list or a tuple of whole numbers -/
def rSumA (K : PySem.W.Frag) : List V → Hp → VK → Prop := fun vs H Q => ∃ (a : Addr) (ns : List Int), vs = [V.ref a] ∧ (SqL K H a (ns.map V.int) ∨ SqT K H a (ns.map V.int)) ∧ Q (.int ns.sum) H
theorem cr_sumA {X : Cx} (hc : X.calm = true) : CallR X (.builtin "sum") (rSumA X.K) := by
  intro pins s σ H vs us Q I r h
  obtain ⟨a, ns, rfl, hs, q⟩ := h
  rcases hs with hs | hs
  · exact cr_sum hc pins s σ H _ us Q I r ⟨a, ns, rfl, hs, q⟩
  · obtain ⟨its, rv, ht, _⟩ := I.tuple hs
    rw [Vals.ref1 r]
    have hi : IntsAre its ns := Vals.ints rv
    obtain ⟨xs, e⟩ := hi.allInts.items
    have hn : numsOf (intItems xs).toList = ns := by rw [← e]; exact hi.numsOf
    rw [nums_intItems] at hn
    rw [e] at ht
    refine PySem.W.ktm_sumG (I.ok.hd hc) ht fun h' tk t' hk => ⟨.int ns.sum, H, I.kept hk, ?_, q⟩
    rw [preSum_eq, List.take_of_length_le (by simp), hn]
    exact ⟨_, rfl⟩
def rMaxA (K : PySem.W.Frag) : List V → Hp → VK → Prop := fun vs H Q => ∃ (a : Addr) (ns : List Int), vs = [V.ref a] ∧ (SqL K H a (ns.map V.int) ∨ SqT K H a (ns.map V.int)) ∧ ns ≠ [] ∧ Q (.int (maxI ns)) H
def rMinA (K : PySem.W.Frag) : List V → Hp → VK → Prop := fun vs H Q => ∃ (a : Addr) (ns : List Int), vs = [V.ref a] ∧ (SqL K H a (ns.map V.int) ∨ SqT K H a (ns.map V.int)) ∧ ns ≠ [] ∧ Q (.int (minI ns)) H
theorem dp_ints {K : PySem.W.Frag} {H : Hp} : ∀ ns : List Int, DpAll K H (ns.map V.int) (ns.map PyData.int)
  | [] => .nil
  | n :: ns => .cons (.int n) (dp_ints ns)
theorem alike_ints (ns : List Int) : PySem.W.AlikeAll (ns.map PyData.int) := by
  refine ⟨fun x hx y hy => ?_, fun x hx => ?_⟩
  · obtain ⟨a, _, rfl⟩ := List.mem_map.mp hx
    obtain ⟨b, _, rfl⟩ := List.mem_map.mp hy
    rfl
  · obtain ⟨a, _, rfl⟩ := List.mem_map.mp hx
    intro q
    cases q
theorem depth_ints : ∀ ns : List Int, PyData.depthAll (ns.map PyData.int) ≤ 60
  | [] => by simp [PyData.depthAll]
  | n :: ns => by
    have := depth_ints ns
    simp only [List.map_cons, PyData.depthAll, PyData.depth]
    omega
theorem fold_max (n : Int) : ∀ ns : List Int, ns.foldl max n = maxI (n :: ns) := by
  intro ns
  induction ns generalizing n with
  | nil => rfl
  | cons k r ih =>
    rw [List.foldl_cons, ih]
    show maxI (max n k :: r) = max n (maxI (k :: r))
    cases r with
    | nil => rfl
    | cons a r =>
      show max (max n k) (maxI (a :: r)) = max n (max k (maxI (a :: r)))
      omega
theorem fold_min (n : Int) : ∀ ns : List Int, ns.foldl min n = minI (n :: ns) := by
  intro ns
  induction ns generalizing n with
  | nil => rfl
  | cons k r ih =>
    rw [List.foldl_cons, ih]
    show minI (min n k :: r) = min n (minI (k :: r))
    cases r with
    | nil => rfl
    | cons a r =>
      show min (min n k) (minI (a :: r)) = min n (min k (minI (a :: r)))
      omega
theorem cr_maxA {X : Cx} (hc : X.calm = true) (hu : X.A.units + 64 < cLine) : CallR X (.builtin "max") (rMaxA X.K) := by
  intro pins s σ H vs us Q I r h
  obtain ⟨a, ns, rfl, hs, hne, q⟩ := h
  rcases hs with hs | hs
  · refine cr_max hc pins s σ H _ us Q I r ⟨a, ns, rfl, hs, List.length_pos_iff.mpr hne, fun m h1 h2 => ?_⟩
    rw [maxI_eq h1 h2]
    exact q
  · obtain ⟨its, rv, ht, _⟩ := I.tuple hs
    rw [Vals.ref1 r]
    obtain ⟨n, ns', rfl⟩ : ∃ n ns', ns = n :: ns' := by
      cases ns with
      | nil => exact absurd rfl hne
      | cons n ns' => exact ⟨n, ns', rfl⟩
    obtain ⟨as, ra⟩ := Dp.readsAll I _ _ _ (dp_ints (n :: ns')) rv
    have hd := depth_ints (n :: ns')
    refine PySem.W.max_tuple_data (xs := ns'.map PyData.int) (x := .int n) (I.ok.hd hc) (show s.heap.IsTuple a its.toArray from ht) (by simpa using ra) (alike_ints (n :: ns')) (by have : PyData.depthAll (PyData.int n :: ns'.map PyData.int) ≤ 60 := hd; omega) fun i v h' tk bs hv rd hk => ?_
    rw [PySem.W.maxD_ints, fold_max] at rd
    cases rd
    exact ⟨.int _, H, I.kept hk, ⟨_, rfl⟩, q⟩
theorem cr_minA {X : Cx} (hc : X.calm = true) (hu : X.A.units + 64 < cLine) : CallR X (.builtin "min") (rMinA X.K) := by
  intro pins s σ H vs us Q I r h
  obtain ⟨a, ns, rfl, hs, hne, q⟩ := h
  rcases hs with hs | hs
  · refine cr_min hc pins s σ H _ us Q I r ⟨a, ns, rfl, hs, List.length_pos_iff.mpr hne, fun m h1 h2 => ?_⟩
    rw [minI_eq h1 h2]
    exact q
  · obtain ⟨its, rv, ht, _⟩ := I.tuple hs
    rw [Vals.ref1 r]
    obtain ⟨n, ns', rfl⟩ : ∃ n ns', ns = n :: ns' := by
      cases ns with
      | nil => exact absurd rfl hne
      | cons n ns' => exact ⟨n, ns', rfl⟩
    obtain ⟨as, ra⟩ := Dp.readsAll I _ _ _ (dp_ints (n :: ns')) rv
    have hd := depth_ints (n :: ns')
    refine PySem.W.min_tuple_data (xs := ns'.map PyData.int) (x := .int n) (I.ok.hd hc) (show s.heap.IsTuple a its.toArray from ht) (by simpa using ra) (alike_ints (n :: ns')) (by have : PyData.depthAll (PyData.int n :: ns'.map PyData.int) ≤ 60 := hd; omega) fun i v h' tk bs hv rd hk => ?_
    rw [PySem.W.minD_ints, fold_min] at rd
    cases rd
    exact ⟨.int _, H, I.kept hk, ⟨_, rfl⟩, q⟩
def seqI (d : D) (ns : List Int) : Prop := d = .lst (ns.map D.int) ∨ d = .tup (ns.map D.int)
def gSumA : List D → (D → Prop) → Prop := fun ds k => ∃ d ns, ds = [d] ∧ seqI d ns ∧ k (.int ns.sum)
def gMaxA : List D → (D → Prop) → Prop := fun ds k => ∃ d ns, ds = [d] ∧ seqI d ns ∧ ns ≠ [] ∧ k (.int (maxI ns))
def gMinA : List D → (D → Prop) → Prop := fun ds k => ∃ d ns, ds = [d] ∧ seqI d ns ∧ ns ≠ [] ∧ k (.int (minI ns))
theorem seq_at {z : Zn} {M : AP} {H : Hp} {K : PySem.W.Frag} {vs : List V} {d : D} {ns : List Int} (h : IsA z M H vs [d]) (hd : seqI d ns) : ∃ a, vs = [.ref a] ∧ (SqL K H a (ns.map V.int) ∨ SqT K H a (ns.map V.int)) := by
  obtain ⟨v, rfl, hv⟩ := h.one
  rcases hd with rfl | rfl
  · cases hv with
    | lst e n r => exact ⟨_, rfl, .inl (SqL.of (by rw [e, isa_ints r]))⟩
  · cases hv with
    | tup e n r => exact ⟨_, rfl, .inr (SqT.of (by rw [e, isa_ints r]))⟩
theorem cd_sumA {l : Bool} {K : PySem.W.Frag} : CallD l .e (rSumA K) gSumA := fun z X H0 H σ env vs ds Q k o h c hp => by
  obtain ⟨d, ns, rfl, hd, hk⟩ := hp
  obtain ⟨a, rfl, ha⟩ := seq_at (K := K) h hd
  exact ⟨a, ns, rfl, ha, c _ _ H (Evo.refl _ _) (Is.int _) hk⟩
theorem cd_maxA {l : Bool} {K : PySem.W.Frag} : CallD l .e (rMaxA K) gMaxA := fun z X H0 H σ env vs ds Q k o h c hp => by
  obtain ⟨d, ns, rfl, hd, hne, hk⟩ := hp
  obtain ⟨a, rfl, ha⟩ := seq_at (K := K) h hd
  exact ⟨a, ns, rfl, ha, hne, c _ _ H (Evo.refl _ _) (Is.int _) hk⟩
theorem cd_minA {l : Bool} {K : PySem.W.Frag} : CallD l .e (rMinA K) gMinA := fun z X H0 H σ env vs ds Q k o h c hp => by
  obtain ⟨d, ns, rfl, hd, hne, hk⟩ := hp
  obtain ⟨a, rfl, ha⟩ := seq_at (K := K) h hd
  exact ⟨a, ns, rfl, ha, hne, c _ _ H (Evo.refl _ _) (Is.int _) hk⟩
theorem gSumA_t {ns : List Int} {k : D → Prop} (h : k (.int ns.sum)) : gSumA [.tup (ns.map D.int)] k := ⟨_, ns, rfl, .inr rfl, h⟩
theorem gMaxA_t {ns : List Int} {k : D → Prop} (hn : ns ≠ []) (h : k (.int (maxI ns))) : gMaxA [.tup (ns.map D.int)] k := ⟨_, ns, rfl, .inr rfl, hn, h⟩
theorem gMinA_t {ns : List Int} {k : D → Prop} (hn : ns ≠ []) (h : k (.int (minI ns))) : gMinA [.tup (ns.map D.int)] k := ⟨_, ns, rfl, .inr rfl, hn, h⟩
theorem gMaxA_l {ns : List Int} {k : D → Prop} (hn : ns ≠ []) (h : k (.int (maxI ns))) : gMaxA [.lst (ns.map D.int)] k := ⟨_, ns, rfl, .inl rfl, hn, h⟩
theorem gMinA_l {ns : List Int} {k : D → Prop} (hn : ns ≠ []) (h : k (.int (minI ns))) : gMinA [.lst (ns.map D.int)] k := ⟨_, ns, rfl, .inl rfl, hn, h⟩
/-! ### (x,) * n -/
theorem tuple_mul0 (l : Addr) (items : Array Value) (n : Nat) (dd : Option Addr) (sl : Array (Option Value)) (x : Int) (u : Tok) (c0 : (decide (x < -(2 ^ 63)) || decide (x ≥ 2 ^ 63)) = false) (c1 : (items.isEmpty || x == 1) = false) (c2 : (decide (x ≤ 0) || items.isEmpty) = true) :
    Meets (Builtin.«tuple.__mul__» ⟨[.ref l, .int x u], []⟩) (fun _ R s => s.heap.get? l = some { cls := .type "tuple", dict := dd, data := .seq items n, slots := sl } ∧
      R (.ok (.ret (Value.ref s.heap.objs.size))) { s with heap := s.heap.push { cls := Value.type "tuple", data := Data.seq #[] }, toks := s.toks }) :=
  .of_wp fun prog w A R s h => by
    obtain ⟨hp, g, d, tk, os⟩ := s
    obtain ⟨hl, h⟩ := h
    have f1 := AutoSeq1.idx_int
    wp_walk using wpAny_loadPart' hl
    repeat (first
      | (refine wpAny_ite_false (decide_eq_false (by rw [c0]; exact Bool.false_ne_true)) ?_; wp_walk using wpAny_loadPart' hl)
      | (refine wpAny_ite_false (decide_eq_false (by rw [c1]; exact Bool.false_ne_true)) ?_; wp_walk using wpAny_loadPart' hl)
      | (refine wpAny_ite_true (decide_eq_true c2) ?_; wp_walk using wpAny_loadPart' hl))
    exact ⟨_, rfl, h⟩
def rRepTA (K : PySem.W.Frag) : R2 := fun x y H Q => ∃ l k xs, x = .ref l ∧ y = .int k ∧ SqT K H l xs ∧ xs ≠ [] ∧ (k = 0 ∨ 2 ≤ k) ∧ k ≤ 1000 ∧ xs.length ≤ 1000 ∧ ∀ p, H p = none → Q (.ref p) (upd H p (.tup (List.replicate k.toNat xs).flatten))
theorem op_repTA {X : Cx} : OpR X (binaryOp .Mult) (rRepTA X.K) := by
  intro pins s σ H x y v u Q I rx ry h
  obtain ⟨l, k, xs, rfl, rfl, hT, hne, h1, h2, hz, q⟩ := h
  rcases h1 with rfl | h1
  · cases rx
    obtain ⟨t, rfl⟩ := ry
    obtain ⟨its, r, ⟨⟨cls, dd, data, sl⟩, ho, hc, n, hd⟩, hs⟩ := I.tuple hT
    simp only at hc hd
    subst hc hd
    have hle : its.length = xs.length := r.length.symm
    have hi : its.toArray.isEmpty = false := by
      cases its with
      | nil => exact absurd (List.eq_nil_of_length_eq_zero hle.symm) hne
      | cons a b => rfl
    have c1 : (its.toArray.isEmpty || (0 : Int) == 1) = false := by rw [hi]; rfl
    refine wpAny_binaryOp_repeat_ref (T := "tuple") (U := "int") (by decide) ⟨_, ho, rfl⟩ (fun s' => typeIs_int s' 0 t) noFill_tuple_mul F.fills_int_mul F.slot_int_rmul repeat_tuple F.slot_int_index.lookup
      (call_meets F.slot_int_rmul (typeIs_int s 0 t) F.entry_int_rmul (F.args_int_rmul_2 _ _) (int_rmul_tuple 0 t l its.toArray n dd sl)
        ⟨ho, rfl, ⟨_, ho, rfl⟩, call_meets F.slot_tuple_mul ⟨_, ho, rfl⟩ F.entry_tuple_mul (F.args_tuple_mul_2 _ _) (tuple_mul0 l its.toArray n dd sl 0 t rfl c1 rfl) ⟨ho, ?_⟩⟩)
    refine ⟨.ref s.heap.objs.size, _, I.laid (t' := s.toks) (o := .tup []) (fun b ob q => Heap.get?_push_of_some _ q) (Nat.le_refl _) ?_, rfl, q _ (I.hok.fresh (Nat.le_refl _))⟩
    exact ⟨Nat.zero_le _, [], .nil, IsTup.new _ _⟩
  · exact op_repT pins s σ H _ _ v u Q I rx ry ⟨l, k, xs, rfl, rfl, hT, hne, h1, h2, hz, q⟩
def dRepT : D → D → (D → Prop) → Prop := fun x y k => match x, y with
  | .tup xs, .int i => xs ≠ [] ∧ (i = 0 ∨ 2 ≤ i) ∧ i ≤ 1000 ∧ xs.length ≤ 1000 ∧ k (.tup (List.replicate i.toNat xs).flatten)
  | _, _ => False
theorem opd_repT {K : PySem.W.Frag} : OpD .c .e (rRepTA K) dRepT := fun z X H0 H σ env v u x y Q k o r1 r2 c hp => by
  cases x with
  | tup xs =>
    cases y with
    | int i =>
      obtain ⟨h0, h1, h2, h3, hk⟩ := hp
      obtain ⟨a, vs, rfl, q1, q2, n⟩ := r1.conT
      refine ⟨a, i, vs, rfl, r2.intC, SqT.of q1, fun e => h0 ?_, h1, h2, by rw [q2.length]; exact h3, fun q hq => c _ _ _ ((Evo.refl _ _).new hq) ((Rel.newT hq hq (q2.rep _)).fe o) hk⟩
      have := q2.length
      rw [e] at this
      exact List.eq_nil_of_length_eq_zero this.symm
    | _ => exact (show False from hp).elim
  | _ => exact (show False from hp).elim
end Pu

namespace Pu
open PySem PySem.Spec PyProof.Rows L2
variable [Tbs]
/-! ### dicts by whole numbers, owned -/
def valD (kvs : List (Key × D)) (k : Key) : Option D := (kvs.find? fun kv => decide (kv.1 = k)).map (·.2)
def putD (kvs : List (Key × D)) (k : Key) (d : D) : List (Key × D) :=
  if (kvs.any fun kv => decide (kv.1 = k)) = true then kvs.map (fun kv => if kv.1 = k then (kv.1, d) else kv) else kvs ++ [(k, d)]
section
variable {z : Zn} {M : AP} {H : Hp}
theorem IsK.len : ∀ {vs : List (Key × V)} {ds : List (Key × D)}, IsK z M H vs ds → vs.length = ds.length
  | _, _, .nil => rfl
  | _, _, .cons _ t => congrArg Nat.succ (IsK.len t)
theorem IsK.val (k : Key) : ∀ {vs : List (Key × V)} {ds : List (Key × D)}, IsK z M H vs ds → (valD ds k = none → valV vs k = none) ∧ (∀ d, valD ds k = some d → ∃ v, valV vs k = some v ∧ Is z M H v d)
  | _, _, .nil => ⟨fun _ => rfl, fun d h => by cases h⟩
  | _, _, .cons (k := k') (v := v) (d := d) (vs := vs) (ds := ds) h t => by
    have ih := IsK.val k t
    by_cases e : k' = k
    · rw [valV_pos (p := (k', v)) (r := vs) e, show valD ((k', d) :: ds) k = some d by simp [valD, List.find?_cons, e]]
      refine ⟨fun q => (by cases q), fun d' q => ?_⟩
      cases q
      exact ⟨v, rfl, h⟩
    · rw [valV_neg (p := (k', v)) (r := vs) e, show valD ((k', d) :: ds) k = valD ds k by simp [valD, List.find?_cons, e]]
      exact ih
theorem IsK.any (k : Key) : ∀ {vs : List (Key × V)} {ds : List (Key × D)}, IsK z M H vs ds → (vs.any fun kv => decide (kv.1 = k)) = ds.any fun kv => decide (kv.1 = k)
  | _, _, .nil => rfl
  | _, _, .cons h t => by rw [List.any_cons, List.any_cons, IsK.any k t]
theorem IsK.mapP {k : Key} {v : V} {d : D} (hv : Is z M H v d) : ∀ {vs : List (Key × V)} {ds : List (Key × D)}, IsK z M H vs ds → IsK z M H (vs.map fun kv => if kv.1 = k then (kv.1, v) else kv) (ds.map fun kv => if kv.1 = k then (kv.1, d) else kv)
  | _, _, .nil => .nil
  | _, _, .cons (k := k') h t => by
    rw [List.map_cons, List.map_cons]
    by_cases e : k' = k
    · rw [if_pos e, if_pos e]
      exact .cons hv (IsK.mapP hv t)
    · rw [if_neg e, if_neg e]
      exact .cons h (IsK.mapP hv t)
theorem IsK.snoc {k : Key} {v : V} {d : D} (hv : Is z M H v d) : ∀ {vs : List (Key × V)} {ds : List (Key × D)}, IsK z M H vs ds → IsK z M H (vs ++ [(k, v)]) (ds ++ [(k, d)])
  | _, _, .nil => .cons hv .nil
  | _, _, .cons h t => .cons h (IsK.snoc hv t)
theorem IsK.put {k : Key} {v : V} {d : D} {vs : List (Key × V)} {ds : List (Key × D)} (h : IsK z M H vs ds) (hv : Is z M H v d) : IsK z M H (putK vs k v) (putD ds k d) := by
  unfold putK putD
  rw [h.any k]
  split
  · exact h.mapP hv
  · exact h.snoc hv
end
theorem valD_put {ds : List (Key × D)} {k k' : Key} {d : D} : valD (putD ds k d) k' = if k' = k then some d else valD ds k' := by
  unfold putD
  split
  · rename_i h
    induction ds with
    | nil => cases h
    | cons p ds ih =>
      obtain ⟨a, b⟩ := p
      by_cases e : a = k
      · subst e
        by_cases q : k' = a
        · subst q
          simp [valD, List.find?_cons]
        · have q' : ¬ a = k' := fun w => q w.symm
          have : ∀ l : List (Key × D), valD (l.map fun kv => if kv.1 = a then (kv.1, d) else kv) k' = valD l k' := fun l => by
            induction l with
            | nil => rfl
            | cons p l ih2 =>
              obtain ⟨c, b'⟩ := p
              rw [List.map_cons]
              by_cases w : c = a
              · subst w
                simp [valD, List.find?_cons, q'] at ih2 ⊢
                exact ih2
              · by_cases w2 : c = k'
                · subst w2
                  simp [valD, List.find?_cons, w]
                · simp [valD, List.find?_cons, w, w2] at ih2 ⊢
                  exact ih2
          rw [this, if_neg q]
      · have h' : (ds.any fun kv => decide (kv.1 = k)) = true := by
          rw [List.any_cons, decide_eq_false e, Bool.false_or] at h
          exact h
        have := ih h'
        rw [List.map_cons]
        by_cases w : a = k'
        · subst w
          simp [valD, List.find?_cons, e]
        · simp [valD, List.find?_cons, e, w] at this ⊢
          exact this
  · rename_i h
    have hn : ∀ p ∈ ds, p.1 ≠ k := fun p hp e => h (List.any_eq_true.mpr ⟨p, hp, decide_eq_true e⟩)
    clear h
    induction ds with
    | nil =>
      by_cases q : k' = k
      · subst q; simp [valD, List.find?_cons]
      · have q' : ¬ k = k' := fun w => q w.symm
        simp [valD, List.find?_cons, q, q']
    | cons p ds ih =>
      obtain ⟨a, b⟩ := p
      have e : a ≠ k := hn (a, b) List.mem_cons_self
      have := ih fun p hp => hn p (List.mem_cons_of_mem _ hp)
      by_cases w : a = k'
      · subst w
        simp [valD, List.find?_cons, e]
      · simp [valD, List.find?_cons, w] at this ⊢
        exact this
section
variable {C : Cx} {fr : Bool} {m : Mode} {e a b : Expr} {p q : PX} {pos pp : Pos}
def eDic0 : PX := fun _ k => k (.dic [])
theorem e_dic0 : E .f C (.Dict [] [] pos) eDic0 := ⟨_, pe_dnewK, fun z X H0 H σ env Q k o c hp => fun q hq => c (.dic []) (.ref q) _ ((Evo.refl _ _).new hq) ⟨q, rfl, hq, [], upd_same, .nil⟩ hp⟩
/-- x[i] = e, x a dict -/
def sDput (i : Nat) (pi pe : PX) : PSt := fun env k => pe env fun y => match env[i]? with
  | some (.own (.dic kvs)) => pi env fun d => inK d fun n => kvs.length ≤ 100000 ∧ k.nx (env.set i (.own (.dic (putD kvs (.inl n) y))))
  | _ => False
theorem s_dput (i : Nat) {x : Str} {ix : Expr} {spos : Pos} (hu : C.A.units + 1 < cLine) (he : E .e C e p) (hi : E m C ix q) (hN : C.N[i]? = some x := by rfl) (hv : Vis C.env.scope x := by first | exact Or.inl rfl | exact Or.inr (Or.inl rfl) | exact Or.inr (Or.inr rfl)) (hd : (x == ("__debug__" : Str)) = false := by decide)
    (hcd : (x == ("__classdict__" : Str)) = false := by decide) (hs : swapsWith e (some (.Subscript (.Name x pp) ix spos)) pos.line C.env = pure false := by rfl) : S fr C (.Assign [.Subscript (.Name x pp) ix spos] e pos) (sDput i q p) := by
  obtain ⟨t, h1, h2⟩ := he
  obtain ⟨u, g1, g2⟩ := hi.toB
  refine ⟨_, ps_dput hu (pe_var hN hv hd hcd) g1 h1 hs, fun z X H0 H σ env G k o s hp => ?_⟩
  refine h2 z X H0 H σ env _ _ o (fun y v H1 e1 r1 hx => ?_) hp
  have o1 := o.go e1
  split at hx
  · rename_i kvs hk
    obtain ⟨ad, q1, ⟨vs, q5, q6⟩, q3, q4⟩ := o1.own i _ hk
    refine ⟨_, q1, g2 z X H0 H1 σ env _ _ o1 (fun d w H2 e2 r2 hy => ?_) hx⟩
    cases d with
    | int n =>
      cases Is.intI r2
      obtain ⟨hl, hy⟩ := hy
      have o2 := o1.go e2
      have q5' := e2.old ad _ q5 q3
      have q6' : IsK z (Ms z X σ env) H2 vs kvs := q6.gen (fun b ob qb nb => ⟨e2.old b ob qb fun w => nb (.inl w), nb⟩) e2.dk
      have r1' : Is z (Ms z X σ env) H2 v y := Is.evo (fun _ q => .inl q) e2 r1
      have hlen := q6.len
      refine ⟨ad, _, rfl, DPut.k (k := Sum.inl n) q5' (by rw [hlen, sizeLine_eq]; omega), ?_⟩
      have ia : Ms z X σ env ad := .inr (.inr ⟨i, _, hk, q1⟩)
      obtain ⟨o3, f3⟩ := o2.mut (d' := .dic (putD kvs (.inl n) y)) (o := .dK (putK vs (.inl n) v)) hk q1 ⟨_, upd_same, (q6'.put r1').gen (fun b u hb nb => ⟨by rw [upd_ne (fun w => nb (by rw [w]; exact ia))]; exact hb, nb⟩) fun b hb => ok_mut q3 hb⟩
      exact s.nx _ _ _ o3 ((o.fr (e1.trans e2)).trans f3) hy
    | _ => exact (show False from hy).elim
  · exact hx.elim
/-- x[k], k in x, x an owned dict -/
def dDget : D → D → (D → Prop) → Prop := fun x y k => match x, y with
  | .dic kvs, .int n => ∃ d, valD kvs (.inl n) = some d ∧ k d
  | _, _ => False
def dDin : D → D → (D → Prop) → Prop := fun x y k => match x, y with
  | .int n, .dic kvs => k (.bl (valD kvs (.inl n)).isSome)
  | _, _ => False
theorem Rel.conD {z : Zn} {X : AP} {H H' : Hp} {σ : Sl} {env : List SV} {v : V} {xs : List (Key × D)} (h : Rel .c z X H H' σ env v (.dic xs)) : ∃ a vs, v = .ref a ∧ H' a = some (.dK vs) ∧ IsK z (Ms z X σ env) H' vs xs := by
  rcases h with h | ⟨a, rfl, ⟨vs, e, r⟩, n, md⟩
  · cases h with
    | dic e n r => exact ⟨_, _, rfl, e, r⟩
  · exact ⟨a, vs, rfl, e, r⟩
theorem e_dgetO (hu : C.A.units + 1 < cLine) (ha : E .c C a p) (hb : E .c C b q) (hs : NoSl b := by exact fun _ _ => rfl) : E .e C (.Subscript a b pos) (eOp dDget p q) := by
  obtain ⟨ta, a1, a2⟩ := ha
  obtain ⟨tb, b1, b2⟩ := hb
  refine ⟨_, pe_dget hu a1 b1 hs, fun z X H0 H σ env Q k o c hp => a2 z X H0 H σ env _ _ o (fun x v H1 e1 r1 hp1 => b2 z X H0 H1 σ env _ _ (o.go e1) (fun y u H2 e2 r2 hp2 => ?_) hp1) hp⟩
  have r1' := r1.evo o e2 e1
  cases x with
  | dic kvs =>
    cases y with
    | int n =>
      obtain ⟨d, hd, hk⟩ := hp2
      obtain ⟨ad, vs, rfl, h1, h2⟩ := Rel.conD r1'
      obtain ⟨w, hw, iw⟩ := (h2.val (.inl n)).2 d hd
      cases r2.intC
      exact ⟨ad, w, rfl, hw ▸ DGet.k (k := Sum.inl n) h1, c d w H2 (e1.trans e2) iw hk⟩
    | _ => exact (show False from hp2).elim
  | _ => exact (show False from hp2).elim
theorem t_dinO (hu : C.A.units + 1 < cLine) (ha : E .c C a p) (hb : E .c C b q) (hk : behindInMarks .In b = false := by rfl) : T C (.Compare a [.In] [b] pos) (tOf (eOp dDin p q)) := by
  obtain ⟨ta, a1, a2⟩ := ha
  obtain ⟨tb, b1, b2⟩ := hb
  refine ⟨_, pt_cmp (pc_din hu a1 b1) hk, fun z X H0 H σ env Q k o c hp => a2 z X H0 H σ env _ _ o (fun x v H1 e1 r1 hp1 => b2 z X H0 H1 σ env _ _ (o.go e1) (fun y u H2 e2 r2 hp2 => ?_) hp1) hp⟩
  have r1' := r1.evo o e2 e1
  cases x with
  | int n =>
    cases y with
    | dic kvs =>
      obtain ⟨ad, vs, rfl, h1, h2⟩ := Rel.conD r2
      cases r1'.intC
      have hv := h2.val (.inl n)
      refine ⟨ad, valV vs (.inl n), rfl, DGet.k (k := Sum.inl n) h1, _, rfl, ?_⟩
      have : (valV vs (.inl n)).isSome = (valD kvs (.inl n)).isSome := by
        cases q : valD kvs (.inl n) with
        | none => rw [hv.1 q]; rfl
        | some d =>
          obtain ⟨w, hw, _⟩ := hv.2 d q
          rw [hw]
          rfl
      rw [this]
      exact c _ H2 (e1.trans e2) hp2
    | _ => exact (show False from hp2).elim
  | _ => exact (show False from hp2).elim
theorem dDget_i {kvs : List (Key × D)} {n : Int} {d : D} {k : D → Prop} (e : valD kvs (.inl n) = some d) (h : k d) : dDget (.dic kvs) (.int n) k := ⟨d, e, h⟩
theorem dDin_i {kvs : List (Key × D)} {n : Int} {k : D → Prop} (h : k (.bl (valD kvs (.inl n)).isSome)) : dDin (.int n) (.dic kvs) k := h
theorem eO_d {i : Nat} {env : List SV} {kvs : List (Key × D)} {k : D → Prop} (e : env[i]? = some (.own (.dic kvs))) (h : k (.dic kvs)) : eO i env k := by unfold eO; rw [e]; exact h
theorem sDput_i {i : Nat} {pi pe : PX} {env : List SV} {kvs : List (Key × D)} {K : PK'} (e : env[i]? = some (.own (.dic kvs))) (h : pe env fun y => pi env fun d => inK d fun n => kvs.length ≤ 100000 ∧ K.nx (env.set i (.own (.dic (putD kvs (.inl n) y))))) : sDput i pi pe env K := by
  unfold sDput
  rw [e]
  exact h
end
/-! ### a statement by its reading, between statements by hand -/
theorem S.ps {fr : Bool} {C : Cx} {st : Stmt} {p : PSt} (h : S fr C st p) : PS C st (tPS fr p) := by
  obtain ⟨t, h1, h2⟩ := h
  exact ⟨fun pins s σ H G I ⟨z, X, H0, env, k, o, c, hp⟩ => h1.run pins s σ H G I (h2 z X H0 H σ env G k o c hp)⟩
/-- the second statement of a deck's making, by its reading -/
theorem mid_deck {p : PSt} {n : Nat} {a q : Addr} {H : Hp} {cs : List Int} {G : Ends} (hc : H q = some (.lst (cs.map V.int))) (hT : Tabs H)
    (k : ∀ (σ' : Sl) H' b s, σ'[1]? = some (some (V.ref b)) → H' b = some (.lst (cs.map V.int)) → σ'[2]? = some (some (V.int s)) → Tabs H' → G.nx σ' H')
    (hp : p (SV.no :: SV.val (.lst (cs.map D.int)) :: List.replicate n SV.no) { nx := fun env => ∃ s : Int, env[1]? = some (.val (.lst (cs.map D.int))) ∧ env[2]? = some (.val (.int s)), rt := fun _ => False }) :
    tPS false p G (some (V.ref a) :: some (.ref q) :: List.replicate n none) H := by
  have zz : ∀ b, Zn.none.Z b → b ∈ Tbs.tb := fun b w => w.elim (fun w => absurd rfl w.1) fun w => w
  have zq : ¬ Zn.none.Z q := fun w => by
    obtain ⟨ps, e, _⟩ := hT q (zz q w)
    rw [hc] at e
    cases e
  have hrep : ∀ (i : Nat) (d : SV), (SV.no :: SV.val (.lst (cs.map D.int)) :: List.replicate n SV.no)[i]? = some d → d = .no ∨ (i = 1 ∧ d = .val (.lst (cs.map D.int))) := fun i d h => by
    match i, h with
    | 0, h => simp at h; exact .inl h.symm
    | 1, h => simp at h; exact .inr ⟨rfl, h.symm⟩
    | j + 2, h =>
      simp only [List.getElem?_cons_succ, List.getElem?_replicate] at h
      split at h
      · cases h; exact .inl rfl
      · cases h
  have hia : ∀ (M : AP) (ns : List Int), IsA Zn.none M H (ns.map V.int) (ns.map D.int) := fun M ns => by
    induction ns with
    | nil => exact .nil
    | cons n ns ih => exact .cons (.int n) ih
  have hms : ¬ Ms Zn.none (fun _ => False) (some (V.ref a) :: some (.ref q) :: List.replicate n none) (SV.no :: SV.val (.lst (cs.map D.int)) :: List.replicate n SV.no) q := fun w => by
    rcases w with w | w | ⟨i, d, w, _⟩
    · exact zq w
    · exact w
    · rcases hrep i _ w with q | ⟨_, q⟩ <;> cases q
  refine ⟨Zn.none, fun _ => False, H, _, { nx := fun env => ∃ s : Int, env[1]? = some (.val (.lst (cs.map D.int))) ∧ env[2]? = some (.val (.int s)), rt := fun _ => False }, ⟨by simp, Evo.refl _ _, fun b w => hT.at (zz b w), fun _ q => q.elim, fun i d h => ?_, fun i d h => ?_, fun i j b d e h _ _ _ => ?_, hT⟩, ⟨fun env' σ' H' o _ hx => ?_, fun _ _ _ _ _ _ q => q.elim, fun _ _ _ _ _ q => q.elim, fun _ _ _ _ _ q => q.elim, fun _ _ _ _ _ _ _ q => q.elim⟩, hp⟩
  · rcases hrep i _ h with q | ⟨rfl, q⟩
    · cases q
    · cases q
      exact ⟨.ref _, rfl, Is.lst hc hms (hia _ cs)⟩
  · rcases hrep i _ h with q | ⟨rfl, q⟩ <;> cases q
  · rcases hrep i _ h with q | ⟨rfl, q⟩ <;> cases q
  · obtain ⟨s, h1, h2⟩ := hx
    obtain ⟨v, q1, q2⟩ := o.val 1 _ h1
    obtain ⟨u, p1, p2⟩ := o.val 2 _ h2
    cases p2
    cases q2 with
    | lst e _ r => exact k σ' H' _ s q1 (by rw [e, isa_ints r]) p1 o.tab
theorem isa_of {z : Zn} {M : AP} {H : Hp} (A : List Int) : IsA z M H (A.map V.int) (A.map D.int) := by
  induction A with
  | nil => exact .nil
  | cons a A ih => exact .cons (.int a) ih
/-! ### sorted(set(t)), t a tuple of whole numbers -/
theorem pigeon : ∀ (b : Nat) (l : List Int), l.Nodup → (∀ x ∈ l, 0 ≤ x ∧ x < (b : Int)) → l.length ≤ b
  | 0, l, _, h => by
    cases l with
    | nil => exact Nat.le_refl _
    | cons x l => have := h x List.mem_cons_self; omega
  | b + 1, l, nd, h => by
    by_cases q : (b : Int) ∈ l
    · have e := List.length_erase_of_mem q
      have := pigeon b (l.erase b) (nd.erase _) fun x hx => by
        have h1 := (List.Nodup.mem_erase_iff nd).mp hx
        have h2 := h x h1.2
        have h3 := h1.1
        omega
      omega
    · have := pigeon b l nd fun x hx => by
        have h2 := h x hx
        have h3 : x ≠ b := fun e => q (by rw [← e]; exact hx)
        omega
      omega
def rSetTup (K : PySem.W.Frag) (w : World) : List V → Hp → VK → Prop := fun xs H Q => ∃ (l : Addr) (ns : List Int), xs = [.ref l] ∧ SqT K H l (ns.map V.int) ∧ ns.length ≤ 1000 ∧ (∀ x ∈ ns, 0 ≤ x ∧ x < 60) ∧ ∀ a n, H a = none → n ≤ 60 → Q (.ref a) (upd H a (SetO w a (fun j => decide (j ∈ ns)) n))
theorem cr_setTup {X : Cx} (hc : X.calm = true) : CallR X (.type "set") (rSetTup X.K X.w) := by
  intro pins s σ H xs us Q I r h
  obtain ⟨l, ns, rfl, hT, hl, hns, q⟩ := h
  obtain ⟨its, rv, ht, _⟩ := I.tuple hT
  rw [Vals.ref1 r]
  have hi : IntsAre its ns := Vals.ints rv
  refine call_set_tupI ns (I.ok.hd hc) (show s.heap.IsTuple l its.toArray from ht) (by simpa using hi) (by unfold scanBound; omega) fun h' tk cnt R hle hk => ?_
  refine ⟨.ref _, upd H s.heap.objs.size (SetO X.w s.heap.objs.size (fun j => decide (j ∈ ns)) cnt), I.laid (t' := tk) hk (Nat.le_refl _) (setO_new R), rfl, q _ cnt (I.hok.fresh (Nat.le_refl _)) ?_⟩
  obtain ⟨ob, es, ep, t, _, _, _, _, nd, mem, _, _, hn, _⟩ := R
  have hk2 : (es.toList.map keyOf).length ≤ 60 := pigeon 60 _ nd fun x hx => hns x (of_decide_eq_true ((mem x).mpr hx))
  rw [List.length_map, Array.length_toList, hn] at hk2
  exact hk2
def dSortSet : D → (D → Prop) → Prop := fun d k => ∃ ns : List Int, d = .tup (ns.map D.int) ∧ ns.length ≤ 1000 ∧ (∀ x ∈ ns, 0 ≤ x ∧ x < 60) ∧ ∀ ms : List Int, ms.Pairwise (· < ·) → (∀ x, x ∈ ms ↔ x ∈ ns) → k (.lst (ms.map D.int))
theorem e_sortSet {C : Cx} {e : Expr} {p : PX} {p1 p2 q1 q2 : Pos} (h : E .e C e p) (hc : C.calm = true) (hg : Gl C "sorted") (hm : C.mg "sorted" = none) (hg2 : Gl C "set") (hm2 : C.mg "set" = none)
    (hs1 : starEach [e] C.env = (false, eval e C.env) :: starEach [] C.env := by rfl) (hs2 : starEach [.Call (.Name "set" p2) [e] [] q2] C.env = (false, eval (.Call (.Name "set" p2) [e] [] q2) C.env) :: starEach [] C.env := by rfl) :
    E .f C (.Call (.Name "sorted" p1) [.Call (.Name "set" p2) [e] [] q2] [] q1) (eUn dSortSet p) := by
  obtain ⟨t, h1, h2⟩ := h
  refine ⟨_, pe_callB (cr_sortedSet hc) hg hm (by decide +kernel) (pa_cons (pe_callTy (cr_setTup hc) hg2 hm2 (by decide +kernel) (pa_cons h1 pa_nil hs1) (he := hs1)) pa_nil hs2) (he := hs2), fun z X H0 H σ env Q k o c hp => h2 z X H0 H σ env _ _ o (fun d v H1 e1 r1 hx => ?_) hp⟩
  obtain ⟨ns, rfl, h64, hns, hk⟩ := hx
  cases (show Is z (Ms z X σ env) H1 v (.tup (ns.map D.int)) from r1) with
  | tup e' n' r' =>
    rename_i l vs
    refine ⟨l, ns, rfl, SqT.of (by rw [e', isa_ints r']), h64, hns, fun a n ha hn => ?_⟩
    refine ⟨a, _, n, rfl, upd_same, by omega, fun ms q hms hmem _ hq => ?_⟩
    have e2 := e1.new (o := SetO C.w a (fun j => decide (j ∈ ns)) n) ha
    refine c _ _ _ (e2.new hq) (Rel.newL (e2.fresh hq) hq (isa_of ms)) (hk ms hms fun x => ?_)
    rw [hmem, decide_eq_true_eq]
end Pu

namespace Pu
open PySem PySem.Spec PyProof.Rows L2
variable [Tbs]
/-! ### going through a reading, step by step -/
section
variable {env : List SV} {k : D → Prop} {K : PK'} {p q r : PX} {s t : PTs'} {P Q : PSt} {d : D} {ds xs ys : List D} {i n : Nat} {a b c : Int} {g : PAs}
theorem sSeq_i (h : P env { K with nx := fun env' => Q env' K }) : sSeq P Q env K := h
theorem sSeq_mid (Mid : List SV → Prop) (h : ∀ N : List SV → Prop, (∀ e, Mid e → N e) → P env { K with nx := N }) (h2 : ∀ e, Mid e → Q e K) : sSeq P Q env K := h _ h2
theorem sSeq_set (h : sSet i p env { K with nx := fun env' => Q env' K }) : sSeq (sSet i p) Q env K := h
theorem sSeq_own (h : sOwn i p env { K with nx := fun env' => Q env' K }) : sSeq (sOwn i p) Q env K := h
theorem sSeq_asg {gt : PGt} (h : sAsg p gt env { K with nx := fun env' => Q env' K }) : sSeq (sAsg p gt) Q env K := h
theorem sSeq_par {j : Nat} (h : sPar i j g env { K with nx := fun env' => Q env' K }) : sSeq (sPar i j g) Q env K := h
theorem sSeq_app (h : sAppend i p env { K with nx := fun env' => Q env' K }) : sSeq (sAppend i p) Q env K := h
theorem sSeq_put (h : sPut i p q env { K with nx := fun env' => Q env' K }) : sSeq (sPut i p q) Q env K := h
theorem sSeq_pop {j : Nat} (h : sPopAt j i p env { K with nx := fun env' => Q env' K }) : sSeq (sPopAt j i p) Q env K := h
theorem sSeq_drop (h : sDrop p env { K with nx := fun env' => Q env' K }) : sSeq (sDrop p) Q env K := h
theorem sSeq_for {it : PIt} {gt : PGt} (h : sFor it gt P env { K with nx := fun env' => Q env' K }) : sSeq (sFor it gt P) Q env K := h
theorem sSeq_ifr (h : sIf s (sRet p) sNext env { K with nx := fun env' => Q env' K }) : sSeq (sIf s (sRet p) sNext) Q env K := h
theorem sSeq_ifn (h : sIf s sRetN sNext env { K with nx := fun env' => Q env' K }) : sSeq (sIf s sRetN sNext) Q env K := h
theorem sNext_i (h : K.nx env) : sNext env K := h
theorem sSet_i (h : p env fun d => K.nx (env.set i (.val d))) : sSet i p env K := h
theorem sOwn_i (h : p env fun d => i < env.length ∧ K.nx (env.set i (.own d))) : sOwn i p env K := h
theorem sRet_i (h : p env K.rt) : sRet p env K := h
theorem sRetO_i (e : env[i]? = some (.own d)) (h : K.rt d) : sRetO i env K := by unfold sRetO; rw [e]; exact h
theorem sRetN_i (h : K.rt .non) : sRetN env K := h
theorem sDrop_i (h : p env fun _ => K.nx env) : sDrop p env K := h
theorem sIf_i (h : s env fun b => if b = true then P env K else Q env K) : sIf s P Q env K := h
theorem sAsg_i {gt : PGt} (h : p env fun d => gt d env K.nx) : sAsg p gt env K := h
theorem sPar_i {j : Nat} (h : g env fun ds => prK ds fun c d => K.nx ((env.set i (.val c)).set j (.val d))) : sPar i j g env K := h
theorem prK_i {e : D} {k : D → D → Prop} (h : k d e) : prK [d, e] k := h
theorem nx_i {f f' f'' : List SV → Prop} {g : D → Prop} (h : f env) : PK'.nx { nx := f, rt := g, bk := f', ct := f'' } env := h
theorem bk_i {f f' f'' : List SV → Prop} {g : D → Prop} (h : f' env) : PK'.bk { nx := f, rt := g, bk := f', ct := f'' } env := h
theorem ct_i {f f' f'' : List SV → Prop} {g : D → Prop} (h : f'' env) : PK'.ct { nx := f, rt := g, bk := f', ct := f'' } env := h
theorem rt_i {f f' f'' : List SV → Prop} {g : D → Prop} (h : g d) : PK'.rt { nx := f, rt := g, bk := f', ct := f'' } d := h
theorem blK_i {b : Bool} {k : Bool → Prop} (h : k b) : blK (.bl b) k := h
theorem inK_i {k : Int → Prop} (h : k a) : inK (.int a) k := h
theorem sqK_t {k : List D → Prop} (h : k xs) : sqK (.tup xs) k := h
theorem sqK_l {k : List D → Prop} (h : k xs) : sqK (.lst xs) k := h
theorem sFrz_i (e : env[i]? = some (.own d)) (h : P (env.set i (.val d)) K) : sFrz i P env K := by unfold sFrz frz; rw [e]; exact h
theorem sFor_i {it : PIt} {gt : PGt} (h : it env fun ds => forP gt P ds env K) : sFor it gt P env K := h
theorem sAppend_i (e : env[i]? = some (.own (.lst xs))) (h : p env fun d => xs.length ≤ 100000 ∧ K.nx (env.set i (.own (.lst (xs ++ [d]))))) : sAppend i p env K := by unfold sAppend; rw [e]; exact h
theorem eC_i (h : k d) : eC d env k := h
theorem eV_i (e : env[i]? = some (.val d)) (h : k d) : eV i env k := by unfold eV; rw [e]; exact h
theorem eO_i (e : env[i]? = some (.own (.lst xs))) (h : k (.lst xs)) : eO i env k := by unfold eO; rw [e]; exact h
theorem eOp_i {o : D → D → (D → Prop) → Prop} (h : p env fun x => q env fun y => o x y k) : eOp o p q env k := h
theorem eUn_i {o : D → (D → Prop) → Prop} (h : p env fun x => o x k) : eUn o p env k := h
theorem eChain_i {o o' : D → D → (D → Prop) → Prop} (h : p env fun x => q env fun y => o x y fun w => bCase w (r env fun u => o' y u k) (k (.bl false))) : eChain o o' p q r env k := h
theorem bCase_i {c : Bool} {A B : Prop} (h1 : c = true → A) (h2 : c = false → B) : bCase (.bl c) A B := by
  cases c with
  | true => exact h1 rfl
  | false => exact h2 rfl
theorem bCase_d {c : Prop} [Decidable c] {A B : Prop} (h1 : c → A) (h2 : ¬ c → B) : bCase (.bl (decide c)) A B := bCase_i (fun e => h1 (of_decide_eq_true e)) fun e => h2 (of_decide_eq_false e)
theorem bCase_t {A B : Prop} (h : A) : bCase (.bl true) A B := h
theorem bCase_f {A B : Prop} (h : B) : bCase (.bl false) A B := h
theorem eAnd_i (h : p env fun x => bCase x (q env k) (k (.bl false))) : eAnd p q env k := h
theorem eOr_i (h : p env fun x => bCase x (k (.bl true)) (q env k)) : eOr p q env k := h
theorem eIf_i (h : s env fun x => if x = true then p env k else q env k) : eIf s p q env k := h
theorem eTup_i (h : g env fun xs => xs.length ≤ 100000 ∧ k (.tup xs)) : eTup g env k := h
theorem eLst_i (h : g env fun xs => xs.length ≤ 100000 ∧ k (.lst xs)) : eLst g env k := h
theorem eCall_i {o : List D → (D → Prop) → Prop} (h : g env fun ds => o ds k) : eCall o g env k := h
theorem aNil_i {k : List D → Prop} (h : k []) : aNil env k := h
theorem aCons_i {k : List D → Prop} (h : p env fun x => g env fun xs => k (x :: xs)) : aCons p g env k := h
theorem tOf_i {k : Bool → Prop} (h : p env fun d => blK d k) : tOf p env k := h
theorem tAndP_i {k : Bool → Prop} (h : s env fun x => if x = true then t env k else k false) : tAndP s t env k := h
theorem tOrP_i {k : Bool → Prop} (h : s env fun x => if x = true then k true else t env k) : tOrP s t env k := h
theorem tNotP_i {k : Bool → Prop} (h : s env fun x => k (!x)) : tNotP s env k := h
theorem dI0_i {f : Int → Int → D} (h : k (f a b)) : dI0 f (.int a) (.int b) k := h
theorem dII_i {C : Int → Int → Prop} {f : Int → Int → D} (c : C a b) (h : k (f a b)) : dII C f (.int a) (.int b) k := ⟨c, h⟩
theorem dAdd_i (h : k (.int (a + b))) : dAdd (.int a) (.int b) k := h
theorem dAdd_t (hl : xs.length + ys.length ≤ 100000) (h : k (.tup (xs ++ ys))) : dAdd (.tup xs) (.tup ys) k := ⟨hl, h⟩
theorem dAdd_l (hl : xs.length + ys.length ≤ 100000) (h : k (.lst (xs ++ ys))) : dAdd (.lst xs) (.lst ys) k := ⟨hl, h⟩
theorem dIx_t (e : atI xs a = some d) (h : k d) : dIx (.tup xs) (.int a) k := ⟨d, e, h⟩
theorem dIx_l (e : atI xs a = some d) (h : k d) : dIx (.lst xs) (.int a) k := ⟨d, e, h⟩
theorem dIx_in (h0 : 0 ≤ a) (h1 : a < xs.length) (h : ∀ d ∈ xs, k d) : dIx (.lst xs) (.int a) k := by
  have hl : a.toNat < xs.length := by omega
  refine ⟨xs[a.toNat], ?_, h _ (List.getElem_mem hl)⟩
  unfold atI ixN
  rw [if_pos h0, if_pos h1]
  exact List.getElem?_eq_getElem hl
theorem dIx_at (h0 : 0 ≤ a) (h1 : a < xs.length) (h : ∀ d, xs[a.toNat]? = some d → k d) : dIx (.lst xs) (.int a) k := by
  have hl : a.toNat < xs.length := by omega
  refine ⟨xs[a.toNat], ?_, h _ (List.getElem?_eq_getElem hl)⟩
  unfold atI ixN
  rw [if_pos h0, if_pos h1]
  exact List.getElem?_eq_getElem hl
theorem dIx_atT (h0 : 0 ≤ a) (h1 : a < xs.length) (h : ∀ d, xs[a.toNat]? = some d → k d) : dIx (.tup xs) (.int a) k := dIx_at h0 h1 h
theorem dNeg_i (h : k (.int (-a))) : dNeg (.int a) k := h
theorem dNot_i {c : Bool} (h : k (.bl (!c))) : dNot (.bl c) k := h
theorem dTuple_l (h : k (.tup xs)) : dTuple (.lst xs) k := h
theorem dTuple_t (h : k (.tup xs)) : dTuple (.tup xs) k := h
theorem dList_l (h : k (.lst xs)) : dList (.lst xs) k := h
theorem dList_t (h : k (.lst xs)) : dList (.tup xs) k := h
theorem dRevT_i (hn : xs ≠ []) (h : k (.tup xs.reverse)) : dRevT (.tup xs) k := ⟨hn, h⟩
theorem dRevL_i (h : k (.lst xs.reverse)) : dRevL (.lst xs) k := h
theorem gMax_2 (h : k (.int (max a b))) : gMaxN [.int a, .int b] k := h
theorem gMax_3 (h : k (.int (max a (max b c)))) : gMaxN [.int a, .int b, .int c] k := h
theorem gMax_4 {d : Int} (h : k (.int (max a (max b (max c d))))) : gMaxN [.int a, .int b, .int c, .int d] k := h
theorem gMax_5 {d e : Int} (h : k (.int (max a (max b (max c (max d e)))))) : gMaxN [.int a, .int b, .int c, .int d, .int e] k := h
theorem gMin_2 (h : k (.int (min a b))) : gMinN [.int a, .int b] k := h
theorem gMin_3 (h : k (.int (min a (min b c)))) : gMinN [.int a, .int b, .int c] k := h
theorem gMin_4 {d : Int} (h : k (.int (min a (min b (min c d))))) : gMinN [.int a, .int b, .int c, .int d] k := h
theorem gAbs_i (h : k (.int (max a (-a)))) : gAbs [.int a] k := by
  show k (.int (if a < 0 then -a else a))
  rw [show (if a < 0 then -a else a) = max a (-a) by split <;> omega]
  exact h
theorem gLen_t (h : k (.int xs.length)) : gLen [.tup xs] k := h
theorem gLen_l (h : k (.int xs.length)) : gLen [.lst xs] k := h
theorem gInt_i (h : k (.int a)) : gInt [.int a] k := h
theorem gInt_b {c : Bool} (h : k (.int (if c then 1 else 0))) : gInt [.bl c] k := h
theorem gIsi_i {n t : String} {c : Bool} (e1 : tyD d = some t) (e2 : isB t n = some c) (h : k (.bl c)) : gIsi [d, .ty n] k := ⟨t, c, e1, e2, h⟩
theorem gMaxL_i {ns : List Int} (e : intsD xs = some ns) (hn : ns ≠ []) (h : k (.int (maxI ns))) : gMaxL [.lst xs] k := ⟨xs, ns, rfl, e, hn, h⟩
theorem gMinL_i {ns : List Int} (e : intsD xs = some ns) (hn : ns ≠ []) (h : k (.int (minI ns))) : gMinL [.lst xs] k := ⟨xs, ns, rfl, e, hn, h⟩
theorem gSum_i {ns : List Int} (e : intsD xs = some ns) (h : k (.int ns.sum)) : gSum [.lst xs] k := ⟨xs, ns, rfl, e, h⟩
theorem gtName_i {k : List SV → Prop} (h : k (env.set i (.val d))) : gtName i d env k := h
theorem gtTup_i {k : List SV → Prop} {gs : PGs'} (hn : ds.length = n) (h : gs ds env k) : gtTup n gs (.tup ds) env k := ⟨hn, h⟩
theorem gtCons_i {k : List SV → Prop} {gt : PGt} {gs : PGs'} (h : gt d env fun env' => gs ds env' k) : gtCons gt gs (d :: ds) env k := h
theorem gtNil_i {k : List SV → Prop} (h : k env) : gtNil [] env k := h
theorem iRange1_i {k : List D → Prop} (h : g env fun ds => rgK1 ds k) : iRange1 g env k := h
theorem iRange2_i {k : List D → Prop} (h : g env fun ds => rgK2 ds k) : iRange2 g env k := h
theorem rgK1_i {k : List D → Prop} (h1 : -100000 < a) (h2 : a < 100000) (h : k (rangeD 0 a.toNat)) : rgK1 [.int a] k := ⟨h1, h2, h⟩
theorem rgK2_i {k : List D → Prop} (h1 : -100000 < a ∧ a < 100000 ∧ -100000 < b ∧ b < 100000) (h : k (rangeD a (b - a).toNat)) : rgK2 [.int a, .int b] k := ⟨h1, h⟩
theorem iSeq_i {k : List D → Prop} (h : p env fun d => sqK d k) : iSeq p env k := h
theorem iEnumS_i {k : List D → Prop} (h : p env fun d => q env fun s => enK d s k) : iEnumS p q env k := h
theorem enK_i {k : List D → Prop} (h1 : -100000 < a ∧ a < 100000) (h : k (enumD a xs)) : enK (.tup xs) (.int a) k := ⟨h1, h⟩
theorem iEnum0_i {k : List D → Prop} (h : p env fun d => en0K d k) : iEnum0 p env k := h
theorem en0K_t {k : List D → Prop} (h : k (enumD 0 xs)) : en0K (.tup xs) k := h
theorem en0K_l {k : List D → Prop} (h : k (enumD 0 xs)) : en0K (.lst xs) k := h
theorem iRev1_i {k : List D → Prop} (h : p env fun d => rvK d k) : iRev1 p env k := h
theorem rvK_i {k : List D → Prop} (h1 : -100000 < a ∧ a < 100000) (h : k (revD a.toNat)) : rvK (.int a) k := ⟨h1, h⟩
theorem gSorted_i {ns : List Int} (e : intsD xs = some ns) (h : ∀ ms : List Int, ms.Perm ns → ms.Pairwise (· ≤ ·) → k (.lst (ms.map D.int))) : gSorted [.lst xs] k := ⟨xs, ns, rfl, e, h⟩
theorem sAug_i (e : env[i]? = some (.val (.int a))) (h : p env fun d => inK d fun b => K.nx (env.set i (.val (.int (a + b))))) : sAug i p env K := by unfold sAug; rw [e]; exact h
theorem sInsert_i (e : env[i]? = some (.own (.lst xs))) (h : p env fun d => q env fun y => inK d fun n => (0 ≤ n ∧ n < 100000 ∧ xs.length ≤ 100000) ∧ K.nx (env.set i (.own (.lst (xs.take n.toNat ++ [y] ++ xs.drop n.toNat))))) : sInsert i p q env K := by unfold sInsert; rw [e]; exact h
theorem sPopAt_i {j : Nat} (e : env[i]? = some (.own (.lst xs))) (h : p env fun d => inK d fun n => (-100000 < n ∧ n < 100000) ∧ ∃ jj y, seqIndex? n xs.length = some jj ∧ xs[jj]? = some y ∧ K.nx ((env.set i (.own (.lst (xs.eraseIdx jj)))).set j (.val y))) : sPopAt j i p env K := by unfold sPopAt; rw [e]; exact h
theorem sSeq_ins (h : sInsert i p q env { K with nx := fun env' => Q env' K }) : sSeq (sInsert i p q) Q env K := h
theorem sSeq_aug (h : sAug i p env { K with nx := fun env' => Q env' K }) : sSeq (sAug i p) Q env K := h
theorem eSl_i {lo hi : PO'} (h : p env fun x => lo env fun i => hi env fun j => dSl x i j k) : eSl p lo hi env k := h
theorem oNo_i {k : Option Int → Prop} (h : k none) : oNo env k := h
theorem oPart_i {k : Option Int → Prop} (h : p env fun d => inK d fun i => k (some i)) : oPart p env k := h
theorem dSl_t {lo hi : Option Int} (h : k (.tup (cutD xs lo hi))) : dSl (.tup xs) lo hi k := h
theorem dSl_l {lo hi : Option Int} (h : k (.lst (cutD xs lo hi))) : dSl (.lst xs) lo hi k := h
theorem eRg1_i {f : List D → D} (h : p env fun x => dRg f (.int 0) x k) : eRg1 f p env k := h
theorem dRg_i {f : List D → D} (hb : 0 ≤ a ∧ a < 100000 ∧ 0 ≤ b ∧ b < 100000) (h : k (f (rangeD a (b - a).toNat))) : dRg f (.int a) (.int b) k := ⟨hb, h⟩
theorem dIs_bn {c : Bool} {neg : Bool} (h : k (.bl neg)) : dIs neg (.bl c) .non k := h
theorem dEq_i (hx : pln 60 d = true) {e : D} (he : pln 60 e = true) (h : ∀ c : Bool, (c = true ↔ d = e) → k (.bl c)) : dEq d e k := ⟨_, ⟨pln_shp _ _ hx, pln_shp _ _ he, rfl⟩, h _ (eqvD_iff hx he)⟩
theorem dNe_i (hx : pln 60 d = true) {e : D} (he : pln 60 e = true) (h : ∀ c : Bool, (c = true ↔ d = e) → k (.bl (!c))) : dNe d e k := ⟨_, ⟨pln_shp _ _ hx, pln_shp _ _ he, rfl⟩, h _ (eqvD_iff hx he)⟩
theorem dEq_int (h : k (.bl (decide (a = b)))) : dEq (.int a) (.int b) k := by
  refine ⟨_, ⟨rfl, rfl, rfl⟩, ?_⟩
  have e : eqvD (.int a) (.int b) = decide (a = b) := by
    unfold eqvD
    simp only [pd, PyData.eqv]
    by_cases h : a = b <;> simp [h]
  rw [e]; exact h
theorem dNe_int (h : k (.bl (!decide (a = b)))) : dNe (.int a) (.int b) k := by
  refine ⟨_, ⟨rfl, rfl, rfl⟩, ?_⟩
  have e : eqvD (.int a) (.int b) = decide (a = b) := by
    unfold eqvD
    simp only [pd, PyData.eqv]
    by_cases h : a = b <;> simp [h]
  rw [e]; exact h
/-- a list and [] -/
theorem dEq_nil (hx : plnA 59 xs = true) (h : k (.bl (decide (xs = [])))) : dEq (.lst xs) (.lst []) k := by
  refine dEq_i (by simp only [pln]; exact hx) rfl fun c hc => ?_
  rw [show c = decide (xs = []) from ?_]
  · exact h
  · rw [D.lst.injEq] at hc
    by_cases e : xs = []
    · rw [decide_eq_true e]; exact hc.mpr e
    · rw [decide_eq_false e]; cases c with
      | true => exact absurd (hc.mp rfl) e
      | false => rfl
theorem dNe_nil (hx : plnA 59 xs = true) (h : k (.bl (!decide (xs = [])))) : dNe (.lst xs) (.lst []) k := by
  refine dNe_i (by simp only [pln]; exact hx) rfl fun c hc => ?_
  rw [show c = decide (xs = []) from ?_]
  · exact h
  · rw [D.lst.injEq] at hc
    by_cases e : xs = []
    · rw [decide_eq_true e]; exact hc.mpr e
    · rw [decide_eq_false e]; cases c with
      | true => exact absurd (hc.mp rfl) e
      | false => rfl
theorem ite_d {c : Prop} [Decidable c] {A B : Prop} (h1 : c → A) (h2 : ¬ c → B) : if decide c = true then A else B := by
  by_cases h : c
  · rw [if_pos (decide_eq_true h)]; exact h1 h
  · rw [if_neg (by rw [decide_eq_false h]; exact Bool.false_ne_true)]; exact h2 h
theorem ite_n {c : Prop} [Decidable c] {A B : Prop} (h1 : ¬ c → A) (h2 : c → B) : if (!decide c) = true then A else B := by
  by_cases h : c
  · rw [if_neg (by rw [decide_eq_true h]; exact Bool.false_ne_true)]; exact h2 h
  · rw [if_pos (by rw [decide_eq_false h]; rfl)]; exact h1 h
theorem ite_b {c : Bool} {A B : Prop} (h1 : c = true → A) (h2 : c = false → B) : if c = true then A else B := by
  cases c with
  | true => exact h1 rfl
  | false => exact h2 rfl
theorem ite_nb {c : Bool} {A B : Prop} (h1 : c = false → A) (h2 : c = true → B) : if (!c) = true then A else B := by
  cases c with
  | true => exact h2 rfl
  | false => exact h1 rfl
theorem ite_t {A B : Prop} (h : A) : if true = true then A else B := h
theorem ite_f {A B : Prop} (h : B) : if false = true then A else B := h
theorem ite_nt {A B : Prop} (h : B) : if (!true) = true then A else B := h
theorem ite_nf {A B : Prop} (h : A) : if (!false) = true then A else B := h
theorem and_le {n m : Nat} {A : Prop} (e : Nat.ble n m = true) (h : A) : n ≤ m ∧ A := ⟨Nat.le_of_ble_eq_true e, h⟩
theorem and_lt {n m : Nat} {A : Prop} (e : Nat.ble (n + 1) m = true) (h : A) : n < m ∧ A := ⟨Nat.le_of_ble_eq_true e, h⟩
theorem and_rfl {n m : Nat} {A : Prop} (e : n = m) (h : A) : n = m ∧ A := ⟨e, h⟩
end
/-! loops -/
theorem forP_i {gt : PGt} {body : PSt} {K : PK'} (Inv : Nat → List SV → Prop) : ∀ (ds : List D) (n : Nat) {env : List SV}, Inv n env →
    (∀ i d env, ds[i]? = some d → Inv (n + i) env → ∀ N : List SV → Prop, (∀ e, Inv (n + i + 1) e → N e) → gt d env fun env1 => body env1 { nx := N, rt := K.rt, bk := K.nx, ct := N }) →
    (∀ env, Inv (n + ds.length) env → K.nx env) → forP gt body ds env K
  | [], n, env, h0, _, hd => hd env (by simpa using h0)
  | d :: ds, n, env, h0, hs, hd => by
    unfold forP
    refine hs 0 d env rfl (by simpa using h0) _ fun e he => ?_
    exact forP_i Inv ds (n + 1) (by simpa using he) (fun i d' env' hi hI N hN => by
        refine hs (i + 1) d' env' hi (by rw [show n + (i + 1) = n + 1 + i by omega]; exact hI) N fun e h => hN e ?_
        rw [show n + 1 + i + 1 = n + (i + 1) + 1 by omega]; exact h) (fun env' h => hd env' (by rw [List.length_cons, show n + (ds.length + 1) = n + 1 + ds.length by omega]; exact h))
theorem lcP_i {pg : PGt} {pt : PTs'} {pe : PX} {env : List SV} {k : List D → Prop} (Inv : Nat → List D → Prop) : ∀ (ds : List D) (n : Nat) {acc : List D}, Inv n acc →
    (∀ i d acc, ds[i]? = some d → Inv (n + i) acc → acc.length ≤ 100000 ∧ ∀ (A : D → Prop) (B : Prop), (∀ r, Inv (n + i + 1) (acc ++ [r]) → A r) → (Inv (n + i + 1) acc → B) → pg d env fun env1 => pt env1 fun b => if b = true then pe env1 A else B) →
    (∀ acc, Inv (n + ds.length) acc → k acc) → lcP pg pt pe env ds acc k
  | [], n, acc, h0, _, hd => hd acc (by simpa using h0)
  | d :: ds, n, acc, h0, hs, hd => by
    unfold lcP
    have go : ∀ acc', Inv (n + 1) acc' → lcP pg pt pe env ds acc' k := fun acc' h => lcP_i Inv ds (n + 1) h (fun i d' acc'' hi hI => by
        have q := hs (i + 1) d' acc'' hi (by rw [show n + (i + 1) = n + 1 + i by omega]; exact hI)
        refine ⟨q.1, fun A B hA hB => q.2 A B (fun r h => hA r ?_) (fun h => hB ?_)⟩
        · rw [show n + 1 + i + 1 = n + (i + 1) + 1 by omega]; exact h
        · rw [show n + 1 + i + 1 = n + (i + 1) + 1 by omega]; exact h) (fun acc'' h => hd acc'' (by rw [List.length_cons, show n + (ds.length + 1) = n + 1 + ds.length by omega]; exact h))
    have q := hs 0 d acc rfl (by simpa using h0)
    exact q.2 _ _ (fun r h => ⟨q.1, go _ (by simpa using h)⟩) (fun h => go _ (by simpa using h))
theorem lcP_f {pg : PGt} {pt : PTs'} {pe : PX} {env : List SV} {k : List D → Prop} (f : D → Option D) : ∀ (ds : List D) {acc : List D}, acc.length + ds.length ≤ 100000 →
    (∀ d ∈ ds, ∀ (A : D → Prop) (B : Prop), (∀ r, f d = some r → A r) → (f d = none → B) → pg d env fun env1 => pt env1 fun b => if b = true then pe env1 A else B) →
    k (acc ++ ds.filterMap f) → lcP pg pt pe env ds acc k
  | [], acc, _, _, hk => by unfold lcP; simpa using hk
  | d :: ds, acc, hl, hs, hk => by
    unfold lcP
    have hl' : acc.length + (ds.length + 1) ≤ 100000 := by simpa using hl
    refine hs d List.mem_cons_self _ _ (fun r hr => ⟨by omega, ?_⟩) (fun hr => ?_)
    · refine lcP_f f ds (by rw [List.length_append, List.length_singleton]; omega) (fun d' h => hs d' (List.mem_cons_of_mem _ h)) ?_
      rw [List.filterMap_cons, hr] at hk
      simpa using hk
    · refine lcP_f f ds (by omega) (fun d' h => hs d' (List.mem_cons_of_mem _ h)) ?_
      rw [List.filterMap_cons, hr] at hk
      exact hk
/-- each item by a function -/
theorem lcP_m {α : Type} {pg : PGt} {pt : PTs'} {pe : PX} {env : List SV} {k : List D → Prop} (e : α → D) (f : α → D) (xs : List α) (hl : xs.length ≤ 100000)
    (hs : ∀ x ∈ xs, ∀ (A : D → Prop) (B : Prop), A (f x) → pg (e x) env fun env1 => pt env1 fun b => if b = true then pe env1 A else B) (hk : k (xs.map f)) : lcP pg pt pe env (xs.map e) [] k := by
  have go : ∀ (xs : List α) (acc : List D), acc.length + xs.length ≤ 100000 → (∀ x ∈ xs, ∀ (A : D → Prop) (B : Prop), A (f x) → pg (e x) env fun env1 => pt env1 fun b => if b = true then pe env1 A else B) → k (acc ++ xs.map f) → lcP pg pt pe env (xs.map e) acc k := by
    intro xs
    induction xs with
    | nil => intro acc _ _ hk; simp only [List.map_nil, lcP]; simpa using hk
    | cons x xs ih =>
      intro acc hl hs hk
      rw [List.map_cons]
      unfold lcP
      have hl' : acc.length + (xs.length + 1) ≤ 100000 := by simpa using hl
      refine hs x List.mem_cons_self _ _ ⟨by omega, ih _ (by rw [List.length_append, List.length_singleton]; omega) (fun y h => hs y (List.mem_cons_of_mem _ h)) (by simpa using hk)⟩
  exact go xs [] (by simpa using hl) hs (by simpa using hk)
/-- some of the items -/
theorem lcP_flt {α : Type} {pg : PGt} {pt : PTs'} {pe : PX} {env : List SV} {k : List D → Prop} (e : α → D) (c : α → Bool) (f : α → D) (xs : List α) (hl : xs.length ≤ 100000)
    (hs : ∀ x ∈ xs, ∀ (A : D → Prop) (B : Prop), (c x = true → A (f x)) → (c x = false → B) → pg (e x) env fun env1 => pt env1 fun b => if b = true then pe env1 A else B) (hk : k ((xs.filter c).map f)) : lcP pg pt pe env (xs.map e) [] k := by
  have go : ∀ (xs : List α) (acc : List D), acc.length + xs.length ≤ 100000 → (∀ x ∈ xs, ∀ (A : D → Prop) (B : Prop), (c x = true → A (f x)) → (c x = false → B) → pg (e x) env fun env1 => pt env1 fun b => if b = true then pe env1 A else B) → k (acc ++ (xs.filter c).map f) → lcP pg pt pe env (xs.map e) acc k := by
    intro xs
    induction xs with
    | nil => intro acc _ _ hk; simp only [List.map_nil, lcP]; simpa using hk
    | cons x xs ih =>
      intro acc hl hs hk
      rw [List.map_cons]
      unfold lcP
      have hl' : acc.length + (xs.length + 1) ≤ 100000 := by simpa using hl
      refine hs x List.mem_cons_self _ _ (fun hc => ⟨by omega, ih _ (by rw [List.length_append, List.length_singleton]; omega) (fun y h => hs y (List.mem_cons_of_mem _ h)) ?_⟩) (fun hc => ih _ (by omega) (fun y h => hs y (List.mem_cons_of_mem _ h)) ?_)
      · rw [List.filter_cons_of_pos hc] at hk; simpa using hk
      · rw [List.filter_cons_of_neg (by rw [hc]; exact Bool.false_ne_true)] at hk; exact hk
  exact go xs [] (by simpa using hl) hs (by simpa using hk)
theorem lcP_ma {α : Type} {pg : PGt} {pt : PTs'} {pe : PX} {env : List SV} {k : List D → Prop} (e : α → D) (f : α → D) : ∀ (xs : List α) (acc : List D), acc.length + xs.length ≤ 100000 →
    (∀ x ∈ xs, ∀ (A : D → Prop) (B : Prop), A (f x) → pg (e x) env fun env1 => pt env1 fun b => if b = true then pe env1 A else B) → k (acc ++ xs.map f) → lcP pg pt pe env (xs.map e) acc k
  | [], acc, _, _, hk => by simp only [List.map_nil, lcP]; simpa using hk
  | x :: xs, acc, hl, hs, hk => by
    rw [List.map_cons]
    unfold lcP
    have hl' : acc.length + (xs.length + 1) ≤ 100000 := by simpa using hl
    exact hs x List.mem_cons_self _ _ ⟨by omega, lcP_ma e f xs _ (by rw [List.length_append, List.length_singleton]; omega) (fun y h => hs y (List.mem_cons_of_mem _ h)) (by simpa using hk)⟩
theorem lcP2_m {α β : Type} {vs1 : List Nat} {pg : PGt} {pt : PTs'} {pi1 : PIt} {pg1 : PGt} {pt1 : PTs'} {pe : PX} {env : List SV} {k : List D → Prop} (e : α → D) (ys : List β) (f : α → β → D) (xs : List α) (hl : xs.length * ys.length ≤ 100000)
    (hs : ∀ x ∈ xs, ∀ (acc : List D) (A : List D → Prop) (B : Prop), acc.length + ys.length ≤ 100000 → A (acc ++ ys.map (f x)) → pg (e x) env fun env1 => pt env1 fun b => if b = true then pi1 env1 fun ds1 => noOwn env1 vs1 ∧ lcP pg1 pt1 pe (wipeE env1 vs1) ds1 acc A else B)
    (hk : k (xs.flatMap fun x => ys.map (f x))) : lcP2 vs1 pg pt pi1 pg1 pt1 pe env (xs.map e) [] k := by
  have go : ∀ (xs : List α) (acc : List D), acc.length + xs.length * ys.length ≤ 100000 → (∀ x ∈ xs, ∀ (acc : List D) (A : List D → Prop) (B : Prop), acc.length + ys.length ≤ 100000 → A (acc ++ ys.map (f x)) → pg (e x) env fun env1 => pt env1 fun b => if b = true then pi1 env1 fun ds1 => noOwn env1 vs1 ∧ lcP pg1 pt1 pe (wipeE env1 vs1) ds1 acc A else B) →
      k (acc ++ xs.flatMap fun x => ys.map (f x)) → lcP2 vs1 pg pt pi1 pg1 pt1 pe env (xs.map e) acc k := by
    intro xs
    induction xs with
    | nil => intro acc _ _ hk; simp only [List.map_nil, lcP2]; simpa using hk
    | cons x xs ih =>
      intro acc hl hs hk
      rw [List.map_cons]
      unfold lcP2
      have hl' : acc.length + (xs.length * ys.length + ys.length) ≤ 100000 := by rw [List.length_cons, Nat.succ_mul] at hl; exact hl
      refine hs x List.mem_cons_self acc _ _ (by omega) (ih _ (by rw [List.length_append, List.length_map]; omega) (fun y h => hs y (List.mem_cons_of_mem _ h)) ?_)
      rw [List.flatMap_cons] at hk
      rw [List.append_assoc]
      exact hk
  exact go xs [] (by simpa using hl) hs (by simpa using hk)
theorem eLc_i {vs : List Nat} {pi : PIt} {pg : PGt} {pt : PTs'} {pe : PX} {env : List SV} {k : D → Prop} (h : pi env fun ds => noOwn env vs ∧ lcP pg pt pe (wipeE env vs) ds [] fun r => k (.lst r)) : eLc vs pi pg pt pe env k := h
theorem eLc2_i {vs vs1 : List Nat} {pi : PIt} {pg : PGt} {pt : PTs'} {pi1 : PIt} {pg1 : PGt} {pt1 : PTs'} {pe : PX} {env : List SV} {k : D → Prop} (h : pi env fun ds => noOwn env vs ∧ lcP2 vs1 pg pt pi1 pg1 pt1 pe (wipeE env vs) ds [] fun r => k (.lst r)) : eLc2 vs vs1 pi pg pt pi1 pg1 pt1 pe env k := h
theorem maxI_snoc {xs : List Int} {x : Int} (h : xs ≠ []) : maxI (xs ++ [x]) = max (maxI xs) x := by
  symm
  apply maxI_eq
  · rcases Int.le_total (maxI xs) x with q | q
    · rw [Int.max_eq_right q]; simp
    · rw [Int.max_eq_left q]; exact List.mem_append_left _ (maxI_mem h)
  · intro y hy
    rcases List.mem_append.mp hy with q | q
    · exact Int.le_trans (maxI_le q) (Int.le_max_left ..)
    · rw [List.mem_singleton.mp q]; exact Int.le_max_right ..
theorem minI_snoc {xs : List Int} {x : Int} (h : xs ≠ []) : minI (xs ++ [x]) = min (minI xs) x := by
  symm
  apply minI_eq
  · rcases Int.le_total (minI xs) x with q | q
    · rw [Int.min_eq_left q]; exact List.mem_append_left _ (minI_mem h)
    · rw [Int.min_eq_right q]; simp
  · intro y hy
    rcases List.mem_append.mp hy with q | q
    · exact Int.le_trans (Int.min_le_left ..) (minI_le q)
    · rw [List.mem_singleton.mp q]; exact Int.min_le_right ..
theorem maxI_congr {xs ys : List Int} (h : ∀ x, x ∈ xs ↔ x ∈ ys) : maxI xs = maxI ys := by
  by_cases hx : xs = []
  · subst hx
    cases ys with
    | nil => rfl
    | cons y r => exact absurd ((h y).mpr List.mem_cons_self) (by simp)
  · exact maxI_eq ((h _).mp (maxI_mem hx)) fun y hy => maxI_le ((h y).mpr hy)
theorem minI_congr {xs ys : List Int} (h : ∀ x, x ∈ xs ↔ x ∈ ys) : minI xs = minI ys := by
  by_cases hx : xs = []
  · subst hx
    cases ys with
    | nil => rfl
    | cons y r => exact absurd ((h y).mpr List.mem_cons_self) (by simp)
  · exact minI_eq ((h _).mp (minI_mem hx)) fun y hy => minI_le ((h y).mpr hy)
end Pu

namespace Pu
open PySem PySem.Spec PyProof.Rows L2
variable [Tbs]
/-! ### defs whose last parameters have the default None -/
section
variable {P : Program} {w : World} {K : PySem.W.Frag} {mg : Str → Option Value} {base : Heap} {x qual : Str} {st : Stmt} {f : Addr} {fd : FuncData} {N ps : List Str} {k : Nat} {fr : Bool} {p : PSt} {dvs : List V}
abbrev FunN (K : PySem.W.Frag) (x qual : Str) (st : Stmt) (f : Addr) (fd : FuncData) : Prop := FunD K x qual (defArgs st) (defBody st) (defScope st) [.non] [] f fd
theorem fn_okD (F : FunD K x qual (defArgs st) (defBody st) (defScope st) dvs [] f fd) (S : FnScope N ps (defScope st))
    (hb : ∀ (cdv : Value) (A : Around) (outer : List Env) (s : Shared) (H : Hp) (E : XK), Room k (A.deeper (envOfC qual (defScope st) s.heap.objs.size f cdv)) → B fr (cxOf CX0 P w K mg base N qual (defScope st) f cdv A outer s H E).nox (defBody st) p) :
    FnOk P w K mg base CX0 (k + 1) f fd ps (Sf fr ps.length (wpOf fr N.length p)) := by
  refine F.ok S (fun vs H Q E h => ?_) (fun cdv A outer s H vs Q E hr h => ?_)
  · obtain ⟨z, X, ds, kk, hl, _⟩ := h
    exact hl
  · obtain ⟨z, X, ds, kk, hl, hz, hx, hA, hw, c⟩ := h
    obtain ⟨t, b1, b2⟩ := hb cdv A outer s H E hr
    refine ⟨t, b1.nox, b2 z X H H (L2.start N vs) _ _ { nx := fun _ => fr = false ∧ kk .non, rt := kk } (start_ok hz hx hA) ⟨fun env' σ' H' o' f' hk => ?_, fun d v H' e r fq hk => ?_, fun _ _ _ _ _ hk => hk.elim, fun _ _ _ _ _ hk => hk.elim, fun _ _ _ _ _ _ _ h => h.elim⟩ hw⟩
    · exact c .non .non H' o'.evo .non (fun q => by rw [hk.1] at q; cases q) hk.2
    · exact c d v H' e r fq hk
theorem fun_mkN {oc : Value} {od an : Option Addr} {osl : Array (Option Value)} {kV doc pm cdv ct : Value} {T : Addr} {oc2 : Value} {od2 : Option Addr} {m2 : Nat} {osl2 : Array (Option Value)}
    (l : K.lookup f = some ⟨oc, od, .func (PySem.W.fnOf x qual (defArgs st) (defBody st) (defScope st) (.ref T) kV doc pm an cdv ct), osl⟩)
    (c : PySem.W.codeIn K cdv qual = true) (k : PySem.W.keepIn K (.ref f) = true) (lT : K.lookup T = some ⟨oc2, od2, .seq [Value.none].toArray m2, osl2⟩) :
    FunN K x qual st f (PySem.W.fnOf x qual (defArgs st) (defBody st) (defScope st) (.ref T) kV doc pm an cdv ct) :=
  ⟨⟨oc, od, _, kV, doc, pm, an, cdv, ct, osl, rfl, l, c, .inr ⟨List.cons_ne_nil _ _, T, _, [Value.none], m2, rfl, lT, rfl, .cons rfl .nil⟩, .inl rfl⟩, k⟩
end
section
variable {C : Cx} {e : Expr} {es : List Expr} {p : PX} {ga : PAs} {m mo : Mode} {fr : Bool} {k n : Nat} {pos pp : Pos} {x : Str} {f : Addr} {fd : FuncData} {ps : List Str} {wp : List D → (D → Prop) → Prop}
theorem isa_non {z : Zn} {M : AP} {H : Hp} : IsA z M H [V.non] [D.non] := .cons .non .nil
theorem re_callD {t : TA} (h : RA true t ga) (E' : XK) (hm : mo = .e ∨ (mo = .f ∧ fr = true)) : RE mo (tCall (Sf fr (n + 1) wp) [.non] E' t) (eCall (fun ds k => ds.length = n ∧ wp (ds ++ [.non]) k) ga) := fun z X H0 H σ env Q k o c hp => by
  refine h z X H0 H σ env _ _ o (fun ds vs H1 e1 r1 hx => ?_) hp
  have o1 := o.go e1
  rw [if_pos rfl] at r1
  refine ⟨z, Ox X σ env, ds ++ [.non], k, by rw [List.length_append, r1.length, hx.1]; rfl, ⟨o1.zal, o1.tab⟩, fun a => o1.ox, (r1.weak fun a q => zx_ox.mp q).append isa_non, hx.2, fun d v H2 e2 r2 fq kd => ?_⟩
  refine c d v H2 (e1.trans e2) ?_ kd
  rcases hm with rfl | ⟨rfl, hf⟩
  · exact Is.weak (fun a q => zx_ox.mpr q) r2
  · obtain ⟨a, ev, ha, hc⟩ := fq hf
    refine ⟨a, ev, e1.fresh ha, hc.gen (fun _ q => q) (fun b u q n => ⟨q, fun y => n ?_⟩) fun _ h => h⟩
    rcases y with y | (y | y) | y
    · exact .inl y
    · exact .inr (.inl (.inl y))
    · exact .inr (.inr y)
    · exact .inr (.inl (.inr y))
theorem re_callBD {t : TA} (h : RA false t ga) (E' : XK) : RE .b (tCall (Sf fr (n + 1) wp) [.non] E' t) (eCall (fun ds k => ds.length = n ∧ wp (ds ++ [.non]) k) ga) := fun z X H0 H σ env Q k o c hp => by
  refine h z X H0 H σ env _ _ o (fun ds vs H1 e1 r1 hx => ?_) hp
  have o1 := o.go e1
  rw [if_neg Bool.false_ne_true] at r1
  exact ⟨z, X, ds ++ [.non], k, by rw [List.length_append, r1.length, hx.1]; rfl, ⟨o1.zal, o1.tab⟩, o1.xal, r1.append isa_non, hx.2, fun d v H2 e2 r2 fq kd => c d v H2 (e1.trans e2) r2 kd⟩
theorem e_callD (F : FnOk C.prog C.w C.K C.mg C.base CX0 k f fd ps (Sf fr (n + 1) wp)) (hr : Room k C.A) (hg : Gl C x) (hm : C.mg x = some (.ref f)) (hk : PySem.W.keepIn C.K (.ref f) = true) (hb : Binds C.K fd ps [.none])
    (ha : A true C (e :: es) ga) (hmo : mo = .e ∨ (mo = .f ∧ fr = true)) (hdb : (x == ("__debug__" : Str)) = false := by decide) (he : starEach (e :: es) C.env = (false, eval e C.env) :: starEach es C.env := by rfl) (hpl : (backTo pos (starEach es C.env)).any (·.1) = false := by rfl) :
    E mo C (.Call (.Name x pp) (e :: es) [] pos) (eCall (fun ds k => ds.length = n ∧ wp (ds ++ [.non]) k) ga) := by
  obtain ⟨t, h1, h2⟩ := ha
  exact ⟨_, pe_call (dvs := [.non]) F hr hg hm hk hb (.cons rfl .nil) pass0 h1 hdb he hpl, re_callD h2 E0 hmo⟩
theorem e_callLD (F : FnOk C.prog C.w C.K C.mg C.base CX0 k f fd ps (Sf fr (n + 1) wp)) (hr : Room k C.A) (hg : Gl C x) (hm : C.mg x = some (.ref f)) (hk : PySem.W.keepIn C.K (.ref f) = true) (hb : Binds C.K fd ps [.none])
    (ha : A false C (e :: es) ga) (hdb : (x == ("__debug__" : Str)) = false := by decide) (he : starEach (e :: es) C.env = (false, eval e C.env) :: starEach es C.env := by rfl) (hpl : (backTo pos (starEach es C.env)).any (·.1) = false := by rfl) :
    E .b C (.Call (.Name x pp) (e :: es) [] pos) (eCall (fun ds k => ds.length = n ∧ wp (ds ++ [.non]) k) ga) := by
  obtain ⟨t, h1, h2⟩ := ha
  exact ⟨_, pe_call (dvs := [.non]) F hr hg hm hk hb (.cons rfl .nil) pass0 h1 hdb he hpl, re_callBD h2 E0⟩
end
/-- the two ways to bind: all given, all but the last -/
theorem vals_none {ds : List Value} (h : Vals [V.non] ds) : ds = [.none] := by
  cases h with
  | cons a b =>
    cases b
    exact congrArg (fun x => [x]) a
theorem vals_nil {ds : List Value} (h : Vals [] ds) : ds = [] := by cases h; rfl
theorem bindsN1 {K : PySem.W.Frag} {x qual : Str} {st : Stmt} {f : Addr} {fd : FuncData} {ps : List Str} (F : FunN K x qual st f fd) (n : Nat) (hn : n + 1 = ps.length)
    (h : ∀ (T : Addr) (kV doc pm : Value) (an : Option Addr) (cdv ct : Value) (us its : List Value), us.length = n → its.length = 1 →
      ∃ k, bindArgs (PySem.W.fnOf x qual (defArgs st) (defBody st) (defScope st) (.ref T) kV doc pm an cdv ct) ⟨us, []⟩ = seqItems? (.ref T) >>= k ∧ k (some its.toArray) = pure (ps.zip (us ++ its.drop 0))) : Binds K fd ps [.none] := by
  obtain ⟨ds, v, b⟩ := FunD.binds1 F n 0 (List.cons_ne_nil _ _) hn h
  rw [vals_none v] at b
  exact b
theorem bindsN0 {K : PySem.W.Frag} {x qual : Str} {st : Stmt} {f : Addr} {fd : FuncData} {ps : List Str} (F : FunN K x qual st f fd) (n : Nat) (hn : n + 0 = ps.length)
    (h : ∀ (T : Addr) (kV doc pm : Value) (an : Option Addr) (cdv ct : Value) (us its : List Value), us.length = n → its.length = 1 →
      ∃ k, bindArgs (PySem.W.fnOf x qual (defArgs st) (defBody st) (defScope st) (.ref T) kV doc pm an cdv ct) ⟨us, []⟩ = seqItems? (.ref T) >>= k ∧ k (some its.toArray) = pure (ps.zip (us ++ its.drop 1))) : Binds K fd ps [] := by
  obtain ⟨ds, v, b⟩ := FunD.binds1 F n 1 (List.cons_ne_nil _ _) hn h
  rw [vals_nil v] at b
  exact b
end Pu

namespace Pu
open PySem PySem.Spec PyProof.Rows L2
variable [Tbs]
/-! ### repr of nested tuples and lists, where nothing is being shown yet -/
def rRepr (K : PySem.W.Frag) : List V → Hp → VK → Prop := fun xs H Q => ∃ (a : Addr) (d : PyData), xs = [.ref a] ∧ Dp K H (.ref a) d ∧ d.hasDict = false ∧ d.showable = true ∧ d.depth ≤ 61 ∧ d.shown.length ≤ sizeLine ∧ Q (.str d.shown) H
theorem cr_repr {X : Cx} (hg : X.A.guards = some []) (hu : X.A.units + 65 < cLine) : CallR X (.builtin "repr") (rRepr X.K) := by
  intro pins s σ H xs us Q I r h
  obtain ⟨a, d, rfl, hd, h1, h2, h3, h4, q⟩ := h
  rw [Vals.ref1 r]
  obtain ⟨as, rd⟩ := Dp.reads I d (.ref a) (.ref a) hd rfl
  exact repr_of_reads' rd h2 (fun w => absurd (h1.symm.trans w) Bool.false_ne_true) hg (by omega) (fun _ _ e => e) (fun h' u tk hk => ⟨.str d.shown, H, I.kept hk, ⟨u, rfl⟩, q⟩) h4
/-- a tuple or a list, plain, of small numbers -/
def sqD : D → Bool
  | .tup _ => true
  | .lst _ => true
  | _ => false
def repD (d : D) : Str := (pd d).shown
structure Shows (d : D) : Prop where
  sq : sqD d = true
  shp : shp 60 d = true
  ok : (pd d).showable = true
  fit : (pd d).shown.length ≤ sizeLine
def gRepr : List D → (D → Prop) → Prop := fun ds k => ∃ d, ds = [d] ∧ Shows d ∧ k (.str (repD d))
theorem cd_repr {l : Bool} {K : PySem.W.Frag} : CallD l .e (rRepr K) gRepr := fun z X H0 H σ env vs ds Q k o h c hp => by
  obtain ⟨d, rfl, hs, hk⟩ := hp
  cases h with
  | cons q t =>
    cases t
    have lay := shp_lay 60 d hs.shp
    have dp := Is.dp (K := K) q hs.shp
    have fin := c _ (.str (repD d)) H (Evo.refl _ _) (Is.str _) hk
    cases q with
    | tup e n r => exact ⟨_, _, rfl, dp, PyData.hasDict_of_canLay _ lay.1, hs.ok, lay.2, hs.fit, fin⟩
    | lst e n r => exact ⟨_, _, rfl, dp, PyData.hasDict_of_canLay _ lay.1, hs.ok, lay.2, hs.fit, fin⟩
    | _ => exact absurd hs.sq Bool.false_ne_true
theorem gRepr_i {d : D} {k : D → Prop} (hs : Shows d) (h : k (.str (repD d))) : gRepr [d] k := ⟨d, rfl, hs, h⟩
/-- texts compared -/
def dNeS : D → D → (D → Prop) → Prop := fun x y k => match x, y with
  | .str a, .str b => k (.bl (!decide (a = b)))
  | _, _ => False
theorem opd_neS : OpD .b .e rNe dNeS := fun z X H0 H σ env v u x y Q k o r1 r2 c hp => by
  cases x with
  | str a =>
    cases y with
    | str b =>
      cases (show Is z _ H v (.str a) from r1)
      cases (show Is z _ H u (.str b) from r2)
      refine ⟨rfl, ?_⟩
      have e : decide (V.str a = V.str b) = decide (a = b) := by
        rw [Bool.eq_iff_iff]
        simp
      rw [e]
      exact c _ _ H (Evo.refl _ _) (Is.bl _) hp
    | _ => exact (show False from hp).elim
  | _ => exact (show False from hp).elim
theorem dNeS_i {a b : Str} {k : D → Prop} (h : k (.bl (!decide (a = b)))) : dNeS (.str a) (.str b) k := h
/-! ### which things are shown -/
theorem w_int {i : Int} (h : i.natAbs < 10 ^ 12) : (PyData.int i).weight ≤ 40 := by
  unfold PyData.weight
  split
  · exact Nat.zero_le _
  · rename_i q
    have h0 : i.natAbs ≠ 0 := fun w => q (by rw [Int.natAbs_eq_zero.mp w]; rfl)
    have := (Nat.log2_lt h0).mpr (Nat.lt_trans h (by decide : 10 ^ 12 < 2 ^ 40))
    omega
theorem l_int {i : Int} (h : i.natAbs < 10 ^ 12) : i.natAbs.log2 < 1920 := by
  by_cases h0 : i.natAbs = 0
  · rw [h0]; decide
  · have := (Nat.log2_lt h0).mpr (Nat.lt_trans h (by decide : 10 ^ 12 < 2 ^ 40))
    omega
theorem fits {d : D} (hl : (pd d).leavesShort 13 = true) (hw : (pd d).weight ≤ 2 ^ 20) : (pd d).shown.length ≤ sizeLine := PyData.shown_fits (by decide) (by decide) hl hw
theorem ints_all : ∀ ns : List Int, (∀ n ∈ ns, n.natAbs < 10 ^ 12) → PyData.showableAll (pdA (ns.map D.int)) = true ∧ PyData.leavesShortAll 13 (pdA (ns.map D.int)) = true ∧ PyData.weightAll (pdA (ns.map D.int)) ≤ 41 * ns.length
  | [], _ => ⟨rfl, rfl, Nat.le_refl _⟩
  | n :: ns, h => by
    obtain ⟨a, b, c⟩ := ints_all ns fun m hm => h m (List.mem_cons_of_mem _ hm)
    have hn := h n List.mem_cons_self
    refine ⟨?_, ?_, ?_⟩
    · simp only [List.map_cons, pdA, pd, PyData.showableAll, PyData.showable, a, l_int hn, decide_true, Bool.and_self]
    · simp only [List.map_cons, pdA, pd, PyData.leavesShortAll, PyData.leavesShort, b, PyData.shown_int_le hn, decide_true, Bool.and_self]
    · have := w_int hn
      simp only [List.map_cons, pdA, pd, PyData.weightAll, List.length_cons]
      omega
theorem shp_ints (n : Nat) : ∀ ns : List Int, shpA n (ns.map D.int) = true
  | [] => by simp [shpA]
  | m :: ns => by simp only [List.map_cons, shpA, shp, shp_ints n ns, Bool.and_self]
theorem shows_ints {ns : List Int} (hl : ns.length ≤ 1000) (h : ∀ n ∈ ns, n.natAbs < 10 ^ 12) : Shows (.tup (ns.map D.int)) := by
  obtain ⟨a, b, c⟩ := ints_all ns h
  refine ⟨rfl, ?_, ?_, fits ?_ ?_⟩
  · simp only [shp]
    exact shp_ints 59 ns
  · simp only [pd, PyData.showable]
    exact a
  · simp only [pd, PyData.leavesShort]
    exact b
  · simp only [pd, PyData.weight]
    omega
theorem pairs_all : ∀ ns : List (Int × Int), (∀ n ∈ ns, n.1.natAbs < 10 ^ 12 ∧ n.2.natAbs < 10 ^ 12) → PyData.showableAll (pdA (ns.map fun r => D.tup [.int r.1, .int r.2])) = true ∧ PyData.leavesShortAll 13 (pdA (ns.map fun r => D.tup [.int r.1, .int r.2])) = true ∧ PyData.weightAll (pdA (ns.map fun r => D.tup [.int r.1, .int r.2])) ≤ 90 * ns.length
  | [], _ => ⟨rfl, rfl, Nat.le_refl _⟩
  | n :: ns, h => by
    obtain ⟨a, b, c⟩ := pairs_all ns fun m hm => h m (List.mem_cons_of_mem _ hm)
    obtain ⟨h1, h2⟩ := h n List.mem_cons_self
    refine ⟨?_, ?_, ?_⟩
    · simp only [List.map_cons, pdA, pd, PyData.showableAll, PyData.showable, a, l_int h1, l_int h2, decide_true, Bool.and_self]
    · simp only [List.map_cons, pdA, pd, PyData.leavesShortAll, PyData.leavesShort, b, PyData.shown_int_le h1, PyData.shown_int_le h2, decide_true, Bool.and_self]
    · have := w_int h1
      have := w_int h2
      simp only [List.map_cons, pdA, pd, PyData.weightAll, PyData.weight, List.length_cons] at *
      omega
theorem shp_pairs (n : Nat) : ∀ ns : List (Int × Int), shpA (n + 1) (ns.map fun r => D.tup [.int r.1, .int r.2]) = true
  | [] => by simp [shpA]
  | m :: ns => by simp only [List.map_cons, shpA, shp, shp_pairs n ns, Bool.and_self]
theorem shows_pairs {ns : List (Int × Int)} (hl : ns.length ≤ 1000) (h : ∀ n ∈ ns, n.1.natAbs < 10 ^ 12 ∧ n.2.natAbs < 10 ^ 12) : Shows (.tup (ns.map fun r => D.tup [.int r.1, .int r.2])) := by
  obtain ⟨a, b, c⟩ := pairs_all ns h
  refine ⟨rfl, ?_, ?_, fits ?_ ?_⟩
  · simp only [shp]
    exact shp_pairs 58 ns
  · simp only [pd, PyData.showable]
    exact a
  · simp only [pd, PyData.leavesShort]
    exact b
  · simp only [pd, PyData.weight]
    omega
end Pu

namespace Pu
open PySem PySem.Spec PyProof.Rows L2
/-! ### the law run from its one caller: nothing is being shown there -/
section
variable {P : Program} {w : World} {K : PySem.W.Frag} {mg : Str → Option Value} {base : Heap} {k : Nat} {f : Addr} {nm qual : Str} {pa : Arguments} {bd : List Stmt} {sc : Scope} {dV kV doc pm cdv ct oc : Value} {an od : Option Addr} {osl : Array (Option Value)} {N ps : List Str}
/-- one run of a def at a known around -/
theorem run_at (kf : K.lookup f = some ⟨oc, od, .func (PySem.W.fnOf nm qual pa bd sc dV kV doc pm an cdv ct), osl⟩) (kc : PySem.W.codeIn K cdv qual = true) (S : FnScope N ps sc) {A : Around} {outer : List Env} {s : Shared} {H : Hp} {args : Args} {us : List Value} {vs : List V} {Q : VK} {E : XK}
    (room : Room (k + 1) A) (at0 : Env0 P w K mg base A outer s H) (bnd : BindsTo s (PySem.W.fnOf nm qual pa bd sc dV kV doc pm an cdv ct) args (ps.zip us)) (rel : Vals vs us) (cnt : vs.length = ps.length) {t : TS}
    (ht : PSs (cxOf CX0 P w K mg base N qual sc f cdv A outer s H E) bd t) (hq : t { nx := fun _ H' => Q .non H', rt := Q } (L2.start N vs) H) : codeAny (model P w) A (.call (.ref f) args) (CR CX0 outer P w H s Q E) s := by
  have old := fun b o e => (at0.bs b o e).1
  have kin : K.In s.heap := at0.mod.kin.keeps old
  refine codeAny_call_function room.depth (kin _ _ kf) rfl S.co S.gen rfl (PySem.W.codeRec_of kin kc) (bnd _ _ _ _ (wpAny_newFunctionEnv_cells S.kind ?kinds ?go))
  case kinds =>
    rintro ⟨n, v⟩ hy
    cases S.par n (List.of_mem_zip hy).1 with
    | inl q => exact Or.inl q
    | inr q => exact Or.inr ⟨q, PySem.W.cellsFrom_some _ _ _ (Or.inl q)⟩
  case go =>
    rintro env rfl s1 x
    refine ⟨(at0.mod.nolimit.keeps old).keeps x.toInCall.keep, codeAny_func (wpAny_mono (ht.run [] s1 (L2.start N vs) H _ (inv_start S room.hd at0 cnt rel x) hq) ?ok fun _ _ z => z)⟩
    intro fl s' z
    cases fl with
    | ret u => exact let ⟨v, _, H', J, rv, q⟩ := z; ⟨v, H', J.os, J.bare, J.base, J.hok, rv, q⟩
    | next => exact let ⟨_, H', J, q⟩ := z; ⟨V.non, H', J.os, J.bare, J.base, J.hok, rfl, q⟩
    | brk => exact let ⟨_, _, _, q⟩ := z; q.elim
    | cont => exact let ⟨_, _, _, q⟩ := z; q.elim
end
section
variable {P : Program} {w : World} {K : PySem.W.Frag} {mg mb : Str → Option Value} {fa a : Addr} {s : Shared} {vs : List Value} {ns : List Int}
/-- the one thing that is tracked at first: the script, unless it is the module's own -/
def scriptH (K : PySem.W.Frag) (a : Addr) (vs : List Value) (ns : List Int) : Hp := fun b => if b = a ∧ K.lookup a = none then some (.frz { cls := .type "list", data := .seq vs.toArray } (.lst (ns.map V.int))) else none
theorem scriptH_only : Only (scriptH K a vs ns) := fun b => by
  unfold scriptH
  split
  · exact Or.inr ⟨_, _, rfl⟩
  · exact Or.inl rfl
theorem scriptH_at {b : Addr} (h : scriptH K a vs ns b ≠ none) : b = a ∧ K.lookup a = none := by
  unfold scriptH at h
  split at h
  · assumption
  · exact absurd rfl h
theorem scriptH_none {b : Addr} (h : ¬ (b = a ∧ K.lookup a = none)) : scriptH K a vs ns b = none := if_neg h
theorem law_at (kin : K.In s.heap) (hns : s.heap.Ns mainGlobals mg) (hb : s.heap.Ns builtinsNs mb) (hbb : ∀ x : Str, x ≠ "__name__" → mb x = bootBuiltins x) (lim : s.heap.NoLimit) (hg : s.gens = #[])
    (ha : s.heap.get? a = some { cls := .type "list", data := .seq vs.toArray }) (hi : IntsAre vs ns) (hl : ns.length ≤ sizeLine)
    (go : ∀ (base : Heap) (H : Hp), Only H → SqL K H a (ns.map V.int) → Env0 P w K mg base callerA [] s H → codeAny (model P w) callerA (.call (.ref fa) ⟨[.ref a], []⟩) (CR CX0 [] P w H s (fun v _ => v = .bl true) E0) s) :
    codeAny (model P w) callerA (.call (.ref fa) ⟨[.ref a], []⟩) (fun r s' => r = .ok (.ret (.bool true)) ∧ OldK s.heap s'.heap ∧ s'.os = s.os ∧ AllBare s'.gens) s := by
  have rel := L2.vals_ints hi
  have len := hi.length
  have hok : HOk P w (scriptH K a vs ns) s.heap := by
    intro b u e
    obtain ⟨rfl, _⟩ := scriptH_at (K := K) (a := a) (vs := vs) (ns := ns) (b := b) (by rw [e]; exact fun z => by cases z)
    unfold scriptH at e
    split at e
    · cases e
      exact ⟨ha, by rw [List.length_map]; exact hl, vs, _, rel, ha⟩
    · cases e
  have sq : SqL K (scriptH K a vs ns) a (ns.map V.int) := by
    cases q : K.lookup a with
    | none => exact Or.inl (Or.inr ⟨{ cls := .type "list", data := .seq vs.toArray }, if_pos ⟨rfl, q⟩⟩)
    | some o =>
      have e := kin a o q
      rw [ha] at e
      cases e
      exact Or.inr ⟨_, vs.toArray, _, q, rfl, rfl, rfl, by rw [List.size_toArray, len]; exact hl, by simpa using rel⟩
  have stay : ∀ {b : Addr} {o : Obj}, s.heap.get? b = some o → (∀ h : b = a ∧ K.lookup a = none, False) → (hidT s.heap (scriptH K a vs ns)).get? b = some o := fun e n => hidT_get e (scriptH_none fun h => n h)
  have kinB : K.In (hidT s.heap (scriptH K a vs ns)) := fun b o e => stay (kin b o e) fun ⟨h1, h2⟩ => by
    rw [h1, h2] at e
    cases e
  have nsB : ∀ {b : Addr} {m : Str → Option Value}, s.heap.Ns b m → (hidT s.heap (scriptH K a vs ns)).Ns b m := by
    rintro b m ⟨o, es, ep, e, d, r⟩
    refine ⟨o, es, ep, stay e fun ⟨h1, _⟩ => ?_, d, r⟩
    subst h1
    rw [ha] at e
    cases e
    exact absurd (show Data.seq vs.toArray _ = Data.dict es ep from d) nofun
  have mod : Mod K mg (hidT s.heap (scriptH K a vs ns)) := ⟨kinB, nsB hns, ⟨mb, nsB hb, hbb⟩, by
    obtain ⟨mc, h1, h2⟩ := lim
    exact ⟨mc, nsB h1, h2⟩⟩
  have e0 : Env0 P w K mg (hidT s.heap (scriptH K a vs ns)) callerA [] s (scriptH K a vs ns) := ⟨rfl, mod, fun _ _ e => of_hidT e, Nat.le_of_eq (hidT_size _ _), trivial, nofun, hok, .of_eq hg⟩
  refine codeAny_mono (go _ _ scriptH_only sq e0) fun r s' z => ?_
  match r, z with
  | .error e, z => exact (show False from z).elim
  | .ok .next, z => exact (show False from z).elim
  | .ok .brk, z => exact (show False from z).elim
  | .ok .cont, z => exact (show False from z).elim
  | .ok (.ret u), ⟨v, H', os, bare, un, ok', rv, q⟩ =>
    have q' : v = .bl true := q
    subst q'
    cases (show u = Value.bool true from rv)
    refine ⟨rfl, OldK.of_keep fun b o e => ?_, os, bare⟩
    rcases scriptH_only (K := K) (a := a) (vs := vs) (ns := ns) b with n | ⟨ob, xs, y⟩
    · exact un.keep b o e n nofun nofun
    · have h1 := (hok b _ y).1
      have h2 := (ok' b _ (un.frzs b ob _ y)).1
      rw [e] at h1
      cases h1
      exact h2
end
theorem hu65 {A : Around} {k : Nat} (hr : Room k A) : A.units + 65 < cLine := by have := hr.un; omega
/-- the goal that k_head leaves, from runs at the caller's own around -/
theorem head_at {l : PySem.W.OpenLaw} {n : Nat} {q : Program} {loose : List Str} {XP : (Str → Option Value) → Heap → Prop} {YP : World → Heap → Prop} {d : DefRec} {K : Params → PySem.W.Frag} (hn : l.most = some n) (hn2 : n ≤ sizeLine) (hdf : d.params.defaults = []) (hY : ∀ (w : World) (h : Heap), YP w h → (K w.params).In h)
    (F : ∀ (w : World) (mg : Str → Option Value) (fa a : Addr) (s : Shared) (ns : List Int), (K w.params).In s.heap → s.heap.Ns mainGlobals mg → mg d.name = some (.ref fa) → ns.length ≤ n → ∀ (base : Heap) (H : Hp), SqL (K w.params) H a (ns.map V.int) → Env0 l.prog w (K w.params) mg base callerA [] s H →
      codeAny (model l.prog w) callerA (.call (.ref fa) ⟨[.ref a], []⟩) (CR CX0 [] l.prog w H s (fun v _ => v = .bl true) E0) s) :
    PySem.W.WalkO q loose XP YP l.row.toRowW d [] (fun f vs => PySem.call f vs) := by
  refine Att.attach_call hn hdf fun w s₀ s₁ mg mb fa o pm cd doc a vs ns G Y _ _ _ hmg hobj hints hlen hg => ?_
  exact law_at (hY w _ Y) G.T.g G.T.b G.T.builtins G.T.nolimit hg hobj hints (Nat.le_trans hlen hn2) fun base H _ hS e0 => F w mg fa a s₁ ns (hY w _ Y) G.T.g hmg hlen base H hS e0
end Pu

namespace Pu
open PySem PySem.Spec PyProof.Rows L2
variable [Tbs]
/-! ### a list that a def borrows and changes in place -/
def mask (H : Hp) (a : Addr) : Hp := fun b => if b = a then none else H b
def zb (z : Zn) (o : Option Addr) : Zn := { z with bo := o }
section
variable {z : Zn} {X : AP} {M : AP} {H0 H H' : Hp} {σ : Sl} {env : List SV} {a : Addr} {w : Option Addr}
theorem mask_self : mask H a a = none := by unfold mask; rw [if_pos rfl]
theorem mask_ne {b : Addr} (h : b ≠ a) : mask H a b = H b := by unfold mask; rw [if_neg h]
theorem mask_old {b : Addr} {o : HO} (h : mask H a b = some o) : b ≠ a ∧ H b = some o := by
  unfold mask at h
  split at h
  · cases h
  · exact ⟨by assumption, h⟩
mutual
theorem Is.zb : ∀ {v : V} {d : D}, Is z M H v d → Is (zb z w) M H v d
  | _, _, .non => .non
  | _, _, .bl b => .bl b
  | _, _, .int i => .int i
  | _, _, .str s => .str s
  | _, _, .ty n => .ty n
  | _, _, .tup e n r => .tup e n (IsA.zb r)
  | _, _, .lst e n r => .lst e n (IsA.zb r)
  | _, _, .dic e n r => .dic e n (IsK.zb r)
  | _, _, .deck e => Is.deck (z := Pu.zb z w) e
  | _, _, .dpr e n => .dpr e n
  | _, _, .st e l n => .st e l n
  | _, _, .bor e n r => .bor e n (IsA.zb r)
theorem IsA.zb : ∀ {v : List V} {d : List D}, IsA z M H v d → IsA (zb z w) M H v d
  | _, _, .nil => .nil
  | _, _, .cons h t => .cons (Is.zb h) (IsA.zb t)
theorem IsK.zb : ∀ {v : List (Key × V)} {d : List (Key × D)}, IsK z M H v d → IsK (zb z w) M H v d
  | _, _, .nil => .nil
  | _, _, .cons h t => .cons (Is.zb h) (IsK.zb t)
end
theorem Is.unzb {v : V} {d : D} (h : Is (Pu.zb z w) M H v d) : Is z M H v d := Is.zb (z := Pu.zb z w) (w := z.bo) h
theorem IsA.unzb {v : List V} {d : List D} (h : IsA (Pu.zb z w) M H v d) : IsA z M H v d := IsA.zb (z := Pu.zb z w) (w := z.bo) h
theorem Evo.unzb (h : Evo (Pu.zb z w) H H') : Evo z H H' := ⟨h.old, h.al, h.dk, h.tab⟩
theorem evo_mask (ha : ¬ z.Z a) : Evo (Pu.zb z w) (mask H a) H :=
  ⟨fun b o h _ => (mask_old h).2, fun b h => by
    by_cases e : b = a
    · rw [e, mask_self] at h; exact absurd rfl h
    · rw [mask_ne e] at h; exact h,
   fun b h => (Pu.zb z w).keep _ _ _ h fun c o _ q => (mask_old q).2,
   fun h P hP => by
    obtain ⟨ps, e, t⟩ := h P hP
    exact ⟨ps, (mask_old e).2, t⟩⟩
theorem ok_mask (ha : ¬ z.Z a) {b : Addr} (h : z.ok H b) : z.ok (mask H a) b :=
  z.keep _ _ _ h fun c o zc q => by rw [mask_ne (fun (e : c = a) => ha (by rw [← e]; exact zc))]; exact q
theorem tab_mask (ha : ¬ z.Z a) (h : Tabs H) : Tabs (mask H a) := fun P hP => by
  obtain ⟨ps, e, t⟩ := h P hP
  exact ⟨ps, by rw [mask_ne (fun (q : P = a) => ha (.inr (by rw [← q]; exact hP)))]; exact e, t⟩
/-- what a slot owns was lent and comes back -/
theorem Ok.lend (k : Ok z X H0 H σ env) {i : Nat} {d d' : D} (hi : env[i]? = some (.own d)) (hs : σ[i]? = some (some (V.ref a))) (ev : Evo z (mask H a) H') (hc : Con z (Ms z X σ env) H' a d') :
    Ok z X H0 H' σ (env.set i (.own d')) ∧ Fr z X (Ms z X σ env) H (Ms z X σ (env.set i (.own d'))) H' := by
  have hl : i < env.length := (List.getElem?_eq_some_iff.mp hi).1
  obtain ⟨a', hs', hc0, hz, hx, h0⟩ := k.own i d hi
  have ea : a' = a := by rw [hs] at hs'; cases hs'; rfl
  subst ea
  have ms : ∀ b, Ms z X σ (env.set i (.own d')) b → Ms z X σ env b := by
    rintro b (h | h | ⟨j, f, h1, h2⟩)
    · exact .inl h
    · exact .inr (.inl h)
    · by_cases hj : i = j
      · subst hj
        exact .inr (.inr ⟨i, d, hi, h2⟩)
      · rw [List.getElem?_set_ne hj] at h1
        exact .inr (.inr ⟨j, f, h1, h2⟩)
  have ain : Ms z X σ env a' := .inr (.inr ⟨i, d, hi, hs⟩)
  have same : ∀ b u, H b = some u → b ≠ a' → ¬ z.Z b → H' b = some u := fun b u q n m => ev.old b u (by rw [mask_ne n]; exact q) m
  have old : ∀ b u, H b = some u → ¬ Ms z X σ env b → H' b = some u ∧ ¬ Ms z X σ (env.set i (.own d')) b := fun b u q n =>
    ⟨same b u q (fun e => n (by rw [e]; exact ain)) fun y => n (.inl y), fun x => n (ms b x)⟩
  have dk : ∀ b, z.ok H b → z.ok H' b := fun b h => ev.dk b (ok_mask hz h)
  have al : ∀ b, H b ≠ none → H' b ≠ none := fun b h => by
    by_cases e : b = a'
    · obtain ⟨o, ho⟩ := hc.some
      rw [e, ho]; intro q; cases q
    · exact ev.al b (by rw [mask_ne e]; exact h)
  have ne0 : ∀ b u, H0 b = some u → b ≠ a' := fun b u q e => by rw [e, h0] at q; cases q
  refine ⟨⟨by simp [k.len], ⟨fun b u q n => same b u (k.evo.old b u q n) (ne0 b u q) n, fun b h => al b (k.evo.al b h), fun b h => dk b (k.evo.dk b h), fun h => ev.tab (tab_mask hz (k.evo.tab h))⟩, fun b h => al b (k.zal b h), fun b h => ⟨al b (k.xal b h).1, (k.xal b h).2⟩, fun j f h => ?_, fun j f h => ?_, fun j l b f g h1 h2 h3 h4 => ?_, ev.tab (tab_mask hz k.tab)⟩, ⟨old, dk, al⟩⟩
  · by_cases hj : i = j
    · subst hj
      rw [List.getElem?_set_self hl] at h
      cases h
    · rw [List.getElem?_set_ne hj] at h
      obtain ⟨u, h1, h2⟩ := k.val j f h
      exact ⟨u, h1, h2.gen old dk⟩
  · by_cases hj : i = j
    · subst hj
      rw [List.getElem?_set_self hl] at h
      cases h
      exact ⟨a', hs, hc.gen (fun _ q => q) (fun b o q n => ⟨q, fun x => n (ms b x)⟩) fun _ h => h, hz, hx, h0⟩
    · rw [List.getElem?_set_ne hj] at h
      obtain ⟨b, h1, h2, h3, h4⟩ := k.own j f h
      have nb : b ≠ a' := fun e => hj (k.inj i j a' d f hi h hs (e ▸ h1))
      exact ⟨b, h1, h2.gen (fun o q => same b o q nb h3) old dk, h3, h4⟩
  · have un : ∀ (j : Nat) (f : D), (env.set i (.own d'))[j]? = some (.own f) → ∃ f', env[j]? = some (.own f') := fun j f h => by
      by_cases hj : i = j
      · subst hj; exact ⟨d, hi⟩
      · rw [List.getElem?_set_ne hj] at h; exact ⟨f, h⟩
    obtain ⟨f', q1⟩ := un j f h1
    obtain ⟨g', q2⟩ := un l g h2
    exact k.inj j l b f' g' q1 q2 h3 h4
end
/-- the promise of a def that borrows its last argument, a list -/
def SfB (n : Nat) (wp : List D → List D → (D → List D → Prop) → Prop) : Sp := fun vs H Q _ => ∃ (z : Zn) (X : AP) (a : Addr) (us : List V) (ds cs : List D) (k : D → List D → Prop), vs = us ++ [.ref a] ∧ us.length = n ∧ ((∀ b, z.Z b → H b ≠ none) ∧ Tabs H) ∧ (∀ b, X b → H b ≠ none ∧ ¬ z.Z b) ∧ ¬ z.Z a ∧ ¬ X a ∧
  IsA z (Zx z (X.or a)) H us ds ∧ Con z (Zx z (X.or a)) H a (.lst cs) ∧ wp ds cs k ∧
  ∀ d v H' cs', Evo z (mask H a) H' → Is z (Zx z (X.or a)) H' v d → Con z (Zx z (X.or a)) H' a (.lst cs') → k d cs' → Q v H'
def envB (n : Nat) (ds cs : List D) : List SV := ds.map SV.val ++ SV.own (.bor cs) :: List.replicate (n - (ds.length + 1)) SV.no
def wpB (n : Nat) (p : PSt) : List D → List D → (D → List D → Prop) → Prop := fun ds cs k => p (envB n ds cs) { nx := fun _ => False, rt := fun _ => False, re := fun env d => match env[ds.length]? with
  | some (.own (.bor cs')) => k d cs'
  | _ => False }
def sRetB (p : PX) : PSt := fun env k => p env fun d => k.re env d
section
variable {C : Cx} {fr : Bool} {e : Expr} {es : List Expr} {pe : PX} {ga : PAs} {pos pp : Pos}
theorem s_retB (h : E .e C e pe) : S fr C (.Return (some e) pos) (sRetB pe) := by
  obtain ⟨t, h1, h2⟩ := h
  exact ⟨_, ps_ret h1, fun z X H0 H σ env G k o s hp => h2 z X H0 H σ env _ _ o (fun d v H1 e1 r1 hx => s.re env σ H1 d v (o.go e1) r1 hx) hp⟩
theorem start_okB {z : Zn} {X : AP} {H : Hp} {N : List Str} {us : List V} {ds cs : List D} {a : Addr} (hz : (∀ a, z.Z a → H a ≠ none) ∧ Tabs H) (hx : ∀ a, X a → H a ≠ none ∧ ¬ z.Z a) (za : ¬ z.Z a) (xa : ¬ X a)
    (hA : IsA z (Zx z (X.or a)) H us ds) (hc : Con z (Zx z (X.or a)) H a (.lst cs)) (hN : ds.length < N.length) :
    Ok (zb z (some a)) X (mask H a) H (L2.start N (us ++ [V.ref a])) (envB N.length ds cs) := by
  have hl := hA.length
  have el : ∀ i, i < ds.length → (envB N.length ds cs)[i]? = (ds[i]?).map SV.val := fun i hi => by
    unfold envB; rw [List.getElem?_append_left (by simpa using hi), List.getElem?_map]
  have em : (envB N.length ds cs)[ds.length]? = some (.own (.bor cs)) := by
    unfold envB; rw [List.getElem?_append_right (by simp)]; simp
  have er : ∀ (i : Nat) (v : SV), ds.length < i → (envB N.length ds cs)[i]? = some v → v = .no := fun i v hi h => by
    unfold envB at h
    rw [List.getElem?_append_right (by simp; omega)] at h
    obtain ⟨m, hm⟩ : ∃ m, i - (ds.map SV.val).length = m + 1 := ⟨i - ds.length - 1, by simp; omega⟩
    rw [hm, List.getElem?_cons_succ, List.getElem?_replicate] at h
    split at h <;> cases h
    rfl
  have on : ∀ (i : Nat) (d : D), (envB N.length ds cs)[i]? = some (.own d) → i = ds.length ∧ d = .bor cs := fun i d h => by
    rcases Nat.lt_trichotomy i ds.length with q | q | q
    · rw [el i q, List.getElem?_eq_getElem q] at h; cases h
    · rw [q, em] at h; cases h; exact ⟨q, rfl⟩
    · have := er i _ q h; cases this
  have sl : ∀ i, i < us.length → (L2.start N (us ++ [V.ref a]))[i]? = (us[i]?).map some := fun i hi => by
    unfold L2.start
    rw [List.getElem?_append_left (by simp; omega), List.getElem?_map, List.getElem?_append_left hi]
  have sm : (L2.start N (us ++ [V.ref a]))[ds.length]? = some (some (.ref a)) := by
    unfold L2.start
    rw [← hl, List.getElem?_append_left (by simp), List.getElem?_map, List.getElem?_append_right (Nat.le_refl _)]
    simp
  have ms : ∀ b, Ms (zb z (some a)) X (L2.start N (us ++ [V.ref a])) (envB N.length ds cs) b → Zx z (X.or a) b := by
    rintro b (h | h | ⟨i, d, h1, h2⟩)
    · exact .inl h
    · exact .inr (.inl h)
    · obtain ⟨rfl, _⟩ := on i d h1
      rw [sm] at h2
      cases h2
      exact .inr (.inr rfl)
  refine ⟨by unfold L2.start envB; simp; omega, evo_mask za, hz.1, hx, fun i d h => ?_, fun i d h => ?_, fun i j b d e h1 h2 _ _ => (on i d h1).1.trans (on j e h2).1.symm, hz.2⟩
  · rcases Nat.lt_trichotomy i ds.length with q | q | q
    · rw [el i q] at h
      cases q2 : ds[i]? with
      | none => rw [q2] at h; cases h
      | some x =>
        rw [q2] at h
        cases h
        obtain ⟨v, h1, h2⟩ := hA.get q2
        exact ⟨v, by rw [sl i (by omega), h1]; rfl, (h2.weak ms).zb⟩
    · rw [q, em] at h; cases h
    · have := er i _ q h; cases this
  · obtain ⟨rfl, rfl⟩ := on i d h
    obtain ⟨vs, q1, q2⟩ := hc
    exact ⟨a, sm, ⟨rfl, vs, q1, (q2.weak ms).zb⟩, za, xa, mask_self⟩
end
section
variable {P : Program} {w : World} {K : PySem.W.Frag} {mg : Str → Option Value} {base : Heap}
theorem fn_okB {x qual : Str} {st : Stmt} {f : Addr} {fd : FuncData} {N ps : List Str} {k n : Nat} {p : PSt} (F : Fun K x qual st f fd) (S : FnScope N ps (defScope st)) (hn : ps.length = n + 1) (hN : n < N.length)
    (hb : ∀ (cdv : Value) (A : Around) (outer : List Env) (s : Shared) (H : Hp) (E : XK), Room k (A.deeper (envOfC qual (defScope st) s.heap.objs.size f cdv)) → B false (cxOf CX0 P w K mg base N qual (defScope st) f cdv A outer s H E).nox (defBody st) p) :
    FnOk P w K mg base CX0 (k + 1) f fd ps (SfB n (fun ds cs k => ds.length = n ∧ wpB N.length p ds cs k)) := by
  refine F.ok S (fun vs H Q E h => ?_) (fun cdv A outer s H vs Q E hr h => ?_)
  · obtain ⟨z, X, a, us, ds, cs, kk, hv, hl, _⟩ := h
    rw [hv, hn, List.length_append, hl]; rfl
  · obtain ⟨z, X, a, us, ds, cs, kk, rfl, hl, hz, hx, za, xa, hA, hc, ⟨hd, hw⟩, c⟩ := h
    obtain ⟨t, b1, b2⟩ := hb cdv A outer s H E hr
    refine ⟨t, b1, b2 (zb z (some a)) X (mask H a) H (L2.start N (us ++ [V.ref a])) _ _ { nx := fun _ => False, rt := fun _ => False, re := fun env d => match env[ds.length]? with
  | some (.own (.bor cs')) => kk d cs'
  | _ => False } (start_okB hz hx za xa hA hc (by omega)) ⟨fun _ _ _ _ _ hk => hk.elim, fun _ _ _ _ _ _ hk => hk.elim, fun _ _ _ _ _ hk => hk.elim, fun _ _ _ _ _ hk => hk.elim, fun env' σ' H' d v o' r hk => ?_⟩ hw⟩
    simp only at hk
    split at hk
    · rename_i cs' he
      obtain ⟨b, h1, ⟨h2, vs, h3, h4⟩, h5, h6, h7⟩ := o'.own _ _ he
      cases h2
      have sub : ∀ y, Zx z (X.or a) y → Ms (zb z (some a)) X σ' env' y := by
        rintro y (q | q | q)
        · exact .inl q
        · exact .inr (.inl q)
        · exact .inr (.inr ⟨_, _, he, by rw [q]; exact h1⟩)
      exact c d v H' cs' o'.evo.unzb (r.weak sub).unzb ⟨vs, h3, (h4.weak sub).unzb⟩ hk
    · exact hk.elim
end
/-! ### calls that lend a list -/
def RAB (r : Nat) (t : TA) (p : PAs) : Prop := ∀ (z : Zn) (X : AP) (H0 H : Hp) (σ : Sl) (env : List SV) (Q : List V → Hp → Prop) (k : List D → Prop) (a : Addr), Ok z X H0 H σ env → σ[r]? = some (some (.ref a)) →
  (∀ ds vs H', Evo z H H' → IsA z (Ms z X σ env) H' vs ds → k ds → Q (vs ++ [.ref a]) H') → p env k → t σ H Q
structure AB (r : Nat) (C : Cx) (es : List Expr) (p : PAs) : Prop where
  ex : ∃ t, PA C es t ∧ RAB r t p
section
variable {C : Cx} {fr : Bool} {e : Expr} {es : List Expr} {pe p : PX} {ga : PAs} {pos pp : Pos} {r : Nat} {x : Str}
theorem ab_one (r : Nat) (hN : C.N[r]? = some x := by rfl) (hv : Vis C.env.scope x := by first | exact Or.inl rfl | exact Or.inr (Or.inl rfl) | exact Or.inr (Or.inr rfl)) (hd : (x == ("__debug__" : Str)) = false := by decide)
    (hcd : (x == ("__classdict__" : Str)) = false := by decide) (hs : starEach [.Name x pp] C.env = (false, eval (.Name x pp) C.env) :: starEach [] C.env := by rfl) : AB r C [.Name x pp] aNil :=
  ⟨_, pa_cons (pe_var hN hv hd hcd) pa_nil hs, fun z X H0 H σ env Q k a o h c hp => ⟨_, h, c [] [] H (Evo.refl _ _) .nil hp⟩⟩
theorem ab_cons (h : E .e C e p) (hr : AB r C es ga) (hs : starEach (e :: es) C.env = (false, eval e C.env) :: starEach es C.env := by rfl) : AB r C (e :: es) (aCons p ga) := by
  obtain ⟨t, h1, h2⟩ := h
  obtain ⟨u, g1, g2⟩ := hr
  refine ⟨_, pa_cons h1 g1 hs, fun z X H0 H σ env Q k a o h c hp => h2 z X H0 H σ env _ _ o (fun d v H1 e1 r1 hx => ?_) hp⟩
  exact g2 z X H0 H1 σ env _ _ a (o.go e1) h (fun ds vs H2 e2 r2 hy => c (d :: ds) (v :: vs) H2 (e1.trans e2) (.cons (Is.evo (fun _ q => .inl q) e2 r1) r2) hy) hx
/-- the list of slot r is lent to a def: its answer, and what became of the list -/
def lendP (r : Nat) (wp : List D → List D → (D → List D → Prop) → Prop) (g : PAs) : List SV → (D → List SV → Prop) → Prop := fun env k => match env[r]? with
  | some (.own (.lst cs)) => g env fun ds => wp ds cs fun d cs' => k d (env.set r (.own (.lst cs')))
  | some (.own (.bor cs)) => g env fun ds => wp ds cs fun d cs' => k d (env.set r (.own (.bor cs')))
  | _ => False
theorem lend_i {t : TA} {n : Nat} {wp : List D → List D → (D → List D → Prop) → Prop} (h : RAB r t ga) (hn : ∀ ds cs k, wp ds cs k → ds.length = n) {z : Zn} {X : AP} {H0 H : Hp} {σ : Sl} {env : List SV} {Q : VK} {k : D → List SV → Prop}
    (o : Ok z X H0 H σ env) (c : ∀ d v H' env', Ok z X H0 H' σ env' → Fr z X (Ms z X σ env) H (Ms z X σ env') H' → Is z (Ms z X σ env') H' v d → k d env' → Q v H') (hp : lendP r wp ga env k) : tCall (SfB n wp) [] E0 t σ H Q := by
  have main : ∀ (c0 : D) (cs : List D) (mk : List D → D), env[r]? = some (.own c0) → (∀ (M : AP) (H : Hp) (a : Addr), Con z M H a c0 → Con z M H a (.lst cs) ∧ ∀ M' H' cs', Con z M' H' a (.lst cs') → Con z M' H' a (mk cs')) →
      (ga env fun ds => wp ds cs fun d cs' => k d (env.set r (.own (mk cs')))) → tCall (SfB n wp) [] E0 t σ H Q := fun c0 cs mk he hk hg => by
    obtain ⟨a, q1, q2, q3, q4, q5⟩ := o.own r _ he
    refine h z X H0 H σ env _ _ a o q1 (fun ds vs H1 e1 r1 hx => ?_) hg
    have o1 := o.go e1
    obtain ⟨a', q1', q2', _⟩ := o1.own r _ he
    have ea : a' = a := by rw [q1] at q1'; cases q1'; rfl
    subst ea
    obtain ⟨m1, m2⟩ := hk _ _ _ q2'
    let Y : AP := fun b => X b ∨ ∃ (i : Nat) (d : D), i ≠ r ∧ env[i]? = some (.own d) ∧ σ[i]? = some (some (V.ref b))
    have zy : ∀ b, Zx z (Y.or a') b ↔ Ms z X σ env b := fun b => by
      constructor
      · rintro (y | (y | ⟨i, d, _, y1, y2⟩) | y)
        · exact .inl y
        · exact .inr (.inl y)
        · exact .inr (.inr ⟨i, d, y1, y2⟩)
        · exact .inr (.inr ⟨r, _, he, by rw [y]; exact q1⟩)
      · rintro (y | y | ⟨i, d, y1, y2⟩)
        · exact .inl y
        · exact .inr (.inl (.inl y))
        · by_cases hi : i = r
          · rw [hi, q1] at y2; cases y2; exact .inr (.inr rfl)
          · exact .inr (.inl (.inr ⟨i, d, hi, y1, y2⟩))
    rw [List.append_nil]
    refine ⟨z, Y, a', vs, ds, cs, _, rfl, by rw [r1.length]; exact hn _ _ _ hx, ⟨o1.zal, o1.tab⟩, fun b y => o1.ox (y.elim .inl fun ⟨i, d, _, y1, y2⟩ => .inr ⟨i, d, y1, y2⟩), q3, fun y => y.elim q4 fun ⟨i, d, hi, y1, y2⟩ => hi (o.inj i r a' d _ y1 he y2 q1),
      r1.weak fun b y => (zy b).mp y, ?_, hx, fun d v H2 cs' e2 r2 hc kd => ?_⟩
    · exact m1.gen (fun _ q => q) (fun b u q n => ⟨q, fun y => n ((zy b).mp y)⟩) fun _ h => h
    · have hc' : Con z (Ms z X σ env) H2 a' (.lst cs') := hc.gen (fun _ q => q) (fun b u q n => ⟨q, fun y => n ((zy b).mpr y)⟩) fun _ h => h
      obtain ⟨o2, f2⟩ := o1.lend he q1 e2 (m2 _ _ _ hc')
      refine c d v H2 _ o2 ((o.fr e1).trans f2) (r2.weak fun b y => ?_) kd
      rcases y with y | y | ⟨j, f, y1, y2⟩
      · exact .inl y
      · exact .inr (.inl (.inl y))
      · by_cases hj : r = j
        · rw [← hj, q1] at y2; cases y2; exact .inr (.inr rfl)
        · rw [List.getElem?_set_ne hj] at y1
          exact (zy b).mpr (.inr (.inr ⟨j, f, y1, y2⟩))
  unfold lendP at hp
  split at hp
  · rename_i cs he
    exact main _ cs D.lst he (fun M H a hc => ⟨hc, fun _ _ _ h => h⟩) hp
  · rename_i cs he
    exact main _ cs D.bor he (fun M H a hc => ⟨hc.2, fun _ _ _ h => ⟨hc.1, h⟩⟩) hp
  · exact hp.elim
variable {k n i : Nat} {f : Addr} {fd : FuncData} {ps : List Str} {wp : List D → List D → (D → List D → Prop) → Prop} {y : Str}
def sLend (r : Nat) (wp : List D → List D → (D → List D → Prop) → Prop) (g : PAs) : PSt := fun env k => lendP r wp g env fun _ env' => k.nx env'
def sLendS (i r : Nat) (wp : List D → List D → (D → List D → Prop) → Prop) (g : PAs) : PSt := fun env k => lendP r wp g env fun d env' => k.nx (env'.set i (.val d))
theorem s_lend {cpos : Pos} (F : FnOk C.prog C.w C.K C.mg C.base CX0 k f fd ps (SfB n wp)) (hn : ∀ ds cs k, wp ds cs k → ds.length = n) (hr : Room k C.A) (hg : Gl C x) (hm : C.mg x = some (.ref f)) (hk : PySem.W.keepIn C.K (.ref f) = true) (hb : Binds C.K fd ps [])
    (ha : AB r C (e :: es) ga) (hdb : (x == ("__debug__" : Str)) = false := by decide) (he : starEach (e :: es) C.env = (false, eval e C.env) :: starEach es C.env := by rfl) (hpl : (backTo cpos (starEach es C.env)).any (·.1) = false := by rfl)
    (hs : swapsWith (.Call (.Name x pp) (e :: es) [] cpos) none pos.line C.env = pure false := by rfl) : S fr C (.Expr (.Call (.Name x pp) (e :: es) [] cpos) pos) (sLend r wp ga) := by
  obtain ⟨t, h1, h2⟩ := ha
  exact ⟨_, ps_expr (pe_call F hr hg hm hk hb .nil pass0 h1 hdb he hpl) hs, fun z X H0 H σ env G k o s hp => lend_i h2 hn o (fun d v H' env' o' f' _ hx => s.nx env' σ H' o' f' hx) hp⟩
theorem s_lendS {cpos yp : Pos} (F : FnOk C.prog C.w C.K C.mg C.base CX0 k f fd ps (SfB n wp)) (hn : ∀ ds cs k, wp ds cs k → ds.length = n) (hr : Room k C.A) (hg : Gl C x) (hm : C.mg x = some (.ref f)) (hk : PySem.W.keepIn C.K (.ref f) = true) (hb : Binds C.K fd ps [])
    (ha : AB r C (e :: es) ga) (hN : C.N.Nodup) (hi : C.N[i]? = some y) (hy : Loc C.env.scope y) (hdb : (x == ("__debug__" : Str)) = false := by decide) (he : starEach (e :: es) C.env = (false, eval e C.env) :: starEach es C.env := by rfl) (hpl : (backTo cpos (starEach es C.env)).any (·.1) = false := by rfl)
    (hs : swapsWith (.Call (.Name x pp) (e :: es) [] cpos) (some (.Name y yp)) pos.line C.env = pure false := by rfl) (hf : C.fn y = true ∨ C.env.scope.names.lookup y = some .local := by first | exact .inl rfl | exact .inr rfl | assumption) :
    S fr C (.Assign [.Name y yp] (.Call (.Name x pp) (e :: es) [] cpos) pos) (sLendS i r wp ga) := by
  obtain ⟨t, h1, h2⟩ := ha
  refine ⟨_, ps_set hN hi hy (pe_call F hr hg hm hk hb .nil pass0 h1 hdb he hpl) hs hf, fun z X H0 H σ env G k o s hp => lend_i h2 hn o (fun d v H' env' o' f' r' hx => ?_) hp⟩
  obtain ⟨o2, f2⟩ := o'.set (i := i) r'
  exact s.nx _ _ H' o2 (f'.trans f2) hx
/-! ### recursion, by fuel -/
variable {P : Program} {w : World} {K : PySem.W.Frag} {mg : Str → Option Value} {base : Heap}
theorem fn_bot {sp : Sp} (h : ∀ vs H Q E, ¬ sp vs H Q E) : FnOk P w K mg base CX0 k f fd ps sp := ⟨fun vs H Q E q => (h vs H Q E q).elim, fun A outer s H args us vs Q E _ _ _ _ q => (h vs H Q E q).elim⟩
theorem fn_rec (sp : Nat → Sp) (k : Nat) (h0 : ∀ vs H Q E, ¬ sp 0 vs H Q E) (hs : ∀ m, FnOk P w K mg base CX0 (k + m) f fd ps (sp m) → FnOk P w K mg base CX0 (k + m + 1) f fd ps (sp (m + 1))) (m : Nat) : FnOk P w K mg base CX0 (k + m) f fd ps (sp m) := by
  induction m with
  | zero => exact fn_bot h0
  | succ m ih => exact hs m ih
end
end Pu

namespace Pu
open PySem PySem.Spec PyProof.Rows L2
variable [Tbs]
/-! ### sorted(xs), xs a list of tuples of whole numbers -/
def lexI : List Int → List Int → Bool
  | [], [] => false
  | [], _ :: _ => true
  | _ :: _, [] => false
  | x :: r, y :: t => decide (x < y) || (!decide (y < x) && lexI r t)
theorem lexI_eq : ∀ (xs ys : List Int), PyProof.Rows.lexLt PyProof.Rows.itemOrd (xs.map Sum.inl) (ys.map Sum.inl) = lexI xs ys
  | [], [] => rfl
  | [], _ :: _ => rfl
  | _ :: _, [] => rfl
  | x :: r, y :: t => by
    show (decide (x < y) || (!decide (y < x) && PyProof.Rows.lexLt PyProof.Rows.itemOrd (r.map Sum.inl) (t.map Sum.inl))) = _
    rw [lexI_eq r t]; rfl
theorem perm_lift {α β : Type} (f : α → β) {a b : List β} (h : a.Perm b) : ∀ (ks : List α), ks.map f = b → ∃ L : List α, L.Perm ks ∧ L.map f = a := by
  induction h with
  | nil => intro ks e; exact ⟨ks, .refl _, e⟩
  | cons x p ih =>
    intro ks e
    cases ks with
    | nil => cases e
    | cons y r =>
      rw [List.map_cons] at e
      injection e with e1 e2
      obtain ⟨L, h1, h2⟩ := ih r e2
      exact ⟨y :: L, h1.cons y, by rw [List.map_cons, e1, h2]⟩
  | swap x y l =>
    intro ks e
    match ks, e with
    | u :: v :: r, e =>
      rw [List.map_cons, List.map_cons] at e
      injection e with e1 e2
      injection e2 with e2 e3
      exact ⟨v :: u :: r, List.Perm.swap u v r, by rw [List.map_cons, List.map_cons, e1, e2, e3]⟩
  | trans p q ih1 ih2 =>
    intro ks e
    obtain ⟨L, h1, h2⟩ := ih2 ks e
    obtain ⟨L2, h3, h4⟩ := ih1 L h2
    exact ⟨L2, h3.trans h1, h4⟩
abbrev rf (p : Addr × List Int) : V := V.ref p.1
abbrev rfv (p : Addr × List Int) : Value := Value.ref p.1
theorem refs_in : ∀ {ks : List (Addr × List Int)} {us : List Value}, Vals (ks.map rf) us → us = ks.map rfv
  | [], _, .nil => rfl
  | p :: ks, _, .cons r t => by
    cases r
    rw [refs_in t] <;> rfl
theorem refs_out : ∀ (ks : List (Addr × List Int)), Vals (ks.map rf) (ks.map rfv)
  | [] => .nil
  | p :: ks => .cons rfl (refs_out ks)
def shI : Nat → Bool := fun _ => false
theorem items_in : ∀ {ns : List Int} {us : List Value} (i : Nat), Vals (ns.map V.int) us → PyProof.Rows.tupItems shI i us = some (ns.map Sum.inl)
  | [], _, _, .nil => rfl
  | n :: ns, _, i, .cons r t => by
    obtain ⟨tk, rfl⟩ := r
    show (if shI i = true then none else (PyProof.Rows.tupItems shI (i + 1) _).map (Sum.inl n :: ·)) = _
    rw [items_in (i + 1) t]; rfl
def rSortedN (K : PySem.W.Frag) : List V → Hp → VK → Prop := fun vs H Q => ∃ (a : Addr) (ks : List (Addr × List Int)), vs = [V.ref a] ∧ SqL K H a (ks.map rf) ∧ (∀ p ∈ ks, SqT K H p.1 (p.2.map V.int) ∧ p.2 ≠ []) ∧
  ∀ (L : List (Addr × List Int)) (p : Addr), L.Perm ks → L.Pairwise (fun q r => lexI r.2 q.2 = false) → H p = none → Q (.ref p) (upd H p (.lst (L.map rf)))
theorem cr_sortedN {X : Cx} : CallR X (.builtin "sorted") (rSortedN X.K) := by
  intro pins s σ H vs us Q I r h
  obtain ⟨a, ks, rfl, hs, hk, q⟩ := h
  obtain ⟨its, rv, hl, hz⟩ := I.list hs
  rw [Vals.ref1 r]
  cases refs_in rv
  have key : ∀ p ∈ ks, PyProof.Rows.G.tupKeyC s.heap shI (rfv p) = some (p.2.map Sum.inl) ∧ ∃ f, PyProof.Rows.TupOf s.heap shI (rfv p) f := fun p hp => by
    obtain ⟨h1, h2⟩ := hk p hp
    obtain ⟨us, ru, ⟨o, ho, hc, n, hd⟩, _⟩ := I.tuple h1
    have hi : PyProof.Rows.tupItems shI 0 us.toArray.toList = some (p.2.map Sum.inl) := by simpa using items_in 0 ru
    refine ⟨?_, ?_⟩
    · unfold PyProof.Rows.G.tupKeyC
      have e1 : PyProof.Rows.G.isTupObj s.heap (rfv p) = true := by simp [PyProof.Rows.G.isTupObj, ho, hc]
      rw [if_pos e1]
      simp only [PyProof.Rows.tupKey, ho, hd]
      exact hi
    · obtain ⟨p1, p2⟩ := p
      cases p2 with
      | nil => exact absurd rfl h2
      | cons m ms =>
        cases ru with
        | cons r0 rt =>
          obtain ⟨tk, rfl⟩ := r0
          exact ⟨_, p1, o, _, n, rfl, ho, hc, hd, rfl, fun _ => ⟨m, tk, rfl⟩, fun w => Bool.noConfusion w⟩
  have tups : ∀ ks : List (Addr × List Int), (∀ p ∈ ks, ∃ f, PyProof.Rows.TupOf s.heap shI (rfv p) f) → ∃ fs, PyProof.Rows.TupsOf s.heap shI (ks.map rfv) fs := fun ks => by
    induction ks with
    | nil => intro _; exact ⟨[], .nil⟩
    | cons p ks ih =>
      intro h
      obtain ⟨f, hf⟩ := h p List.mem_cons_self
      obtain ⟨fs, hfs⟩ := ih fun u hu => h u (List.mem_cons_of_mem _ hu)
      exact ⟨f :: fs, .cons hf hfs⟩
  obtain ⟨fs, hfs⟩ := tups ks fun p hp => (key p hp).2
  refine PyProof.Rows.G.sorted_tups (shape := shI) hl.isList hfs (fun v hv => ?_) (by simpa using hz) fun st' hp hs' _ => ?_
  · obtain ⟨p, hp, rfl⟩ := List.mem_map.mp hv
    exact ⟨_, (key p hp).1⟩
  · have hpl : (arrOf st').toList.Perm ((ks.map rfv).zip (ks.map rfv)) := by
      have e := Array.perm_iff_toList_perm.mp hp
      rw [pairsOf_toList] at e
      exact e
    have ho : ((arrOf st').toList.map (·.2)).Perm (ks.map rfv) := by
      have e := hpl.map (·.2)
      rw [List.map_snd_zip (Nat.le_refl _)] at e
      exact e
    obtain ⟨L, l1, l2⟩ := perm_lift rfv ho ks rfl
    have hlen : L.length = (arrOf st').toList.length := by have e := congrArg List.length l2; simpa using e
    have kk : ∀ (i : Nat) (hi : i < L.length), KK (PyProof.Rows.G.tupKindC s.heap shI) (arrOf st') i = L[i].2.map Sum.inl := fun i hi => by
      have hi' : i < (arrOf st').toList.length := by omega
      have e1 : (arrOf st')[i]? = some (arrOf st').toList[i] := by rw [← Array.getElem?_toList]; exact List.getElem?_eq_getElem hi'
      have e2 : (arrOf st').toList[i].2 = rfv L[i] := by
        have e := congrArg (fun l => l[i]?) l2
        simp only [List.getElem?_map, List.getElem?_eq_getElem hi, List.getElem?_eq_getElem hi', Option.map_some] at e
        exact (Option.some.inj e).symm
      have e3 := (mem_zip_self (hpl.mem_iff.mp (List.getElem_mem hi'))).1
      have e4 : L[i] ∈ ks := l1.mem_iff.mp (List.getElem_mem hi)
      unfold KK
      rw [e1]
      show (PyProof.Rows.G.tupKeyC s.heap shI (arrOf st').toList[i].1).getD [] = _
      rw [e3, e2, (key _ e4).1]; rfl
    have pw : L.Pairwise (fun q r => lexI r.2 q.2 = false) := by
      rw [List.pairwise_iff_getElem]
      intro i j hi hj hij
      have e := hs' i j (Nat.le_of_lt hij) (by rw [pairsOf_size, List.length_map, ← l1.length_eq]; exact hj)
      rw [kk i hi, kk j hj] at e
      rw [← lexI_eq]
      exact e
    obtain ⟨ep, he'⟩ := sortedAll_at s.heap (ks.map rfv) ((arrOf st').map (·.2))
    have len : (L.map rf).length ≤ sizeLine := by
      rw [List.length_map, l1.length_eq]; simpa using hz
    have hv : Vals (L.map rf) ((arrOf st').map (·.2)).toList := by rw [Array.toList_map, ← l2]; exact refs_out L
    exact ⟨.ref _, upd H (s.heap.objs.size + 1) (.lst (L.map rf)), I.laid (t' := s.toks) (fun _ _ => sortedAll_old) (Nat.le_succ _) ⟨len, _, ep, hv, he'⟩, rfl, q L _ l1 pw (I.hok.fresh (Nat.le_succ _))⟩
def tupI (ns : List Int) : D := .tup (ns.map D.int)
def gSortedN : List D → (D → Prop) → Prop := fun ds k => ∃ xs : List (List Int), ds = [.lst (xs.map tupI)] ∧ (∀ x ∈ xs, x ≠ []) ∧ ∀ ys : List (List Int), ys.Perm xs → ys.Pairwise (fun q r => lexI r q = false) → k (.lst (ys.map tupI))
theorem tups_of {z : Zn} {M : AP} {H : Hp} : ∀ {xs : List (List Int)} {vs : List V}, IsA z M H vs (xs.map tupI) → ∃ ks : List (Addr × List Int), vs = ks.map rf ∧ ks.map (·.2) = xs ∧ ∀ p ∈ ks, H p.1 = some (.tup (p.2.map V.int)) ∧ ¬ M p.1
  | [], _, .nil => ⟨[], rfl, rfl, fun _ h => nomatch h⟩
  | x :: xs, _, .cons q t => by
    obtain ⟨ks, h1, h2, h3⟩ := tups_of t
    cases (show Is z M H _ (.tup (x.map D.int)) from q) with
    | tup e n r =>
      refine ⟨(_, x) :: ks, by rw [List.map_cons, h1], by rw [List.map_cons, h2], fun p hp => ?_⟩
      rcases List.mem_cons.mp hp with rfl | hp
      · exact ⟨by rw [e, r.ints], n⟩
      · exact h3 p hp
theorem tups_to {z : Zn} {M : AP} {H : Hp} : ∀ {ks : List (Addr × List Int)}, (∀ p ∈ ks, H p.1 = some (.tup (p.2.map V.int)) ∧ ¬ M p.1) → IsA z M H (ks.map rf) ((ks.map (·.2)).map tupI)
  | [], _ => .nil
  | p :: ks, h => .cons (.tup (h p List.mem_cons_self).1 (h p List.mem_cons_self).2 (IsA.ofInts _)) (tups_to fun u hu => h u (List.mem_cons_of_mem _ hu))
theorem cd_sortedN {K : PySem.W.Frag} : CallD true .f (rSortedN K) gSortedN := fun z X H0 H σ env vs ds Q k o h c hp => by
  obtain ⟨xs, rfl, hne, hk⟩ := hp
  obtain ⟨v, rfl, hv⟩ := h.one
  cases hv with
  | lst e n r =>
    obtain ⟨ks, rfl, h2, h3⟩ := tups_of r
    refine ⟨_, ks, rfl, SqL.of e, fun p hp => ⟨SqT.of (h3 p hp).1, hne _ (by rw [← h2]; exact List.mem_map.mpr ⟨p, hp, rfl⟩)⟩, fun L p l1 l2 hq => ?_⟩
    have e2 : (L.map (·.2)).Perm xs := by rw [← h2]; exact l1.map _
    refine c _ _ _ ((Evo.refl _ _).new hq) (Rel.newL hq hq ?_) (hk (L.map (·.2)) e2 (List.pairwise_map.mpr l2))
    rw [if_pos rfl] at h3
    exact tups_to fun u hu => h3 u (l1.mem_iff.mp hu)
theorem gSortedN_i {xs : List (List Int)} {k : D → Prop} (h1 : ∀ x ∈ xs, x ≠ []) (h2 : ∀ ys : List (List Int), ys.Perm xs → ys.Pairwise (fun q r => lexI r q = false) → k (.lst (ys.map tupI))) : gSortedN [.lst (xs.map tupI)] k := ⟨xs, rfl, h1, h2⟩
end Pu

namespace Ew
open PySem PySem.Spec PyProof.Rows L2 Pu
variable [Tbs]
def wp__law_take : List D → (D → Prop) → Prop := fun ds k => match ds with
  | [.deck 4, .int m] => (0 < m ∧ m < 1073741824) ∧ ∀ t : Int, 0 ≤ t → t < m → k (.int t)
  | _ => False
def P_tie (W : List D → List D → (D → List D → Prop) → Prop) : PSt := (sSeq (sIf (tOf (eCall gIsi (aCons (eV 1) (aCons (eC (.ty "int")) aNil)))) (sRetB (eV 1)) sNext)
    (sSeq (sLendS 3 2 W (aCons (eV 0) (aCons (eOp dIx (eV 1) (eC (.int 0))) aNil)))
    (sSeq (sLendS 4 2 W (aCons (eV 0) (aCons (eOp dIx (eV 1) (eC (.int 1))) aNil)))
    (sSeq (sAppend 2 (eTup (aCons (eV 3) (aCons (eV 4) aNil))))
    (sRetB (eOp dSub (eOp dAdd (eV 0) (eCall gLen (aCons (eO 2) aNil))) (eC (.int 1))))))))
def wpR_tie : Nat → List D → List D → (D → List D → Prop) → Prop
  | 0 => fun _ _ _ => False
  | m + 1 => fun ds cs k => ds.length = 2 ∧ wpB 5 (P_tie (wpR_tie m)) ds cs k
def wp_tie : List D → List D → (D → List D → Prop) → Prop := wpR_tie 8
theorem wl_tie : ∀ m ds cs k, wpR_tie m ds cs k → ds.length = 2
  | 0, _, _, _, h => h.elim
  | _ + 1, _, _, _, h => h.1
def P_joining_of : PSt := (sSeq (sOwn 2 (eLst aNil))
    (sSeq (sLend 2 wp_tie (aCons (eV 0) (aCons (eV 1) aNil)))
    (sFrz 2 (sRet (eUn dTuple (eV 2))))))
def wp_joining_of : List D → (D → Prop) → Prop := wpOf false 3 P_joining_of
def P_halved (W : List D → (D → Prop) → Prop) : PSt := (sSeq (sIf (tOf (eOp dEq (eCall gLen (aCons (eV 1) aNil)) (eC (.int 1)))) (sRet (eOp dIx (eV 1) (eC (.int 0)))) sNext)
    (sSeq (sSet 3 (eCall gSortedN (aCons (eLc [4] (iSeq (eV 1)) (gtName 4) (fun _ k => k true) (eTup (aCons (eOp dIx (eOp dIx (eV 0) (eV 4)) (eV 2)) (aCons (eOp dIx (eOp dIx (eV 0) (eV 4)) (eOp dSub (eC (.int 1)) (eV 2))) (aCons (eV 4) aNil))))) aNil)))
    (sSeq (sSet 5 (eLc [6, 7, 4] (iSeq (eV 3)) (gtTup 3 (gtCons (gtName 6) (gtCons (gtName 7) (gtCons (gtName 4) gtNil)))) (fun _ k => k true) (eV 4)))
    (sSeq (sSet 8 (eOp dDiv (eOp dAdd (eCall gLen (aCons (eV 1) aNil)) (eC (.int 1))) (eC (.int 2))))
    (sRet (eTup (aCons (eCall (fun ds k => ds.length = 3 ∧ W ds k) (aCons (eV 0) (aCons (eSl (eV 5) oNo (oPart (eV 8))) (aCons (eOp dSub (eC (.int 1)) (eV 2)) aNil)))) (aCons (eCall (fun ds k => ds.length = 3 ∧ W ds k) (aCons (eV 0) (aCons (eSl (eV 5) (oPart (eV 8)) oNo) (aCons (eOp dSub (eC (.int 1)) (eV 2)) aNil)))) aNil))))))))
def wpR_halved : Nat → List D → (D → Prop) → Prop
  | 0 => fun _ _ => False
  | m + 1 => wpOf false 9 (P_halved (wpR_halved m))
def wp_halved : List D → (D → Prop) → Prop := wpR_halved 8
def P_halved_joining : PSt := (sRet (eCall (fun ds k => ds.length = 2 ∧ wp_joining_of ds k) (aCons (eCall gLen (aCons (eV 0) aNil)) (aCons (eCall (fun ds k => ds.length = 3 ∧ wp_halved ds k) (aCons (eV 0) (aCons (eRg1 .lst (eCall gLen (aCons (eV 0) aNil))) (aCons (eC (.int 0)) aNil)))) aNil))))
def wp_halved_joining : List D → (D → Prop) → Prop := wpOf false 1 P_halved_joining
def P__law_place : PSt := (sSeq (sIf (tOf (eOp dEq (eV 1) (eC (.int 0)))) (sRet (eTup (aCons (eCall (fun ds k => ds.length = 2 ∧ wp__law_take ds k) (aCons (eV 0) (aCons (eC (.int 7)) aNil))) (aCons (eCall (fun ds k => ds.length = 2 ∧ wp__law_take ds k) (aCons (eV 0) (aCons (eC (.int 7)) aNil))) aNil)))) sNext)
    (sSeq (sIf (tOf (eOp dEq (eV 1) (eC (.int 1)))) (sRet (eTup (aCons (eOp dSub (eCall (fun ds k => ds.length = 2 ∧ wp__law_take ds k) (aCons (eV 0) (aCons (eC (.int 41)) aNil))) (eC (.int 20))) (aCons (eC (.int 3)) aNil)))) sNext)
    (sSeq (sIf (tOf (eOp dEq (eV 1) (eC (.int 2)))) (sSeq (sSet 2 (eOp dSub (eCall (fun ds k => ds.length = 2 ∧ wp__law_take ds k) (aCons (eV 0) (aCons (eC (.int 41)) aNil))) (eC (.int 20))))
    (sRet (eTup (aCons (eV 2) (aCons (eOp dSub (eC (.int 5)) (eV 2)) aNil))))) sNext)
    (sSeq (sIf (tOf (eOp dEq (eV 1) (eC (.int 3)))) (sSeq (sSet 3 (eLst (aCons (eC (.int 1000000)) (aCons (eOp dSub (eC (.int 0)) (eC (.int 1000000))) (aCons (eOp dSub (eC (.int 1000000)) (eC (.int 1))) (aCons (eOp dSub (eC (.int 1)) (eC (.int 1000000))) (aCons (eC (.int 0)) aNil)))))))
    (sRet (eTup (aCons (eOp dIx (eV 3) (eCall (fun ds k => ds.length = 2 ∧ wp__law_take ds k) (aCons (eV 0) (aCons (eC (.int 5)) aNil)))) (aCons (eOp dIx (eV 3) (eCall (fun ds k => ds.length = 2 ∧ wp__law_take ds k) (aCons (eV 0) (aCons (eC (.int 5)) aNil)))) aNil))))) sNext)
    (sSeq (sIf (tOf (eOp dEq (eV 1) (eC (.int 4)))) (sRet (eTup (aCons (eC (.int 4)) (aCons (eOp dSub (eC (.int 0)) (eC (.int 9))) aNil)))) sNext)
    (sRet (eTup (aCons (eOp dSub (eCall (fun ds k => ds.length = 2 ∧ wp__law_take ds k) (aCons (eV 0) (aCons (eOp dAdd (eOp dMul (eC (.int 2)) (eC (.int 1000000))) (eC (.int 1))) aNil))) (eC (.int 1000000))) (aCons (eOp dSub (eCall (fun ds k => ds.length = 2 ∧ wp__law_take ds k) (aCons (eV 0) (aCons (eOp dAdd (eOp dMul (eC (.int 2)) (eC (.int 1000000))) (eC (.int 1))) aNil))) (eC (.int 1000000))) aNil)))))))))
def wp__law_place : List D → (D → Prop) → Prop := wpOf false 4 P__law_place
def P__law_ends : PSt := (sSeq (sSet 1 (eOp dEq (eCall (fun ds k => ds.length = 2 ∧ wp__law_take ds k) (aCons (eV 0) (aCons (eC (.int 8)) aNil))) (eC (.int 5))))
    (sSeq (sSet 2 (eCall (fun ds k => ds.length = 2 ∧ wp__law_take ds k) (aCons (eV 0) (aCons (eC (.int 6)) aNil))))
    (sSeq (sSet 3 (eOp dAdd (eC (.int 1)) (eCall (fun ds k => ds.length = 2 ∧ wp__law_take ds k) (aCons (eV 0) (aCons (eC (.int 6)) aNil)))))
    (sSeq (sIf (tOf (eV 1)) (sSet 3 (eOp dAdd (eC (.int 7)) (eCall (fun ds k => ds.length = 2 ∧ wp__law_take ds k) (aCons (eV 0) (aCons (eC (.int 18)) aNil))))) sNext)
    (sSeq (sOwn 4 (eLst aNil))
    (sSeq (sFor (iRange1 (aCons (eV 3) aNil)) (gtName 5)
    (sSeq (sAsg (eCall (fun ds k => ds.length = 2 ∧ wp__law_place ds k) (aCons (eV 0) (aCons (eV 2) aNil))) (gtTup 2 (gtCons (gtName 6) (gtCons (gtName 7) gtNil))))
    (sSeq (sIf (tAndP (tOf (eOp dNe (eO 4) (eLst aNil))) (tOf (eOp dEq (eCall (fun ds k => ds.length = 2 ∧ wp__law_take ds k) (aCons (eV 0) (aCons (eC (.int 4)) aNil))) (eC (.int 1))))) (sAsg (eSl (eOp dIx (eO 4) (eCall (fun ds k => ds.length = 2 ∧ wp__law_take ds k) (aCons (eV 0) (aCons (eCall gLen (aCons (eO 4) aNil)) aNil)))) oNo (oPart (eC (.int 2)))) (gtTup 2 (gtCons (gtName 6) (gtCons (gtName 7) gtNil)))) sNext)
    (sAppend 4 (eTup (aCons (eV 6) (aCons (eV 7) (aCons (eCall (fun ds k => ds.length = 2 ∧ wp__law_take ds k) (aCons (eV 0) (aCons (eOp dAdd (eC (.int 1000000)) (eC (.int 1))) aNil))) (aCons (eCall (fun ds k => ds.length = 2 ∧ wp__law_take ds k) (aCons (eV 0) (aCons (eOp dAdd (eC (.int 1000000)) (eC (.int 1))) aNil))) aNil)))))))))
    (sFrz 4 (sRet (eUn dTuple (eV 4))))))))))
def wp__law_ends : List D → (D → Prop) → Prop := wpOf false 8 P__law_ends
def P__law_rank : PSt := (sSeq (sSet 4 (eC (.int 0)))
    (sSeq (sSet 5 (eOp dIx (eV 0) (eV 2)))
    (sSeq (sFor (iSeq (eV 1)) (gtName 6)
    (sSeq (sSet 7 (eOp dIx (eV 0) (eV 6)))
    (sSeq (sSet 8 (eOp dSub (eOp dIx (eV 7) (eV 3)) (eOp dIx (eV 5) (eV 3))))
    (sSeq (sSet 9 (eOp dSub (eOp dIx (eV 7) (eOp dSub (eC (.int 1)) (eV 3))) (eOp dIx (eV 5) (eOp dSub (eC (.int 1)) (eV 3)))))
    (sIf (tOrP (tOf (eOp dLt (eV 8) (eC (.int 0)))) (tAndP (tOf (eOp dEq (eV 8) (eC (.int 0)))) (tOrP (tOf (eOp dLt (eV 9) (eC (.int 0)))) (tAndP (tOf (eOp dEq (eV 9) (eC (.int 0)))) (tOf (eOp dLt (eV 6) (eV 2))))))) (sSet 4 (eOp dAdd (eV 4) (eC (.int 1)))) sNext)))))
    (sRet (eV 4)))))
def wp__law_rank : List D → (D → Prop) → Prop := wpOf false 10 P__law_rank
def P__law_due (W : List D → List D → (D → List D → Prop) → Prop) : PSt := (sSeq (sIf (tOf (eOp dEq (eCall gLen (aCons (eV 1) aNil)) (eC (.int 1)))) (sRetB (eOp dIx (eV 1) (eC (.int 0)))) sNext)
    (sSeq (sOwn 4 (eLst aNil))
    (sSeq (sOwn 5 (eLst aNil))
    (sSeq (sFor (iSeq (eV 1)) (gtName 6)
    (sIf (tOf (eOp dLt (eOp dMul (eC (.int 2)) (eCall (fun ds k => ds.length = 4 ∧ wp__law_rank ds k) (aCons (eV 0) (aCons (eV 1) (aCons (eV 6) (aCons (eV 2) aNil)))))) (eCall gLen (aCons (eV 1) aNil)))) (sAppend 4 (eV 6)) (sAppend 5 (eV 6))))
    (sFrz 4 (sFrz 5 (sSeq (sLendS 7 3 W (aCons (eV 0) (aCons (eV 4) (aCons (eOp dSub (eC (.int 1)) (eV 2)) aNil))))
    (sSeq (sLendS 8 3 W (aCons (eV 0) (aCons (eV 5) (aCons (eOp dSub (eC (.int 1)) (eV 2)) aNil))))
    (sSeq (sAppend 3 (eTup (aCons (eV 7) (aCons (eV 8) aNil))))
    (sRetB (eOp dSub (eOp dAdd (eCall gLen (aCons (eV 0) aNil)) (eCall gLen (aCons (eO 3) aNil))) (eC (.int 1)))))))))))))
def wpR__law_due : Nat → List D → List D → (D → List D → Prop) → Prop
  | 0 => fun _ _ _ => False
  | m + 1 => fun ds cs k => ds.length = 3 ∧ wpB 9 (P__law_due (wpR__law_due m)) ds cs k
def wp__law_due : List D → List D → (D → List D → Prop) → Prop := wpR__law_due 8
theorem wl__law_due : ∀ m ds cs k, wpR__law_due m ds cs k → ds.length = 3
  | 0, _, _, _, h => h.elim
  | _ + 1, _, _, _, h => h.1
def P_law : PSt := (sSeq (sFor (iRange1 (aCons (eC (.int 3)) aNil)) (gtName 2)
    (sSeq (sSet 3 (eCall (fun ds k => ds.length = 1 ∧ wp__law_ends ds k) (aCons (eV 1) aNil)))
    (sSeq (sOwn 4 (eLst aNil))
    (sSeq (sLend 4 wp__law_due (aCons (eV 3) (aCons (eRg1 .lst (eCall gLen (aCons (eV 3) aNil))) (aCons (eC (.int 0)) aNil))))
    (sSeq (sSet 5 (eUn dTuple (eLc [6] (iSeq (eV 3)) (gtName 6) (fun _ k => k true) (eOp dAdd (eSl (eV 6) oNo (oPart (eC (.int 2)))) (eTup (aCons (eOp dIx (eV 6) (eC (.int 3))) (aCons (eOp dIx (eV 6) (eC (.int 2))) aNil)))))))
    (sFor (iSeq (eTup (aCons (eV 3) (aCons (eV 5) (aCons (eV 3) aNil))))) (gtName 7)
    (sIf (tOf (eOp dNeS (eCall gRepr (aCons (eCall (fun ds k => ds.length = 1 ∧ wp_halved_joining ds k) (aCons (eV 7) aNil)) aNil)) (eCall gRepr (aCons (eUn dTuple (eO 4)) aNil)))) (sRet (eC (.bl false))) sNext)))))))
    (sRet (eC (.bl true))))
end Ew
namespace Ew
open PySem PySem.Spec PyProof.Rows L2 Pu
variable [Tbs]
section
local macro_rules | `(tactic| walk_at "pscall") => `(tactic| fail)
local macro_rules | `(tactic| walk_at "psside") => `(tactic| first
  | exact Or.inl ⟨by decide, by decide⟩
  | exact Or.inr ⟨by decide, by decide⟩
  | exact ⟨by decide, by decide, by decide⟩
  | exact ⟨by decide, by decide⟩
  | decide
  | omega
  | (unfold CMul; omega)
  | (unfold CDiv; omega))
local macro_rules | `(tactic| walk_at "ps") => `(tactic| first
  | with_reducible refine nx_i ?_
  | with_reducible refine rt_i ?_
  | with_reducible refine blK_i ?_
  | with_reducible refine sSeq_set ?_
  | with_reducible refine sSeq_setM ?_
  | with_reducible refine sSetM_i ?_
  | ((with_reducible refine' sDput_i ?ps1 ?_); (case ps1 => exact rfl))
  | ((with_reducible refine' eO_d ?ps1 ?_); (case ps1 => exact rfl))
  | with_reducible refine dDin_i ?_
  | with_reducible refine mE_i ?_
  | with_reducible refine mLst_i ?_
  | with_reducible refine mTup_i ?_
  | with_reducible refine mCons_i ?_
  | with_reducible refine mNil_i ?_
  | ((with_reducible refine' mPop_i ?ps1 ?_); (case ps1 => exact rfl))
  | ((with_reducible refine' mPop0_i ?ps1 ?_); (case ps1 => exact rfl))
  | with_reducible refine sSeq_ifr ?_
  | with_reducible refine sSeq_asg ?_
  | with_reducible refine sSeq_own ?_
  | with_reducible refine sSeq_app ?_
  | with_reducible refine sSeq_for ?_
  | with_reducible refine sSeq_par ?_
  | with_reducible refine sSeq_drop ?_
  | with_reducible refine sSeq_put ?_
  | with_reducible refine sSeq_pop ?_
  | with_reducible refine sSeq_ifn ?_
  | ((with_reducible refine' eV_i ?ps1 ?_); (case ps1 => exact rfl))
  | with_reducible refine eOp_i ?_
  | with_reducible refine eC_i ?_
  | ((with_reducible refine' dIx_t ?ps1 ?_); (case ps1 => exact rfl))
  | with_reducible refine dI0_i ?_
  | with_reducible refine dAdd_i ?_
  | with_reducible refine aCons_i ?_
  | with_reducible refine dEq_int ?_
  | with_reducible refine dNe_int ?_
  | with_reducible refine aNil_i ?_
  | with_reducible refine eCall_i ?_
  | walk_at "pscall"
  | ((with_reducible refine' and_rfl ?ps1 ?_); (case ps1 => exact rfl))
  | with_reducible refine sSet_i ?_
  | with_reducible refine sNext_i ?_
  | with_reducible refine sRet_i ?_
  | with_reducible refine eTup_i ?_
  | ((with_reducible refine' and_le ?ps1 ?_); (case ps1 => exact rfl))
  | with_reducible refine tOf_i ?_
  | with_reducible refine sIf_i ?_
  | with_reducible refine tAndP_i ?_
  | with_reducible refine tOrP_i ?_
  | with_reducible refine tNotP_i ?_
  | with_reducible refine gMax_2 ?_
  | with_reducible refine gMin_2 ?_
  | with_reducible refine gMax_3 ?_
  | with_reducible refine gMin_3 ?_
  | with_reducible refine gMax_4 ?_
  | with_reducible refine gMin_4 ?_
  | with_reducible refine gMax_5 ?_
  | with_reducible refine gAbs_i ?_
  | with_reducible refine gLen_t ?_
  | with_reducible refine gLen_l ?_
  | with_reducible refine gInt_i ?_
  | with_reducible refine gInt_b ?_
  | ((with_reducible refine' gIsi_i ?ps1 ?ps2 ?_); (case ps1 => exact rfl); (case ps2 => exact rfl))
  | with_reducible refine sAsg_i ?_
  | ((with_reducible refine' gtTup_i ?ps1 ?_); (case ps1 => exact rfl))
  | with_reducible refine gtCons_i ?_
  | with_reducible refine gtNil_i ?_
  | with_reducible refine gtName_i ?_
  | with_reducible refine sPar_i ?_
  | with_reducible refine prK_i ?_
  | with_reducible refine inK_i ?_
  | with_reducible refine sqK_t ?_
  | with_reducible refine sqK_l ?_
  | with_reducible refine bk_i ?_
  | with_reducible refine ct_i ?_
  | with_reducible refine eUn_i ?_
  | with_reducible refine dNeg_i ?_
  | with_reducible refine dNot_i ?_
  | with_reducible refine eAnd_i ?_
  | with_reducible refine eOr_i ?_
  | with_reducible refine eChain_i ?_
  | with_reducible refine eIf_i ?_
  | ((with_reducible refine' dIx_l ?ps1 ?_); (case ps1 => exact rfl))
  | with_reducible refine eLst_i ?_
  | with_reducible refine dTuple_l ?_
  | with_reducible refine dTuple_t ?_
  | with_reducible refine dList_l ?_
  | with_reducible refine dList_t ?_
  | ((with_reducible refine' eO_i ?ps1 ?_); (case ps1 => exact rfl))
  | with_reducible refine sOwn_i ?_
  | ((with_reducible refine' and_lt ?ps1 ?_); (case ps1 => exact rfl))
  | ((with_reducible refine' sAppend_i ?ps1 ?_); (case ps1 => exact rfl))
  | ((with_reducible refine' sFrz_i ?ps1 ?_); (case ps1 => exact rfl))
  | ((with_reducible refine' sRetO_i ?ps1 ?_); (case ps1 => exact rfl))
  | with_reducible refine sRetN_i ?_
  | with_reducible refine sDrop_i ?_
  | with_reducible refine sFor_i ?_
  | with_reducible refine iRange1_i ?_
  | with_reducible refine iRange2_i ?_
  | with_reducible refine iSeq_i ?_
  | with_reducible refine iEnumS_i ?_
  | with_reducible refine iEnum0_i ?_
  | with_reducible refine en0K_t ?_
  | with_reducible refine en0K_l ?_
  | with_reducible refine iRev1_i ?_
  | with_reducible refine sSeq_ins ?_
  | with_reducible refine sSeq_aug ?_
  | ((with_reducible refine' sAug_i ?ps1 ?_); (case ps1 => exact rfl))
  | ((with_reducible refine' sInsert_i ?ps1 ?_); (case ps1 => exact rfl))
  | ((with_reducible refine' sPopAt_i ?ps1 ?_); (case ps1 => exact rfl))
  | with_reducible refine eSl_i ?_
  | with_reducible refine eLc_i ?_
  | with_reducible refine eLc2_i ?_
  | with_reducible refine oNo_i ?_
  | with_reducible refine oPart_i ?_
  | with_reducible refine dSl_t ?_
  | with_reducible refine dSl_l ?_
  | with_reducible refine dRevL_i ?_
  | with_reducible refine eRg1_i ?_
  | with_reducible refine bCase_t ?_
  | with_reducible refine bCase_f ?_
  | with_reducible refine ite_t ?_
  | with_reducible refine ite_f ?_
  | with_reducible refine ite_nt ?_
  | with_reducible refine ite_nf ?_
  | ((with_reducible refine' dII_i ?ps1 ?_); (case ps1 => walk_at "psside")))

local macro_rules | `(tactic| walk_at "psenv") => `(tactic| simp only [List.map_cons, List.map_nil, List.cons_append, List.nil_append, List.length_cons, List.length_nil, Nat.reduceAdd, Nat.reduceSub, List.replicate])
structure En where
  (x y s l : Int)
abbrev enD (e : En) : D := .tup [.int e.x, .int e.y, .int e.s, .int e.l]
theorem draw_i {m : Int} {k : D → Prop} (m0 : 0 < m) (m1 : m < 1073741824) (h : ∀ t : Int, 0 ≤ t → t < m → k (.int t)) : wp__law_take [.deck 4, .int m] k := ⟨⟨m0, m1⟩, h⟩
theorem at_nat {α : Type} {xs : List α} {i : Int} {d : α} (h0 : 0 ≤ i) (h : xs[i.toNat]? = some d) : atI xs i = some d := by
  have hl : i.toNat < xs.length := (List.getElem?_eq_some_iff.mp h).1
  unfold atI ixN
  rw [if_pos h0, if_pos (by omega)]
  exact h
theorem rangeD_at {lo : Int} {n i : Nat} {d : D} (h : (rangeD lo n)[i]? = some d) : d = .int (lo + (i : Nat)) ∧ i < n := by
  have hl := (List.getElem?_eq_some_iff.mp h).1
  have hi : i < n := by simpa [rangeD] using hl
  refine ⟨?_, hi⟩
  simpa [rangeD, hi, List.getElem?_map, List.getElem?_range] using h.symm
theorem rangeD_len {lo : Int} {n : Nat} : (rangeD lo n).length = n := by simp [rangeD]
def OkI (x : Int) : Prop := -1000000 ≤ x ∧ x ≤ 1000000
def OkE (e : En) : Prop := OkI e.x ∧ OkI e.y ∧ 0 ≤ e.s ∧ e.s ≤ 1000000 ∧ 0 ≤ e.l ∧ e.l ≤ 1000000
theorem place_i {m : Int} {k : D → Prop} (h : ∀ x y : Int, OkI x → OkI y → k (.tup [.int x, .int y])) : wp__law_place [.deck 4, .int m] k := by
  unfold wp__law_place wpOf
  walk_at "psenv"
  unfold P__law_place
  repeat walk_at "ps"
  refine ite_d (fun _ => ?_) (fun _ => ?_)
  · repeat walk_at "ps"
    refine draw_i (by decide) (by decide) fun x x0 x1 => ?_
    repeat walk_at "ps"
    refine draw_i (by decide) (by decide) fun y y0 y1 => ?_
    repeat walk_at "ps"
    exact h _ _ ⟨by omega, by omega⟩ ⟨by omega, by omega⟩
  repeat walk_at "ps"
  refine ite_d (fun _ => ?_) (fun _ => ?_)
  · repeat walk_at "ps"
    refine draw_i (by decide) (by decide) fun x x0 x1 => ?_
    repeat walk_at "ps"
    exact h _ _ ⟨by omega, by omega⟩ ⟨by omega, by omega⟩
  repeat walk_at "ps"
  refine sSeq_i ?_
  repeat walk_at "ps"
  refine ite_d (fun _ => ?_) (fun _ => ?_)
  · repeat walk_at "ps"
    refine draw_i (by decide) (by decide) fun x x0 x1 => ?_
    repeat walk_at "ps"
    exact h _ _ ⟨by omega, by omega⟩ ⟨by omega, by omega⟩
  repeat walk_at "ps"
  refine sSeq_i ?_
  repeat walk_at "ps"
  refine ite_d (fun _ => ?_) (fun _ => ?_)
  · have ed : ∀ d : D, d ∈ [D.int 1000000, .int (0 - 1000000), .int (1000000 - 1), .int (1 - 1000000), .int 0] → ∃ x : Int, d = .int x ∧ OkI x := fun d hd => by
      simp only [List.mem_cons, List.not_mem_nil, or_false] at hd
      rcases hd with rfl | rfl | rfl | rfl | rfl <;> exact ⟨_, rfl, by decide, by decide⟩
    repeat walk_at "ps"
    refine draw_i (by decide) (by decide) fun x x0 x1 => ?_
    refine dIx_in x0 x1 fun d hd => ?_
    obtain ⟨x, rfl, hx⟩ := ed d hd
    repeat walk_at "ps"
    refine draw_i (by decide) (by decide) fun y y0 y1 => ?_
    refine dIx_in y0 y1 fun d hd => ?_
    obtain ⟨y, rfl, hy⟩ := ed d hd
    repeat walk_at "ps"
    exact h _ _ hx hy
  repeat walk_at "ps"
  refine ite_d (fun _ => ?_) (fun _ => ?_)
  · repeat walk_at "ps"
    exact h _ _ ⟨by decide, by decide⟩ ⟨by decide, by decide⟩
  repeat walk_at "ps"
  refine draw_i (by decide) (by decide) fun x x0 x1 => ?_
  repeat walk_at "ps"
  refine draw_i (by decide) (by decide) fun y y0 y1 => ?_
  repeat walk_at "ps"
  exact h _ _ ⟨by omega, by omega⟩ ⟨by omega, by omega⟩
theorem plnEn {n : Nat} (es : List En) : plnA (n + 2) (es.map enD) = true := by
  rw [plnA_iff]
  intro x hx
  obtain ⟨e, _, rfl⟩ := List.mem_map.mp hx
  simp [pln, plnA]
theorem ends_i {k : D → Prop} (h : ∀ es : List En, 1 ≤ es.length → es.length ≤ 24 → (∀ e ∈ es, OkE e) → k (.tup (es.map enD))) : wp__law_ends [.deck 4] k := by
  unfold wp__law_ends wpOf
  walk_at "psenv"
  unfold P__law_ends
  repeat walk_at "ps"
  refine draw_i (by decide) (by decide) fun t t0 t1 => ?_
  repeat walk_at "ps"
  refine draw_i (by decide) (by decide) fun w w0 w1 => ?_
  repeat walk_at "ps"
  refine draw_i (by decide) (by decide) fun m' m0' m1' => ?_
  repeat walk_at "ps"
  generalize decide (t = 5) = bb
  refine sSeq_mid (fun env => ∃ m : Int, 1 ≤ m ∧ m ≤ 24 ∧ env = [SV.val (.deck 4), SV.val (.bl bb), SV.val (.int w), SV.val (.int m), SV.no, SV.no, SV.no, SV.no]) ?_ ?_
  · intro N' hN'
    repeat walk_at "ps"
    cases bb with
    | true =>
      repeat walk_at "ps"
      refine draw_i (by decide) (by decide) fun t t0 t1 => ?_
      repeat walk_at "ps"
      exact hN' _ ⟨_, by omega, by omega, rfl⟩
    | false =>
      repeat walk_at "ps"
      exact hN' _ ⟨_, by omega, by omega, rfl⟩
  rintro env ⟨m, m0, m1, rfl⟩
  repeat walk_at "ps"
  refine rgK1_i (by omega) (by omega) ?_
  refine forP_i (fun i env => ∃ (es : List En) (v6 v7 v8 : SV), env = [SV.val (.deck 4), SV.val (.bl bb), SV.val (.int w), SV.val (.int m), SV.own (.lst (es.map enD)), v6, v7, v8] ∧ es.length = i ∧ ∀ e ∈ es, OkE e) _ 0 ⟨[], _, _, _, rfl, rfl, by simp⟩ ?_ ?_
  · rintro i d env hd ⟨es, v6, v7, v8, rfl, hl, ho⟩ N hN
    obtain ⟨rfl, hi⟩ := rangeD_at hd
    repeat walk_at "ps"
    refine place_i fun px py hpx hpy => ?_
    repeat walk_at "ps"
    refine sSeq_mid (fun env => ∃ (px py : Int), OkI px ∧ OkI py ∧ env = [SV.val (.deck 4), SV.val (.bl bb), SV.val (.int w), SV.val (.int m), SV.own (.lst (es.map enD)), SV.val (.int (0 + (i : Nat))), SV.val (.int px), SV.val (.int py)]) ?_ ?_
    · intro N' hN'
      have skip : N' [SV.val (.deck 4), SV.val (.bl bb), SV.val (.int w), SV.val (.int m), SV.own (.lst (es.map enD)), SV.val (.int (0 + (i : Nat))), SV.val (.int px), SV.val (.int py)] := hN' _ ⟨px, py, hpx, hpy, rfl⟩
      repeat walk_at "ps"
      refine dNe_nil (plnEn es) ?_
      repeat walk_at "ps"
      refine ite_n (fun hne => ?_) (fun _ => skip)
      have hpos : 0 < es.length := List.length_pos_iff.mpr fun q => hne (by rw [q]; rfl)
      repeat walk_at "ps"
      refine draw_i (by decide) (by decide) fun a a0 a1 => ?_
      repeat walk_at "ps"
      refine ite_d (fun _ => ?_) (fun _ => skip)
      repeat walk_at "ps"
      refine draw_i (by rw [List.length_map]; omega) (by rw [List.length_map]; omega) fun j j0 j1 => ?_
      refine dIx_in j0 j1 fun d hd => ?_
      obtain ⟨e, he, rfl⟩ := List.mem_map.mp hd
      repeat walk_at "ps"
      exact hN' _ ⟨e.x, e.y, (ho e he).1, (ho e he).2.1, rfl⟩
    · rintro env ⟨px, py, hpx, hpy, rfl⟩
      repeat walk_at "ps"
      refine draw_i (by decide) (by decide) fun a a0 a1 => ?_
      repeat walk_at "ps"
      refine draw_i (by decide) (by decide) fun b b0 b1 => ?_
      repeat walk_at "ps"
      refine ⟨by rw [List.length_map]; omega, hN _ ⟨es ++ [⟨px, py, a, b⟩], _, _, _, by rw [List.map_append]; rfl, by simp [hl], fun e he => ?_⟩⟩
      rcases List.mem_append.mp he with q | q
      · exact ho e q
      · rw [List.mem_singleton.mp q]
        exact ⟨hpx, hpy, a0, by show a ≤ 1000000; omega, b0, by show b ≤ 1000000; omega⟩
  · rintro env ⟨es, v6, v7, v8, rfl, hl, ho⟩
    rw [rangeD_len] at hl
    repeat walk_at "ps"
    exact h es (by omega) (by omega) ho
/-! ### nests, tied -/
inductive Nt where
  | lf (n : Int) | pr (a b : Nt)
def Nt.d : Nt → D
  | .lf n => .int n
  | .pr a b => .tup [a.d, b.d]
def Nt.h : Nt → Nat
  | .lf _ => 1
  | .pr a b => 1 + max a.h b.h
def Nt.sz : Nt → Nat
  | .lf _ => 0
  | .pr a b => a.sz + b.sz + 1
abbrev pD (r : Int × Int) : D := .tup [.int r.1, .int r.2]
def tieF (n : Int) : Nt → List (Int × Int) → Int × List (Int × Int)
  | .lf i, rows => (i, rows)
  | .pr a b, rows => (n + ((tieF n b (tieF n a rows).2).2.length : Nat), (tieF n b (tieF n a rows).2).2 ++ [((tieF n a rows).1, (tieF n b (tieF n a rows).2).1)])
theorem tieF_len (n : Int) : ∀ (t : Nt) (rows : List (Int × Int)), (tieF n t rows).2.length = rows.length + t.sz
  | .lf _, rows => rfl
  | .pr a b, rows => by
    simp only [tieF, Nt.sz, List.length_append, List.length_cons, List.length_nil]
    rw [tieF_len n b, tieF_len n a]; omega
theorem lendS_b {i r : Nat} {wp : List D → List D → (D → List D → Prop) → Prop} {g : PAs} {env : List SV} {k : PK'} {cs : List D} (e : env[r]? = some (.own (.bor cs))) (h : g env fun ds => wp ds cs fun d cs' => k.nx ((env.set r (.own (.bor cs'))).set i (.val d))) : sLendS i r wp g env k := by
  unfold sLendS lendP; rw [e]; exact h
theorem lend_l {r : Nat} {wp : List D → List D → (D → List D → Prop) → Prop} {g : PAs} {env : List SV} {k : PK'} {cs : List D} (e : env[r]? = some (.own (.lst cs))) (h : g env fun ds => wp ds cs fun d cs' => k.nx (env.set r (.own (.lst cs')))) : sLend r wp g env k := by
  unfold sLend lendP; rw [e]; exact h
theorem append_b {i : Nat} {p : PX} {env : List SV} {k : PK'} {xs : List D} (e : env[i]? = some (.own (.bor xs))) (h : p env fun d => xs.length ≤ 100000 ∧ k.nx (env.set i (.own (.bor (xs ++ [d]))))) : sAppend i p env k := by
  unfold sAppend; rw [e]; exact h
theorem eO_b {i : Nat} {env : List SV} {xs : List D} {k : D → Prop} (e : env[i]? = some (.own (.bor xs))) (h : k (.lst xs)) : eO i env k := by unfold eO; rw [e]; exact h
theorem sRetB_i {p : PX} {env : List SV} {k : PK'} (h : p env fun d => k.re env d) : sRetB p env k := h
set_option maxHeartbeats 2000000 in
theorem tie_i {n : Int} : ∀ (m : Nat) (t : Nt) (rows : List (Int × Int)) (k : D → List D → Prop), t.h ≤ m → rows.length + t.sz ≤ 90000 → k (.int (tieF n t rows).1) ((tieF n t rows).2.map pD) → wpR_tie m [.int n, t.d] (rows.map pD) k
  | 0, t, rows, k, hh, _, _ => by cases t <;> simp [Nt.h] at hh
  | m + 1, .lf i, rows, k, hh, hb, hk => by
    refine ⟨rfl, ?_⟩
    unfold wpB
    show P_tie (wpR_tie m) [SV.val (.int n), SV.val (.int i), SV.own (.bor (rows.map pD)), SV.no, SV.no] _
    unfold P_tie
    refine sSeq_i ?_
    repeat walk_at "ps"
    refine sRetB_i ?_
    repeat walk_at "ps"
    exact hk
  | m + 1, .pr a b, rows, k, hh, hb, hk => by
    have ih := tie_i (n := n) m
    simp only [Nt.h, Nt.sz] at hh hb
    refine ⟨rfl, ?_⟩
    unfold wpB
    show P_tie (wpR_tie m) [SV.val (.int n), SV.val (.tup [a.d, b.d]), SV.own (.bor (rows.map pD)), SV.no, SV.no] _
    unfold P_tie
    refine sSeq_i ?_
    repeat walk_at "ps"
    dsimp only
    refine sSeq_i ?_
    refine lendS_b (by rfl) ?_
    repeat walk_at "ps"
    refine ih a rows _ (by omega) (by omega) ?_
    repeat walk_at "ps"
    dsimp only
    refine sSeq_i ?_
    refine lendS_b (by rfl) ?_
    repeat walk_at "ps"
    refine ih b _ _ (by omega) (by rw [tieF_len]; omega) ?_
    repeat walk_at "ps"
    have hl : ((tieF n b (tieF n a rows).2).2.map pD).length ≤ 100000 := by rw [List.length_map, tieF_len, tieF_len]; omega
    dsimp only
    refine append_b (by rfl) ?_
    repeat walk_at "ps"
    refine ⟨hl, ?_⟩
    dsimp only
    refine sRetB_i ?_
    repeat walk_at "ps"
    refine eO_b (by rfl) ?_
    repeat walk_at "ps"
    have e1 : n + (((tieF n b (tieF n a rows).2).2.map pD ++ [pD ((tieF n a rows).1, (tieF n b (tieF n a rows).2).1)]).length : Nat) - 1 = (tieF n (.pr a b) rows).1 := by
      simp only [tieF, List.length_append, List.length_map, List.length_cons, List.length_nil]; omega
    have e2 : (tieF n b (tieF n a rows).2).2.map pD ++ [pD ((tieF n a rows).1, (tieF n b (tieF n a rows).2).1)] = (tieF n (.pr a b) rows).2.map pD := by
      simp only [tieF, List.map_append, List.map_cons, List.map_nil]
    show k (.int (n + (((tieF n b (tieF n a rows).2).2.map pD ++ [pD ((tieF n a rows).1, (tieF n b (tieF n a rows).2).1)]).length : Nat) - 1)) ((tieF n b (tieF n a rows).2).2.map pD ++ [pD ((tieF n a rows).1, (tieF n b (tieF n a rows).2).1)])
    rw [e1, e2]
    exact hk
set_option maxHeartbeats 2000000 in
theorem joining_of_i {n : Int} {t : Nt} {k : D → Prop} (hh : t.h ≤ 8) (hb : t.sz ≤ 90000) (hk : k (.tup ((tieF n t []).2.map pD))) : wp_joining_of [.int n, t.d] k := by
  unfold wp_joining_of wpOf
  walk_at "psenv"
  unfold P_joining_of
  repeat walk_at "ps"
  refine sSeq_i ?_
  refine lend_l (by rfl) ?_
  repeat walk_at "ps"
  refine tie_i 8 t [] _ hh (by simpa using hb) ?_
  repeat walk_at "ps"
  exact hk
/-! ### the order of ends by a way -/
theorem lx_trans {a b c : List Int} (h1 : lexI b a = false) (h2 : lexI c b = false) : lexI c a = false := by
  rw [← lexI_eq] at h1 h2 ⊢
  exact KeyOrd.kle_trans (O := listOrd itemOrd) (a := a.map Sum.inl) (b := b.map Sum.inl) (c := c.map Sum.inl) h1 h2
theorem lx_asymm {a b : List Int} (h : lexI a b = true) : lexI b a = false := by
  rw [← lexI_eq] at h ⊢
  exact KeyOrd.klt_asymm (O := listOrd itemOrd) (a := a.map Sum.inl) (b := b.map Sum.inl) h
theorem lx_antisymm : ∀ {a b : List Int}, lexI b a = false → lexI a b = false → a = b
  | [], [], _, _ => rfl
  | [], _ :: _, _, h => by cases h
  | _ :: _, [], h, _ => by cases h
  | x :: r, y :: t, h1, h2 => by
    simp only [lexI, Bool.or_eq_false_iff, decide_eq_false_iff_not, Bool.and_eq_false_iff, Bool.not_eq_false, decide_eq_true_eq] at h1 h2
    have e : x = y := by omega
    subst e
    have i1 : lexI t r = false := h1.2.elim (fun q => absurd q (by simp)) id
    have i2 : lexI r t = false := h2.2.elim (fun q => absurd q (by simp)) id
    rw [lx_antisymm i1 i2]
def co (e : En) (w : Bool) : Int := if w then e.y else e.x
def wi (w : Bool) : Int := if w then 1 else 0
theorem wi_not (w : Bool) : 1 - wi w = wi (!w) := by cases w <;> rfl
def ky (g : Nat → En) (w : Bool) (i : Nat) : List Int := [co (g i) w, co (g i) (!w), (i : Nat)]
def leK (g : Nat → En) (w : Bool) (i j : Nat) : Bool := !lexI (ky g w j) (ky g w i)
def srt (g : Nat → En) (w : Bool) (L : List Nat) : List Nat := L.mergeSort (leK g w)
theorem leK_iff {g : Nat → En} {w : Bool} {i j : Nat} : leK g w i j = true ↔ lexI (ky g w j) (ky g w i) = false := by unfold leK; simp
theorem leK_trans (g : Nat → En) (w : Bool) (a b c : Nat) (h1 : leK g w a b = true) (h2 : leK g w b c = true) : leK g w a c = true := by
  rw [leK_iff] at *
  exact lx_trans h1 h2
theorem leK_total (g : Nat → En) (w : Bool) (a b : Nat) : (leK g w a b || leK g w b a) = true := by
  unfold leK
  cases h : lexI (ky g w b) (ky g w a)
  · rfl
  · rw [lx_asymm h]; rfl
theorem ky_inj {g : Nat → En} {w : Bool} {i j : Nat} (h : ky g w i = ky g w j) : i = j := by
  unfold ky at h
  simp only [List.cons.injEq, and_true] at h
  omega
theorem leK_anti {g : Nat → En} {w : Bool} {i j : Nat} (h1 : leK g w i j = true) (h2 : leK g w j i = true) : i = j := by
  rw [leK_iff] at *
  exact ky_inj (lx_antisymm h1 h2)
theorem srt_perm (g : Nat → En) (w : Bool) (L : List Nat) : (srt g w L).Perm L := List.mergeSort_perm _ _
theorem srt_pw (g : Nat → En) (w : Bool) (L : List Nat) : (srt g w L).Pairwise fun i j => leK g w i j = true := List.pairwise_mergeSort (leK_trans g w) (leK_total g w) L
theorem srt_eq {g : Nat → En} {w : Bool} {L M : List Nat} (h : L.Perm M) : srt g w L = srt g w M :=
  List.Perm.eq_of_pairwise (le := fun i j => leK g w i j = true) (fun _ _ _ _ => leK_anti) (srt_pw g w L) (srt_pw g w M) (((srt_perm g w L).trans h).trans (srt_perm g w M).symm)
theorem srt_uniq {g : Nat → En} {w : Bool} {L : List Nat} {ys : List (List Int)} (h : ys.Perm (L.map (ky g w))) (pw : ys.Pairwise fun q r => lexI r q = false) : ys = (srt g w L).map (ky g w) :=
  List.Perm.eq_of_pairwise (le := fun q r => lexI r q = false) (fun _ _ _ _ h1 h2 => lx_antisymm h1 h2) pw (List.pairwise_map.mpr ((srt_pw g w L).imp fun q => leK_iff.mp q)) (h.trans ((srt_perm g w L).map _).symm)
def nst (g : Nat → En) : Nat → Bool → List Nat → Nt
  | 0, _, _ => .lf 0
  | m + 1, w, L => if L.length = 1 then .lf ((L.headD 0 : Nat) : Int) else .pr (nst g m (!w) ((srt g w L).take ((L.length + 1) / 2))) (nst g m (!w) ((srt g w L).drop ((L.length + 1) / 2)))
theorem nst_perm (g : Nat → En) : ∀ (m : Nat) (w : Bool) (L M : List Nat), L.Perm M → nst g m w L = nst g m w M
  | 0, _, _, _, _ => rfl
  | m + 1, w, L, M, h => by
    unfold nst
    rw [h.length_eq, srt_eq h]
    split
    · rename_i e
      have e' : L.length = 1 := by rw [h.length_eq]; exact e
      match L, M, e', e, h with
      | [a], [b], _, _, h => rw [List.singleton_perm_singleton.mp h]
    · rfl
theorem nst_h (g : Nat → En) : ∀ (m : Nat) (w : Bool) (L : List Nat), (nst g m w L).h ≤ m + 1
  | 0, _, _ => by simp [nst, Nt.h]
  | m + 1, w, L => by
    unfold nst
    split
    · simp [Nt.h]
    · have h1 := nst_h g m (!w) ((srt g w L).take ((L.length + 1) / 2))
      have h2 := nst_h g m (!w) ((srt g w L).drop ((L.length + 1) / 2))
      simp only [Nt.h]; omega
theorem nst_sz (g : Nat → En) : ∀ (m : Nat) (w : Bool) (L : List Nat), 1 ≤ L.length → L.length ≤ 2 ^ m → (nst g (m + 1) w L).sz + 1 = L.length
  | m, w, L, h1, h2 => by
    unfold nst
    split
    · rename_i e; rw [e]; rfl
    · cases m with
      | zero => simp at h2; omega
      | succ m =>
        have hl : (srt g w L).length = L.length := (srt_perm g w L).length_eq
        have p : 2 ^ (m + 1) = 2 * 2 ^ m := by rw [Nat.pow_succ, Nat.mul_comm]
        have a1 := nst_sz g m (!w) ((srt g w L).take ((L.length + 1) / 2)) (by rw [List.length_take]; omega) (by rw [List.length_take]; omega)
        have a2 := nst_sz g m (!w) ((srt g w L).drop ((L.length + 1) / 2)) (by rw [List.length_drop]; omega) (by rw [List.length_drop]; omega)
        rw [List.length_take] at a1
        rw [List.length_drop] at a2
        simp only [Nt.sz]; omega
/-! ### halved -/
abbrev nD (i : Nat) : D := .int (i : Int)
theorem at_en {es : List En} {g : Nat → En} (hg : ∀ i, i < es.length → es[i]? = some (g i)) {i : Nat} (hi : i < es.length) : atI (es.map enD) (i : Int) = some (enD (g i)) := at_nat (by omega) (by rw [List.getElem?_map, Int.toNat_natCast, hg i hi]; rfl)
theorem at_co (e : En) (w : Bool) : atI [D.int e.x, .int e.y, .int e.s, .int e.l] (wi w) = some (.int (co e w)) := by cases w <;> rfl
theorem sIx_p {n m : Nat} {i : Int} (h : 0 ≤ i) : HT.sIx n m (some i) = min i.toNat n := by
  unfold HT.sIx
  simp only
  rw [if_neg (by omega)]
theorem cut_hd (xs : List D) {i : Int} (h : 0 ≤ i) : Pu.cutD xs none (some i) = xs.take i.toNat := by
  unfold Pu.cutD
  rw [sIx_p h, HT.sIx_none, List.drop_zero, Nat.sub_zero, ← List.take_eq_take_min]
theorem cut_tl (xs : List D) {i : Int} (h : 0 ≤ i) (hi : i.toNat ≤ xs.length) : Pu.cutD xs (some i) none = xs.drop i.toNat := by
  unfold Pu.cutD
  rw [sIx_p h, HT.sIx_none, Nat.min_eq_left hi]
  exact List.take_of_length_le (by rw [List.length_drop]; omega)
set_option maxHeartbeats 4000000 in
theorem halved_i {es : List En} {g : Nat → En} (hg : ∀ i, i < es.length → es[i]? = some (g i)) (h24 : es.length ≤ 24) : ∀ (m : Nat) (w : Bool) (L : List Nat) (k : D → Prop), 1 ≤ L.length → L.length ≤ 2 ^ m → L.length ≤ 24 → (∀ i ∈ L, i < es.length) →
    k (nst g (m + 1) w L).d → wpR_halved (m + 1) [.tup (es.map enD), .lst (L.map nD), .int (wi w)] k
  | m, w, L, k, h1, h2, h3, hL, hk => by
    show wpOf false 9 (P_halved (wpR_halved m)) _ _
    unfold wpOf
    walk_at "psenv"
    unfold P_halved
    repeat walk_at "ps"
    refine ite_d (fun q => ?_) (fun q => ?_)
    · rw [List.length_map] at q
      have q' : L.length = 1 := by omega
      match L, q', hk with
      | [a], _, hk =>
        repeat walk_at "ps"
        exact hk
    · rw [List.length_map] at q
      have q' : L.length ≠ 1 := by omega
      repeat walk_at "ps"
      refine ⟨by simp [noOwn], ?_⟩
      refine lcP_m nD (fun i => tupI (ky g w i)) L (by omega) ?_ ?_
      · intro i hi A B hA
        repeat walk_at "ps"
        refine dIx_t (at_en hg (hL i hi)) ?_
        repeat walk_at "ps"
        refine dIx_t (at_co _ _) ?_
        repeat walk_at "ps"
        refine dIx_t (at_en hg (hL i hi)) ?_
        repeat walk_at "ps"
        rw [wi_not]
        refine dIx_t (at_co _ _) ?_
        repeat walk_at "ps"
        exact hA
      rw [show (L.map fun i => tupI (ky g w i)) = (L.map (ky g w)).map tupI by rw [List.map_map]; rfl]
      repeat walk_at "ps"
      refine gSortedN_i (fun x hx => ?_) fun ys hp hw => ?_
      · obtain ⟨i, _, rfl⟩ := List.mem_map.mp hx
        exact List.cons_ne_nil _ _
      rw [srt_uniq hp hw]
      have hsl : (srt g w L).length = L.length := (srt_perm g w L).length_eq
      repeat walk_at "ps"
      refine ⟨by simp [noOwn], ?_⟩
      rw [show ((srt g w L).map (ky g w)).map tupI = (srt g w L).map fun i => tupI (ky g w i) by rw [List.map_map]; rfl]
      refine lcP_m (fun i => tupI (ky g w i)) nD (srt g w L) (by omega) ?_ ?_
      · intro i hi A B hA
        unfold tupI ky
        repeat walk_at "ps"
        exact hA
      repeat walk_at "ps"
      cases m with
      | zero => simp at h2; omega
      | succ m =>
        have p : 2 ^ (m + 1) = 2 * 2 ^ m := by rw [Nat.pow_succ, Nat.mul_comm]
        have e : (((L.map nD).length : Nat) + 1 : Int) / 2 = (((L.length + 1) / 2 : Nat) : Int) := by rw [List.length_map]; omega
        have en : nst g (m + 1 + 1) w L = .pr (nst g (m + 1) (!w) ((srt g w L).take ((L.length + 1) / 2))) (nst g (m + 1) (!w) ((srt g w L).drop ((L.length + 1) / 2))) := by
          rw [nst, if_neg q']
        rw [en] at hk
        rw [wi_not, e, cut_hd _ (by omega), Int.toNat_natCast, ← List.map_take]
        refine halved_i hg h24 m (!w) _ _ (by rw [List.length_take]; omega) (by rw [List.length_take]; omega) (by rw [List.length_take]; omega) (fun i hi => hL i ((srt_perm g w L).mem_iff.mp (List.mem_of_mem_take hi))) ?_
        repeat walk_at "ps"
        rw [wi_not, cut_tl _ (by omega) (by rw [Int.toNat_natCast, List.length_map]; omega), Int.toNat_natCast, ← List.map_drop]
        refine halved_i hg h24 m (!w) _ _ (by rw [List.length_drop]; omega) (by rw [List.length_drop]; omega) (by rw [List.length_drop]; omega) (fun i hi => hL i ((srt_perm g w L).mem_iff.mp (List.mem_of_mem_drop hi))) ?_
        repeat walk_at "ps"
        exact hk
def gE (es : List En) : Nat → En := fun i => es.getD i ⟨0, 0, 0, 0⟩
theorem gE_at (es : List En) : ∀ i, i < es.length → es[i]? = some (gE es i) := fun i hi => by
  unfold gE; rw [List.getD_eq_getElem?_getD, List.getElem?_eq_getElem hi]; rfl
/-- the joining by halves -/
def Jh (es : List En) : List (Int × Int) := (tieF (es.length : Nat) (nst (gE es) 8 false (List.range es.length)) []).2
theorem nst_hb (g : Nat → En) : ∀ (n m : Nat) (w : Bool) (L : List Nat), 1 ≤ L.length → L.length ≤ 2 ^ m → (nst g n w L).h ≤ m + 1
  | 0, m, _, _, _, _ => by simp [nst, Nt.h]
  | n + 1, m, w, L, h1, h2 => by
    unfold nst
    split
    · simp [Nt.h]
    · cases m with
      | zero => simp at h2; omega
      | succ m =>
        have hl : (srt g w L).length = L.length := (srt_perm g w L).length_eq
        have p : 2 ^ (m + 1) = 2 * 2 ^ m := by rw [Nat.pow_succ, Nat.mul_comm]
        have a1 := nst_hb g n m (!w) ((srt g w L).take ((L.length + 1) / 2)) (by rw [List.length_take]; omega) (by rw [List.length_take]; omega)
        have a2 := nst_hb g n m (!w) ((srt g w L).drop ((L.length + 1) / 2)) (by rw [List.length_drop]; omega) (by rw [List.length_drop]; omega)
        simp only [Nt.h]; omega
theorem range_nD (n : Nat) : rangeD 0 n = (List.range n).map nD := by
  unfold rangeD
  exact List.map_congr_left fun i _ => by rw [Int.zero_add]
set_option maxHeartbeats 2000000 in
theorem halved_joining_i {es : List En} {k : D → Prop} (h1 : 1 ≤ es.length) (h24 : es.length ≤ 24) (hk : k (.tup ((Jh es).map pD))) : wp_halved_joining [.tup (es.map enD)] k := by
  unfold wp_halved_joining wpOf
  walk_at "psenv"
  unfold P_halved_joining
  repeat walk_at "ps"
  rw [List.length_map]
  refine ⟨⟨by omega, by omega, by omega, by omega⟩, ?_⟩
  rw [Int.sub_zero, Int.toNat_natCast, range_nD]
  repeat walk_at "ps"
  refine halved_i (gE_at es) h24 7 false (List.range es.length) _ (by rw [List.length_range]; exact h1) (by rw [List.length_range]; exact Nat.le_trans h24 (by decide)) (by rw [List.length_range]; exact h24) (fun i hi => List.mem_range.mp hi) ?_
  have z := nst_sz (gE es) 7 false (List.range es.length) (by rw [List.length_range]; exact h1) (by rw [List.length_range]; exact Nat.le_trans h24 (by decide))
  rw [List.length_range] at z
  repeat walk_at "ps"
  refine joining_of_i (Nat.le_trans (nst_hb (gE es) 8 5 false (List.range es.length) (by rw [List.length_range]; exact h1) (by rw [List.length_range]; exact Nat.le_trans h24 (by decide))) (by decide)) (by omega) ?_
  exact hk
/-! ### the law's ranks -/
theorem lx3 {a b c a' b' c' : Int} : lexI [a, b, c] [a', b', c'] = true ↔ a < a' ∨ (a = a' ∧ (b < b' ∨ (b = b' ∧ c < c'))) := by
  simp only [lexI, Bool.or_eq_true, decide_eq_true_eq, Bool.and_eq_true, Bool.not_eq_true', decide_eq_false_iff_not, Bool.and_false, Bool.or_false]
  omega
def rk (g : Nat → En) (w : Bool) (L : List Nat) (i : Nat) : Nat := L.countP fun j => lexI (ky g w j) (ky g w i)
set_option maxHeartbeats 4000000 in
theorem rank_i {es : List En} {g : Nat → En} (hg : ∀ i, i < es.length → es[i]? = some (g i)) {w : Bool} {L : List Nat} {i : Nat} {k : D → Prop} (hi : i < es.length) (hL : ∀ i ∈ L, i < es.length) (hk : k (.int (rk g w L i : Nat))) :
    wp__law_rank [.tup (es.map enD), .lst (L.map nD), .int (i : Int), .int (wi w)] k := by
  unfold wp__law_rank wpOf
  walk_at "psenv"
  unfold P__law_rank
  repeat walk_at "ps"
  refine dIx_t (at_en hg hi) ?_
  repeat walk_at "ps"
  refine forP_i (fun t env => ∃ v6 v7 v8 v9 : SV, env = [SV.val (.tup (es.map enD)), SV.val (.lst (L.map nD)), SV.val (.int (i : Int)), SV.val (.int (wi w)), SV.val (.int (((L.take t).countP fun j => lexI (ky g w j) (ky g w i) : Nat) : Int)), SV.val (enD (g i)), v6, v7, v8, v9]) _ 0 ⟨_, _, _, _, rfl⟩ ?_ ?_
  · rintro t d env hd ⟨v6, v7, v8, v9, rfl⟩ N hN
    simp only [Nat.zero_add] at hN ⊢
    rw [List.getElem?_map] at hd
    cases hj : L[t]? with
    | none => rw [hj] at hd; cases hd
    | some j =>
      rw [hj] at hd
      cases hd
      have hjl := hL j (List.mem_of_getElem? hj)
      have tk : (L.take (t + 1)).countP (fun j => lexI (ky g w j) (ky g w i)) = (L.take t).countP (fun j => lexI (ky g w j) (ky g w i)) + if lexI (ky g w j) (ky g w i) = true then 1 else 0 := by
        rw [List.take_add_one, hj, List.countP_append]
        simp [List.countP_cons]
      have yes : (co (g j) w - co (g i) w < 0 ∨ (co (g j) w - co (g i) w = 0 ∧ (co (g j) (!w) - co (g i) (!w) < 0 ∨ (co (g j) (!w) - co (g i) (!w) = 0 ∧ (j : Int) < (i : Int))))) ↔ lexI (ky g w j) (ky g w i) = true := by
        unfold ky; rw [lx3]; omega
      repeat walk_at "ps"
      refine dIx_t (at_en hg hjl) ?_
      repeat walk_at "ps"
      refine dIx_t (at_co _ _) ?_
      repeat walk_at "ps"
      refine dIx_t (at_co _ _) ?_
      repeat walk_at "ps"
      rw [wi_not]
      refine dIx_t (at_co _ _) ?_
      repeat walk_at "ps"
      rw [wi_not]
      refine dIx_t (at_co _ _) ?_
      repeat walk_at "ps"
      have Y : lexI (ky g w j) (ky g w i) = true → N [SV.val (.tup (es.map enD)), SV.val (.lst (L.map nD)), SV.val (.int (i : Int)), SV.val (.int (wi w)), SV.val (.int ((((L.take t).countP fun j => lexI (ky g w j) (ky g w i) : Nat) : Int) + 1)), SV.val (enD (g i)), SV.val (nD j), SV.val (enD (g j)), SV.val (.int (co (g j) w - co (g i) w)), SV.val (.int (co (g j) (!w) - co (g i) (!w)))] := fun q => hN _ ⟨_, _, _, _, by rw [tk, if_pos q]; rfl⟩
      have F : ¬ lexI (ky g w j) (ky g w i) = true → N [SV.val (.tup (es.map enD)), SV.val (.lst (L.map nD)), SV.val (.int (i : Int)), SV.val (.int (wi w)), SV.val (.int (((L.take t).countP fun j => lexI (ky g w j) (ky g w i) : Nat) : Int)), SV.val (enD (g i)), SV.val (nD j), SV.val (enD (g j)), SV.val (.int (co (g j) w - co (g i) w)), SV.val (.int (co (g j) (!w) - co (g i) (!w)))] := fun q => hN _ ⟨_, _, _, _, by rw [tk, if_neg q]; rfl⟩
      refine ite_d (fun a => ?_) (fun a => ?_)
      · repeat walk_at "ps"
        exact Y (yes.mp (.inl a))
      repeat walk_at "ps"
      refine ite_d (fun b => ?_) (fun b => ?_)
      · repeat walk_at "ps"
        refine ite_d (fun c => ?_) (fun c => ?_)
        · repeat walk_at "ps"
          exact Y (yes.mp (.inr ⟨b, .inl c⟩))
        repeat walk_at "ps"
        refine ite_d (fun d => ?_) (fun d => ?_)
        · repeat walk_at "ps"
          refine ite_d (fun e => ?_) (fun e => ?_)
          · repeat walk_at "ps"
            exact Y (yes.mp (.inr ⟨b, .inr ⟨d, e⟩⟩))
          · repeat walk_at "ps"
            exact F fun q => by have := yes.mpr q; omega
        · repeat walk_at "ps"
          exact F fun q => by have := yes.mpr q; omega
      · repeat walk_at "ps"
        exact F fun q => by have := yes.mpr q; omega
  · rintro env ⟨v6, v7, v8, v9, rfl⟩
    repeat walk_at "ps"
    rw [Nat.zero_add, List.length_map, List.take_length]
    exact hk
/-! ### the lesser half -/
theorem lt_of_le {g : Nat → En} {w : Bool} {i j : Nat} (h : leK g w i j = true) (ne : i ≠ j) : lexI (ky g w i) (ky g w j) = true := by
  cases q : lexI (ky g w i) (ky g w j) with
  | true => rfl
  | false => exact absurd (ky_inj (lx_antisymm (leK_iff.mp h) q)) ne
theorem lx_irr (a : List Int) : lexI a a = false := by
  cases h : lexI a a with
  | false => rfl
  | true => rw [lx_asymm h] at h; cases h
theorem rk_at {g : Nat → En} {w : Bool} {A B : List Nat} {x : Nat} (pw : (A ++ x :: B).Pairwise fun i j => lexI (ky g w i) (ky g w j) = true) : rk g w (A ++ x :: B) x = A.length := by
  obtain ⟨_, h2, h3⟩ := List.pairwise_append.mp pw
  have hB := (List.pairwise_cons.mp h2).1
  unfold rk
  rw [List.countP_append, List.countP_cons, List.countP_eq_length.mpr (fun a ha => h3 a ha x List.mem_cons_self), List.countP_eq_zero.mpr (fun b hb q => by rw [lx_asymm (hB b hb)] at q; cases q)]
  simp [lx_irr]
theorem srt_lt {g : Nat → En} {w : Bool} {L : List Nat} (nd : L.Nodup) : (srt g w L).Pairwise fun i j => lexI (ky g w i) (ky g w j) = true :=
  ((srt_pw g w L).and ((srt_perm g w L).nodup_iff.mpr nd)).imp fun ⟨h1, h2⟩ => lt_of_le h1 h2
theorem rk_perm {g : Nat → En} {w : Bool} {L M : List Nat} (h : L.Perm M) (x : Nat) : rk g w L x = rk g w M x := h.countP_eq _
abbrev lowP (g : Nat → En) (w : Bool) (L : List Nat) (i : Nat) : Bool := decide (2 * ((rk g w L i : Nat) : Int) < ((L.length : Nat) : Int))
theorem low_hd {g : Nat → En} {w : Bool} {L : List Nat} (nd : L.Nodup) : ∀ x ∈ (srt g w L).take ((L.length + 1) / 2), lowP g w L x = true := fun x hx => by
  obtain ⟨A, B, e⟩ := List.append_of_mem hx
  have es : srt g w L = A ++ x :: (B ++ (srt g w L).drop ((L.length + 1) / 2)) := by
    have := (List.take_append_drop ((L.length + 1) / 2) (srt g w L)).symm
    rw [e] at this
    rw [← List.cons_append, ← List.append_assoc]; exact this
  have r : rk g w L x = A.length := by
    rw [rk_perm (srt_perm g w L).symm x]
    have pw := srt_lt (g := g) (w := w) nd
    rw [es] at pw ⊢
    exact rk_at pw
  have l : A.length < (L.length + 1) / 2 := by
    have := congrArg List.length e
    rw [List.length_take, List.length_append, List.length_cons] at this
    omega
  rw [lowP, r]
  exact decide_eq_true (by omega)
theorem low_tl {g : Nat → En} {w : Bool} {L : List Nat} (nd : L.Nodup) : ∀ x ∈ (srt g w L).drop ((L.length + 1) / 2), lowP g w L x = false := fun x hx => by
  obtain ⟨A, B, e⟩ := List.append_of_mem hx
  have es : srt g w L = ((srt g w L).take ((L.length + 1) / 2) ++ A) ++ x :: B := by
    have := (List.take_append_drop ((L.length + 1) / 2) (srt g w L)).symm
    rw [e] at this
    rw [List.append_assoc]; exact this
  have hl : (srt g w L).length = L.length := (srt_perm g w L).length_eq
  have hx' : 0 < ((srt g w L).drop ((L.length + 1) / 2)).length := List.length_pos_of_mem hx
  rw [List.length_drop] at hx'
  have r : rk g w L x = ((srt g w L).take ((L.length + 1) / 2) ++ A).length := by
    rw [rk_perm (srt_perm g w L).symm x]
    have pw := srt_lt (g := g) (w := w) nd
    have key : ∀ S T : List Nat, S = T ++ x :: B → S.Pairwise (fun i j => lexI (ky g w i) (ky g w j) = true) → rk g w S x = T.length := fun S T h p => by
      rw [h] at p ⊢
      exact rk_at p
    exact key _ _ es pw
  rw [List.length_append, List.length_take] at r
  rw [lowP, r]
  exact decide_eq_false (by omega)
theorem low_perm {g : Nat → En} {w : Bool} {L : List Nat} (nd : L.Nodup) : (L.filter (lowP g w L)).Perm ((srt g w L).take ((L.length + 1) / 2)) ∧ (L.filter fun i => !lowP g w L i).Perm ((srt g w L).drop ((L.length + 1) / 2)) := by
  have sp := (List.take_append_drop ((L.length + 1) / 2) (srt g w L)).symm
  constructor
  · refine ((srt_perm g w L).symm.filter _).trans ?_
    have e : (srt g w L).filter (lowP g w L) = (srt g w L).take ((L.length + 1) / 2) := by
      have f1 := List.filter_eq_self.mpr (low_hd (g := g) (w := w) nd)
      have f2 : ((srt g w L).drop ((L.length + 1) / 2)).filter (lowP g w L) = [] := List.filter_eq_nil_iff.mpr fun a ha q => by rw [low_tl nd a ha] at q; cases q
      have key : ∀ S T U : List Nat, S = T ++ U → T.filter (lowP g w L) = T → U.filter (lowP g w L) = [] → S.filter (lowP g w L) = T := fun S T U h a b => by rw [h, List.filter_append, a, b, List.append_nil]
      exact key _ _ _ sp f1 f2
    rw [e]
  · refine ((srt_perm g w L).symm.filter _).trans ?_
    have e : (srt g w L).filter (fun i => !lowP g w L i) = (srt g w L).drop ((L.length + 1) / 2) := by
      have f1 : ((srt g w L).take ((L.length + 1) / 2)).filter (fun i => !lowP g w L i) = [] := List.filter_eq_nil_iff.mpr fun a ha q => by rw [low_hd nd a ha] at q; cases q
      have f2 : ((srt g w L).drop ((L.length + 1) / 2)).filter (fun i => !lowP g w L i) = (srt g w L).drop ((L.length + 1) / 2) := List.filter_eq_self.mpr fun a ha => by rw [low_tl nd a ha]; rfl
      have key : ∀ S T U : List Nat, S = T ++ U → T.filter (fun i => !lowP g w L i) = [] → U.filter (fun i => !lowP g w L i) = U → S.filter (fun i => !lowP g w L i) = U := fun S T U h a b => by rw [h, List.filter_append, a, b, List.nil_append]
      exact key _ _ _ sp f1 f2
    rw [e]
/-! ### the law's rows -/
theorem filt_step {p : Nat → Bool} {L : List Nat} {t j : Nat} (h : L[t]? = some j) : (L.take (t + 1)).filter p = (L.take t).filter p ++ if p j = true then [j] else [] := by
  rw [List.take_add_one, h, List.filter_append]
  cases q : p j <;> simp [List.filter_cons, q]
set_option maxHeartbeats 8000000 in
theorem due_i {es : List En} {g : Nat → En} (hg : ∀ i, i < es.length → es[i]? = some (g i)) (h24 : es.length ≤ 24) : ∀ (m : Nat) (w : Bool) (L : List Nat) (rows : List (Int × Int)) (k : D → List D → Prop), 1 ≤ L.length → L.length ≤ 2 ^ m → L.Nodup → L.length ≤ 24 → (∀ i ∈ L, i < es.length) → rows.length + L.length ≤ 90000 →
    k (.int (tieF (es.length : Nat) (nst g (m + 1) w L) rows).1) ((tieF (es.length : Nat) (nst g (m + 1) w L) rows).2.map pD) → wpR__law_due (m + 1) [.tup (es.map enD), .lst (L.map nD), .int (wi w)] (rows.map pD) k
  | m, w, L, rows, k, h1, h2, nd, h3, hL, hr, hk => by
    refine ⟨rfl, ?_⟩
    unfold wpB
    show P__law_due (wpR__law_due m) [SV.val (.tup (es.map enD)), SV.val (.lst (L.map nD)), SV.val (.int (wi w)), SV.own (.bor (rows.map pD)), SV.no, SV.no, SV.no, SV.no, SV.no] _
    unfold P__law_due
    refine sSeq_i ?_
    repeat walk_at "ps"
    refine ite_d (fun q => ?_) (fun q => ?_)
    · rw [List.length_map] at q
      have q' : L.length = 1 := by omega
      match L, q', hk with
      | [a], _, hk =>
        refine sRetB_i ?_
        repeat walk_at "ps"
        exact hk
    · rw [List.length_map] at q
      have q' : L.length ≠ 1 := by omega
      repeat walk_at "ps"
      dsimp only
      refine sSeq_i ?_
      repeat walk_at "ps"
      refine forP_i (fun t env => ∃ v6 : SV, env = [SV.val (.tup (es.map enD)), SV.val (.lst (L.map nD)), SV.val (.int (wi w)), SV.own (.bor (rows.map pD)), SV.own (.lst (((L.take t).filter (lowP g w L)).map nD)), SV.own (.lst (((L.take t).filter fun i => !lowP g w L i).map nD)), v6, SV.no, SV.no]) _ 0 ⟨_, rfl⟩ ?_ ?_
      · rintro t d env hd ⟨v6, rfl⟩ N hN
        simp only [Nat.zero_add] at hN ⊢
        rw [List.getElem?_map] at hd
        cases hj : L[t]? with
        | none => rw [hj] at hd; cases hd
        | some j =>
          rw [hj] at hd
          cases hd
          have hjl := hL j (List.mem_of_getElem? hj)
          have l1 : (((L.take t).filter (lowP g w L)).map nD).length ≤ 100000 := by
            rw [List.length_map]; have a1 := List.length_filter_le (lowP g w L) (L.take t); rw [List.length_take] at a1; omega
          have l2 : (((L.take t).filter fun i => !lowP g w L i).map nD).length ≤ 100000 := by
            rw [List.length_map]; have a1 := List.length_filter_le (fun i => !lowP g w L i) (L.take t); rw [List.length_take] at a1; omega
          repeat walk_at "ps"
          refine rank_i hg hjl hL ?_
          repeat walk_at "ps"
          refine ite_d (fun c => ?_) (fun c => ?_)
          · have c' : lowP g w L j = true := by rw [List.length_map] at c; exact decide_eq_true c
            repeat walk_at "ps"
            refine ⟨l1, hN _ ⟨SV.val (nD j), ?_⟩⟩
            rw [filt_step hj, filt_step hj, c']
            simp
          · have c' : lowP g w L j = false := by rw [List.length_map] at c; exact decide_eq_false c
            repeat walk_at "ps"
            refine ⟨l2, hN _ ⟨SV.val (nD j), ?_⟩⟩
            rw [filt_step hj, filt_step hj, c']
            simp
      rintro env ⟨v6, rfl⟩
      rw [Nat.zero_add, List.length_map, List.take_length]
      obtain ⟨p1, p2⟩ := low_perm (g := g) (w := w) nd
      generalize hA : L.filter (lowP g w L) = A at p1
      generalize hB : (L.filter fun i => !lowP g w L i) = B at p2
      repeat walk_at "ps"
      cases m with
      | zero => simp at h2; omega
      | succ m =>
        have pw2 : 2 ^ (m + 1) = 2 * 2 ^ m := by rw [Nat.pow_succ, Nat.mul_comm]
        have en : nst g (m + 1 + 1) w L = .pr (nst g (m + 1) (!w) A) (nst g (m + 1) (!w) B) := by
          rw [nst, if_neg q', ← nst_perm g (m + 1) (!w) _ _ p1, ← nst_perm g (m + 1) (!w) _ _ p2]
        rw [en] at hk
        have hsl : (srt g w L).length = L.length := (srt_perm g w L).length_eq
        have lA : A.length = (L.length + 1) / 2 := by rw [p1.length_eq, List.length_take, hsl]; omega
        have lB : B.length = L.length - (L.length + 1) / 2 := by rw [p2.length_eq, List.length_drop, hsl]
        have sA := nst_sz g m (!w) A (by omega) (by omega)
        have sB := nst_sz g m (!w) B (by omega) (by omega)
        have ndA : A.Nodup := by rw [← hA]; exact nd.filter _
        have ndB : B.Nodup := by rw [← hB]; exact nd.filter _
        have mA : ∀ i ∈ A, i < es.length := fun i hi => by rw [← hA] at hi; exact hL i (List.mem_filter.mp hi).1
        have mB : ∀ i ∈ B, i < es.length := fun i hi => by rw [← hB] at hi; exact hL i (List.mem_filter.mp hi).1
        clear hA hB p1 p2 en
        refine sSeq_i ?_
        refine lendS_b (by rfl) ?_
        repeat walk_at "ps"
        rw [wi_not]
        refine due_i hg h24 m (!w) A rows _ (by omega) (by omega) ndA (by omega) mA (by omega) ?_
        repeat walk_at "ps"
        dsimp only
        refine sSeq_i ?_
        refine lendS_b (by rfl) ?_
        repeat walk_at "ps"
        rw [wi_not]
        refine due_i hg h24 m (!w) B _ _ (by omega) (by omega) ndB (by omega) mB (by rw [tieF_len]; omega) ?_
        generalize nst g (m + 1) (!w) A = a at hk sA ⊢
        generalize nst g (m + 1) (!w) B = b at hk sB ⊢
        have hl : ((tieF (es.length : Nat) b (tieF (es.length : Nat) a rows).2).2.map pD).length ≤ 100000 := by rw [List.length_map, tieF_len, tieF_len]; omega
        repeat walk_at "ps"
        dsimp only
        refine append_b (by rfl) ?_
        repeat walk_at "ps"
        refine ⟨hl, ?_⟩
        dsimp only
        refine sRetB_i ?_
        repeat walk_at "ps"
        refine eO_b (by rfl) ?_
        repeat walk_at "ps"
        have e1 : ((es.map enD).length : Nat) + (((tieF (es.length : Nat) b (tieF (es.length : Nat) a rows).2).2.map pD ++ [pD ((tieF (es.length : Nat) a rows).1, (tieF (es.length : Nat) b (tieF (es.length : Nat) a rows).2).1)]).length : Nat) - 1 = (tieF (es.length : Nat) (.pr a b) rows).1 := by
          simp only [tieF, List.length_append, List.length_map, List.length_cons, List.length_nil]; omega
        have e2 : (tieF (es.length : Nat) b (tieF (es.length : Nat) a rows).2).2.map pD ++ [pD ((tieF (es.length : Nat) a rows).1, (tieF (es.length : Nat) b (tieF (es.length : Nat) a rows).2).1)] = (tieF (es.length : Nat) (.pr a b) rows).2.map pD := by
          simp only [tieF, List.map_append, List.map_cons, List.map_nil]
        show k (.int (((es.map enD).length : Nat) + (((tieF (es.length : Nat) b (tieF (es.length : Nat) a rows).2).2.map pD ++ [pD ((tieF (es.length : Nat) a rows).1, (tieF (es.length : Nat) b (tieF (es.length : Nat) a rows).2).1)]).length : Nat) - 1)) ((tieF (es.length : Nat) b (tieF (es.length : Nat) a rows).2).2.map pD ++ [pD ((tieF (es.length : Nat) a rows).1, (tieF (es.length : Nat) b (tieF (es.length : Nat) a rows).2).1)])
        rw [e1, e2]
        exact hk
/-! ### the law -/
def sml (e : En) : En := ⟨e.x, e.y, e.l, e.s⟩
theorem nst_cong {g h : Nat → En} (e : ∀ w i, ky g w i = ky h w i) : ∀ (m : Nat) (w : Bool) (L : List Nat), nst g m w L = nst h m w L
  | 0, _, _ => rfl
  | m + 1, w, L => by
    have es : srt g w L = srt h w L := by
      unfold srt
      have el : leK g w = leK h w := by funext i j; unfold leK; rw [e, e]
      rw [el]
    unfold nst
    rw [es, nst_cong e m, nst_cong e m]
theorem Jh_sml (es : List En) : Jh (es.map sml) = Jh es := by
  unfold Jh
  rw [List.length_map, nst_cong (g := gE (es.map sml)) (h := gE es)]
  intro w i
  have hx : ∀ w, co (gE (es.map sml) i) w = co (gE es i) w := fun w => by
    unfold gE
    rw [List.getD_eq_getElem?_getD, List.getD_eq_getElem?_getD, List.getElem?_map]
    cases es[i]? <;> rfl
  unfold ky
  rw [hx, hx]
def Nt.lv : Nt → List Int
  | .lf i => [i]
  | .pr a b => a.lv ++ b.lv
theorem tie_bd {n : Int} (n0 : 0 ≤ n) (n1 : n ≤ 100) : ∀ (t : Nt) (rows : List (Int × Int)), (∀ i ∈ t.lv, i.natAbs < 10 ^ 12) → (∀ r ∈ rows, r.1.natAbs < 10 ^ 12 ∧ r.2.natAbs < 10 ^ 12) → rows.length + t.sz ≤ 90000 →
    (tieF n t rows).1.natAbs < 10 ^ 12 ∧ ∀ r ∈ (tieF n t rows).2, r.1.natAbs < 10 ^ 12 ∧ r.2.natAbs < 10 ^ 12
  | .lf i, rows, h1, h2, _ => ⟨h1 i (by simp [Nt.lv]), h2⟩
  | .pr a b, rows, h1, h2, h3 => by
    simp only [Nt.sz] at h3
    have A := tie_bd n0 n1 a rows (fun i hi => h1 i (by simp [Nt.lv, hi])) h2 (by omega)
    have B := tie_bd n0 n1 b (tieF n a rows).2 (fun i hi => h1 i (by simp [Nt.lv, hi])) A.2 (by rw [tieF_len]; omega)
    have l : (tieF n b (tieF n a rows).2).2.length ≤ 90000 := by rw [tieF_len, tieF_len]; omega
    refine ⟨?_, fun r hr => ?_⟩
    · show (n + ((tieF n b (tieF n a rows).2).2.length : Nat)).natAbs < 10 ^ 12
      have : (10 : Nat) ^ 12 = 1000000000000 := by decide
      omega
    · rcases List.mem_append.mp hr with q | q
      · exact B.2 r q
      · rw [List.mem_singleton.mp q]
        exact ⟨A.1, B.1⟩
theorem nst_lv (g : Nat → En) : ∀ (m : Nat) (w : Bool) (L : List Nat), (∀ i ∈ L, i < 100) → ∀ i ∈ (nst g m w L).lv, i.natAbs < 10 ^ 12
  | 0, _, _, _, i, hi => by
    simp [nst, Nt.lv] at hi; rw [hi]; decide
  | m + 1, w, L, hL, i, hi => by
    unfold nst at hi
    split at hi
    · rename_i q
      match L, q with
      | [a], _ =>
        have : i = (a : Int) := by simpa [Nt.lv] using hi
        have ha := hL a (by simp)
        have e : (10 : Nat) ^ 12 = 1000000000000 := by decide
        omega
    · rcases List.mem_append.mp hi with q | q
      · exact nst_lv g m (!w) _ (fun j hj => hL j ((srt_perm g w L).mem_iff.mp (List.mem_of_mem_take hj))) i q
      · exact nst_lv g m (!w) _ (fun j hj => hL j ((srt_perm g w L).mem_iff.mp (List.mem_of_mem_drop hj))) i q
theorem Jh_shows {es : List En} (h1 : 1 ≤ es.length) (h24 : es.length ≤ 24) : Shows (.tup ((Jh es).map pD)) := by
  have z : (nst (gE es) 8 false (List.range es.length)).sz + 1 = (List.range es.length).length := nst_sz (gE es) 7 false (List.range es.length) (by rw [List.length_range]; exact h1) (by rw [List.length_range]; exact Nat.le_trans h24 (by decide))
  rw [List.length_range] at z
  refine shows_pairs ?_ ?_
  · unfold Jh; rw [tieF_len]; simp only [List.length_nil]; omega
  · exact (tie_bd (by omega) (by omega) _ [] (nst_lv _ 8 false _ fun i hi => by have := List.mem_range.mp hi; omega) (fun r hr => nomatch hr) (by simp only [List.length_nil]; omega)).2
set_option maxHeartbeats 4000000 in
theorem law_pure : P_law (SV.no :: SV.val (.deck 4) :: List.replicate (8 - 2) SV.no) { nx := fun _ => False, rt := fun d => d = .bl true } := by
  show P_law [SV.no, SV.val (.deck 4), SV.no, SV.no, SV.no, SV.no, SV.no, SV.no] _
  unfold P_law
  repeat walk_at "ps"
  refine rgK1_i (by decide) (by decide) ?_
  refine forP_i (fun _ env => ∃ v2 v3 v4 v5 v7 : SV, env = [SV.no, SV.val (.deck 4), v2, v3, v4, v5, SV.no, v7]) _ 0 ⟨_, _, _, _, _, rfl⟩ ?_ ?_
  · rintro i d env hd ⟨v2, v3, v4, v5, v7, rfl⟩ N hN
    obtain ⟨rfl, hi⟩ := rangeD_at hd
    repeat walk_at "ps"
    refine ends_i fun es e1 e2 ho => ?_
    repeat walk_at "ps"
    dsimp only
    refine sSeq_i ?_
    refine lend_l (by rfl) ?_
    repeat walk_at "ps"
    rw [List.length_map]
    refine ⟨⟨by omega, by omega, by omega, by omega⟩, ?_⟩
    rw [Int.sub_zero, Int.toNat_natCast, range_nD]
    repeat walk_at "ps"
    refine due_i (gE_at es) e2 7 false (List.range es.length) [] _ (by rw [List.length_range]; exact e1) (by rw [List.length_range]; exact Nat.le_trans e2 (by decide)) List.nodup_range (by rw [List.length_range]; exact e2) (fun i hi => List.mem_range.mp hi) (by rw [List.length_range]; simp only [List.length_nil]; omega) ?_
    show _
    have sh := Jh_shows e1 e2
    repeat walk_at "ps"
    refine ⟨by simp [noOwn], ?_⟩
    refine lcP_m enD (fun e => enD (sml e)) es (by omega) ?_ ?_
    · intro e he A B hA
      repeat walk_at "ps"
      refine dAdd_t (Nat.le_of_ble_eq_true rfl) ?_
      exact hA
    rw [show (es.map fun e => enD (sml e)) = (es.map sml).map enD by rw [List.map_map]; rfl]
    repeat walk_at "ps"
    have nj : ∀ (es' : List En), es'.length = es.length → Jh es' = Jh es → ∀ k : D → Prop, k (.tup ((Jh es).map pD)) → wp_halved_joining [.tup (es'.map enD)] k := fun es' hl hj k hk => halved_joining_i (by omega) (by omega) (by rw [hj]; exact hk)
    have n1 := nj es rfl rfl
    have n2 := nj (es.map sml) (List.length_map ..) (Jh_sml es)
    clear nj
    rw [show (tieF (es.length : Nat) (nst (gE es) (7 + 1) false (List.range es.length)) []).2 = Jh es from rfl]
    generalize Jh es = J at sh n1 n2 ⊢
    refine forP_i (fun _ env => ∃ v7 : SV, env = [SV.no, SV.val (.deck 4), SV.val (.int (0 + (i : Nat))), SV.val (.tup (es.map enD)), SV.own (.lst (J.map pD)), SV.val (.tup ((es.map sml).map enD)), SV.no, v7]) _ 0 ⟨_, rfl⟩ ?_ ?_
    · rintro j d env hd ⟨v7, rfl⟩ N' hN'
      have hm : ∃ es' : List En, d = .tup (es'.map enD) ∧ ∀ k : D → Prop, k (.tup (J.map pD)) → wp_halved_joining [.tup (es'.map enD)] k := by
        have hd := List.mem_of_getElem? hd
        simp only [List.mem_cons, List.not_mem_nil, or_false] at hd
        rcases hd with rfl | rfl | rfl
        · exact ⟨es, rfl, n1⟩
        · exact ⟨es.map sml, rfl, n2⟩
        · exact ⟨es, rfl, n1⟩
      obtain ⟨es', rfl, hw⟩ := hm
      repeat walk_at "ps"
      refine hw _ ?_
      repeat walk_at "ps"
      refine gRepr_i sh ?_
      repeat walk_at "ps"
      refine gRepr_i sh ?_
      refine dNeS_i ?_
      rw [decide_eq_true rfl]
      repeat walk_at "ps"
      exact hN' _ ⟨_, rfl⟩
    · rintro env ⟨v7, rfl⟩
      repeat walk_at "ps"
      exact hN _ ⟨_, _, _, _, _, rfl⟩
  rintro env ⟨v2, v3, v4, v5, v7, rfl⟩
  repeat walk_at "ps"
  rfl
end
end Ew
namespace Ew
open PySem PySem.Spec PyProof.Rows L2
variable [Tbs]
def topS (i : Nat) : Stmt := PySem.Challenge.pw_evenwires_k58_joined_by_halves.main.body.getD i (.Pass ⟨0, 0, 0, 0⟩)
abbrev s_joining_of : Stmt := topS 1
abbrev N_joining_of : List Str := ["many", "nest", "rows"]
theorem sc_joining_of : FnScope N_joining_of ["many", "nest"] (defScope s_joining_of) := ⟨rfl, rfl, rfl, by decide +kernel, rfl, by decide +kernel, by decide +kernel⟩
abbrev s_tie : Stmt := topS 2
abbrev N_tie : List Str := ["many", "nest", "rows", "first", "second"]
theorem sc_tie : FnScope N_tie ["many", "nest", "rows"] (defScope s_tie) := ⟨rfl, rfl, rfl, by decide +kernel, rfl, by decide +kernel, by decide +kernel⟩
abbrev s_halved_joining : Stmt := topS 4
abbrev N_halved_joining : List Str := ["ends"]
theorem sc_halved_joining : FnScope N_halved_joining ["ends"] (defScope s_halved_joining) := ⟨rfl, rfl, rfl, by decide +kernel, rfl, by decide +kernel, by decide +kernel⟩
abbrev s_halved : Stmt := topS 5
abbrev N_halved : List Str := ["ends", "some", "way", "order", "end", "numbers", "first", "second", "half"]
theorem sc_halved : FnScope N_halved ["ends", "some", "way"] (defScope s_halved) := ⟨rfl, rfl, rfl, by decide +kernel, rfl, by decide +kernel, by decide +kernel⟩
abbrev s__law_deck : Stmt := topS 7
abbrev N__law_deck : List Str := ["_law_script", "_law_cells", "_law_seed", "_law_k", "_law_cell"]
theorem sc__law_deck : FnScope N__law_deck ["_law_script"] (defScope s__law_deck) := ⟨rfl, rfl, rfl, by decide +kernel, rfl, by decide +kernel, by decide +kernel⟩
abbrev s__law_mixed : Stmt := topS 8
abbrev N__law_mixed : List Str := ["_law_cell", "_law_turn", "_law_number"]
theorem sc__law_mixed : FnScope N__law_mixed ["_law_cell", "_law_turn"] (defScope s__law_mixed) := ⟨rfl, rfl, rfl, by decide +kernel, rfl, by decide +kernel, by decide +kernel⟩
abbrev s__law_take : Stmt := topS 9
abbrev N__law_take : List Str := ["_law_deck_here", "_law_most", "_law_digit", "_law_cell"]
theorem sc__law_take : FnScope N__law_take ["_law_deck_here", "_law_most"] (defScope s__law_take) := ⟨rfl, rfl, rfl, by decide +kernel, rfl, by decide +kernel, by decide +kernel⟩
abbrev s__law_place : Stmt := topS 10
abbrev N__law_place : List Str := ["_law_deck_here", "_law_manner", "_law_x", "_law_edge"]
theorem sc__law_place : FnScope N__law_place ["_law_deck_here", "_law_manner"] (defScope s__law_place) := ⟨rfl, rfl, rfl, by decide +kernel, rfl, by decide +kernel, by decide +kernel⟩
abbrev s__law_ends : Stmt := topS 11
abbrev N__law_ends : List Str := ["_law_deck_here", "_law_great", "_law_manner", "_law_many", "_law_ends_here", "_law_k", "_law_x", "_law_y"]
theorem sc__law_ends : FnScope N__law_ends ["_law_deck_here"] (defScope s__law_ends) := ⟨rfl, rfl, rfl, by decide +kernel, rfl, by decide +kernel, by decide +kernel⟩
abbrev s__law_rank : Stmt := topS 12
abbrev N__law_rank : List Str := ["_law_ends_here", "_law_some", "_law_end", "_law_way", "_law_lesser", "_law_here", "_law_one", "_law_there", "_law_first", "_law_second"]
theorem sc__law_rank : FnScope N__law_rank ["_law_ends_here", "_law_some", "_law_end", "_law_way"] (defScope s__law_rank) := ⟨rfl, rfl, rfl, by decide +kernel, rfl, by decide +kernel, by decide +kernel⟩
abbrev s__law_due : Stmt := topS 13
abbrev N__law_due : List Str := ["_law_ends_here", "_law_some", "_law_way", "_law_due_here", "_law_first", "_law_second", "_law_end", "_law_one", "_law_other"]
theorem sc__law_due : FnScope N__law_due ["_law_ends_here", "_law_some", "_law_way", "_law_due_here"] (defScope s__law_due) := ⟨rfl, rfl, rfl, by decide +kernel, rfl, by decide +kernel, by decide +kernel⟩
abbrev s_law : Stmt := topS 14
abbrev N_law : List Str := ["_law_script", "_law_deck_here", "_law_turn", "_law_ends_here", "_law_due_here", "_law_others", "_law_end", "_law_some"]
theorem sc_law : FnScope N_law ["_law_script"] (defScope s_law) := ⟨rfl, rfl, rfl, by decide +kernel, rfl, by decide +kernel, by decide +kernel⟩
-- what the top has left: the defs, and the built-ins that are not bound anew
set_option maxHeartbeats 0 in
structure Tx (K : PySem.W.Frag) (mg : Str → Option Value) where
  a_joining_of : Addr
  d_joining_of : FuncData
  F_joining_of : Fun K "joining_of" "joining_of" s_joining_of a_joining_of d_joining_of
  b_joining_of : Binds K d_joining_of ["many", "nest"] []
  g_joining_of : mg "joining_of" = some (.ref a_joining_of)
  a_tie : Addr
  d_tie : FuncData
  F_tie : Fun K "tie" "tie" s_tie a_tie d_tie
  b_tie : Binds K d_tie ["many", "nest", "rows"] []
  g_tie : mg "tie" = some (.ref a_tie)
  a_halved_joining : Addr
  d_halved_joining : FuncData
  F_halved_joining : Fun K "halved_joining" "halved_joining" s_halved_joining a_halved_joining d_halved_joining
  b_halved_joining : Binds K d_halved_joining ["ends"] []
  g_halved_joining : mg "halved_joining" = some (.ref a_halved_joining)
  a_halved : Addr
  d_halved : FuncData
  F_halved : Fun K "halved" "halved" s_halved a_halved d_halved
  b_halved : Binds K d_halved ["ends", "some", "way"] []
  g_halved : mg "halved" = some (.ref a_halved)
  a__law_deck : Addr
  d__law_deck : FuncData
  F__law_deck : Fun K "_law_deck" "_law_deck" s__law_deck a__law_deck d__law_deck
  b__law_deck : Binds K d__law_deck ["_law_script"] []
  g__law_deck : mg "_law_deck" = some (.ref a__law_deck)
  a__law_mixed : Addr
  d__law_mixed : FuncData
  F__law_mixed : Fun K "_law_mixed" "_law_mixed" s__law_mixed a__law_mixed d__law_mixed
  b__law_mixed : Binds K d__law_mixed ["_law_cell", "_law_turn"] []
  g__law_mixed : mg "_law_mixed" = some (.ref a__law_mixed)
  a__law_take : Addr
  d__law_take : FuncData
  F__law_take : Fun K "_law_take" "_law_take" s__law_take a__law_take d__law_take
  b__law_take : Binds K d__law_take ["_law_deck_here", "_law_most"] []
  g__law_take : mg "_law_take" = some (.ref a__law_take)
  a__law_place : Addr
  d__law_place : FuncData
  F__law_place : Fun K "_law_place" "_law_place" s__law_place a__law_place d__law_place
  b__law_place : Binds K d__law_place ["_law_deck_here", "_law_manner"] []
  g__law_place : mg "_law_place" = some (.ref a__law_place)
  a__law_ends : Addr
  d__law_ends : FuncData
  F__law_ends : Fun K "_law_ends" "_law_ends" s__law_ends a__law_ends d__law_ends
  b__law_ends : Binds K d__law_ends ["_law_deck_here"] []
  g__law_ends : mg "_law_ends" = some (.ref a__law_ends)
  a__law_rank : Addr
  d__law_rank : FuncData
  F__law_rank : Fun K "_law_rank" "_law_rank" s__law_rank a__law_rank d__law_rank
  b__law_rank : Binds K d__law_rank ["_law_ends_here", "_law_some", "_law_end", "_law_way"] []
  g__law_rank : mg "_law_rank" = some (.ref a__law_rank)
  a__law_due : Addr
  d__law_due : FuncData
  F__law_due : Fun K "_law_due" "_law_due" s__law_due a__law_due d__law_due
  b__law_due : Binds K d__law_due ["_law_ends_here", "_law_some", "_law_way", "_law_due_here"] []
  g__law_due : mg "_law_due" = some (.ref a__law_due)
  a_law : Addr
  d_law : FuncData
  F_law : Fun K "law" "law" s_law a_law d_law
  b_law : Binds K d_law ["_law_script"] []
  g_law : mg "law" = some (.ref a_law)
  n_list : mg "list" = none
  n_int : mg "int" = none
  n_isinstance : mg "isinstance" = none
  n_len : mg "len" = none
  n_tuple : mg "tuple" = none
  n_sorted : mg "sorted" = none
  n_range : mg "range" = none
  n_repr : mg "repr" = none
  n_enumerate : mg "enumerate" = none
  n_sum : mg "sum" = none
section
local macro_rules | `(tactic| walk_at "ewc") => `(tactic| first
  | (show (0 : Int) < _; omega)
  | (show (0 : Int) < _; decide)
  | (refine ⟨?_, ?_⟩ <;> omega)
  | exact Or.inl ⟨by omega, by omega⟩
  | exact Or.inr ⟨by omega, by omega⟩)
def dk4 (c : Addr) (g s t : Int) : List (Key × V) := [(.inr "cells", .ref c), (.inr "great", .int g), (.inr "seed", .int s), (.inr "turn", .int t)]
theorem dk4_pg {c : Addr} {g s t a' : Int} : putK (dk4 c g s t) (.inr "great") (.int a') = dk4 c a' s t := rfl
theorem dk4_pt {c : Addr} {g s t a' : Int} : putK (dk4 c g s t) (.inr "turn") (.int a') = dk4 c g s a' := rfl
/-- a deck stands at dk, its cells at c -/
structure Deck (H : Hp) (dk c : Addr) : Prop where
  ex : ∃ (g s t : Int) (cs : List Int), H dk = some (.dK (dk4 c g s t)) ∧ H c = some (.lst (cs.map V.int))
section
variable {P : Program} {w : World} {K : PySem.W.Frag} {mg : Str → Option Value} {base : Heap}
inductive sp__law_mixed : List V → Hp → VK → XK → Prop
  | mk {H : Hp} {Q : VK} {E : XK} {a b : Int} (k : ∀ r : Int, Q (.int r) H) : sp__law_mixed [.int a, .int b] H Q E
theorem ok__law_mixed (T : Tx K mg) : FnOk P w K mg base CX0 1 T.a__law_mixed T.d__law_mixed ["_law_cell", "_law_turn"] sp__law_mixed := by
  refine T.F__law_mixed.ok sc__law_mixed (fun vs H Q E h => ?_) (fun cdv A outer s0 H vs Q E hr h => ?_)
  · cases h
    rfl
  · obtain @⟨_, _, _, a, b, k⟩ := h
    refine ⟨_, (pss_cons (ps_set (i := 2) sc__law_mixed.nd rfl (Or.inl rfl) (pe_op op_mod (pe_op op_mul (pe_op op_add (pe_op op_add (pe_op op_mod (pv 0) pe_int) (pe_op op_mul pe_int (pv 1))) pe_int) pe_int) pe_int))
      (pss_cons (ps_set (i := 2) sc__law_mixed.nd rfl (Or.inl rfl) (pe_op op_mod (pe_op op_add (pe_op op_add (pe_op op_mul (pv 2) (pv 2)) (pe_op op_mul pe_int (pv 1))) pe_int) pe_int))
      (pss_one (ps_ret (pe_op op_fdiv (pe_op op_mod (pe_op op_mul (pv 2) pe_int) pe_int) pe_int))))), ?_⟩
    refine ⟨_, rfl, ⟨_, _, rfl, rfl, by walk_at "ewc", ?_⟩⟩
    refine ⟨_, rfl, ⟨_, _, rfl, rfl, by walk_at "ewc", ⟨_, _, rfl, rfl, ⟨_, _, rfl, rfl, ⟨_, _, rfl, rfl, by walk_at "ewc", ⟨_, _, rfl, rfl, by walk_at "ewc", ?_⟩⟩⟩⟩⟩⟩
    have n0 : ∀ z : Int, 0 ≤ z % 2147483647 := fun z => by omega
    have n1 : ∀ z : Int, z % 2147483647 < 2147483647 := fun z => by omega
    refine ⟨_, rfl, _, rfl, ⟨_, _, rfl, rfl, Or.inl ⟨Int.lt_of_lt_of_le (by decide) (n0 _), Int.lt_trans (n1 _) (by decide)⟩, ?_⟩⟩
    refine ⟨_, rfl, ⟨_, _, rfl, rfl, by walk_at "ewc", ⟨_, _, rfl, rfl, ⟨_, _, rfl, rfl, ⟨_, _, rfl, rfl, by walk_at "ewc", ?_⟩⟩⟩⟩⟩
    refine ⟨_, rfl, ⟨_, _, rfl, rfl, by walk_at "ewc", ⟨_, _, rfl, rfl, by walk_at "ewc", ⟨_, _, rfl, rfl, by walk_at "ewc", ?_⟩⟩⟩⟩
    exact k _
inductive sp__law_take : List V → Hp → VK → XK → Prop
  | mk {H : Hp} {Q : VK} {E : XK} {dk c : Addr} {m : Int} (hD : Deck H dk c) (m0 : 0 < m) (m1 : m < 1073741824) (k : ∀ H' r, 0 ≤ r → r < m → Deck H' dk c → Evo [dk, c] H H' → Q (.int r) H') : sp__law_take [.ref dk, .int m] H Q E
set_option maxHeartbeats 1000000 in
theorem ok__law_take (T : Tx K mg) : FnOk P w K mg base CX0 2 T.a__law_take T.d__law_take ["_law_deck_here", "_law_most"] sp__law_take := by
  refine T.F__law_take.ok sc__law_take (fun vs H Q E h => ?_) (fun cdv A outer s0 H vs Q E hr h => ?_)
  · cases h
    rfl
  · obtain @⟨_, _, _, dk, c, m, ⟨g, s, t, cs, hd, hc⟩, m0, m1, k⟩ := h
    have hu := hu_of hr
    have ncd : c ≠ dk := ne_of hc hd (by intro z; cases z)
    have hmd : ∀ ys, H dk ≠ some (.tup ys) := fun ys e => by rw [hd] at e; cases e
    have hfd : ∀ u v, H dk ≠ some (.frz u v) := fun ys _ e => by rw [hd] at e; cases e
    have hmc : ∀ ys, H c ≠ some (.tup ys) := fun ys e => by rw [hc] at e; cases e
    have hfc : ∀ u v, H c ≠ some (.frz u v) := fun ys _ e => by rw [hc] at e; cases e
    have i1 : dk ∈ [dk, c] := List.mem_cons_self
    have i2 : c ∈ [dk, c] := List.mem_cons_of_mem _ List.mem_cons_self
    refine ⟨_, (pss_cons (ps_if (pt_cmpR op_gt (pe_dget hu (pv 0) pe_str (fun _ _ => rfl)) pe_int (nomark _)) (pss_cons (ps_set (i := 2) sc__law_take.nd rfl (Or.inl rfl) (pe_op op_mod (pe_dget hu (pv 0) pe_str (fun _ _ => rfl)) (pv 1)))
      (pss_cons (ps_dput hu (pv 0) pe_str (pe_op op_fdiv (pe_dget hu (pv 0) pe_str (fun _ _ => rfl)) (pv 1)) rfl)
      (pss_one (ps_ret (pv 2))))) pss_nil)
      (pss_cons (ps_dput hu (pv 0) pe_str (pe_op op_add (pe_dget hu (pv 0) pe_str (fun _ _ => rfl)) pe_int) rfl)
      (pss_cons (ps_set (i := 3) sc__law_take.nd rfl (Or.inl rfl) (pe_dget hu (pv 0) pe_str (fun _ _ => rfl)))
      (C8.pss_cut (ps_if (pt_cmpR (r := Ew.rNeX K) (Ew.op_neX hr.units) (pe_dget hu (pv 0) pe_str (fun _ _ => rfl)) (pe_lst pa_nil) (nomark _)) (pss_one (ps_set (i := 3) sc__law_take.nd rfl (Or.inl rfl) (pe_bm0 PySem.F.plainAttrs_list PySem.F.slot_list_pop PySem.F.type_list_pop mt_pop (pe_dget hu (pv 0) pe_str (fun _ _ => rfl))))) pss_nil)
      (pss_cons (ps_if (pt_cmpR op_ge (pv 3) (pe_op (Ew.op_powC 10 18 1000000000000000000) pe_int pe_int) (nomark _)) (pss_cons (ps_dput hu (pv 0) pe_str (pe_op op_fdiv (pv 3) (pv 1)) rfl)
      (pss_one (ps_ret (pe_op op_mod (pv 3) (pv 1))))) pss_nil)
      (pss_one (ps_ret (pe_op op_mod (pe_call (ok__law_mixed T) (hr.mono (by decide)) rfl T.g__law_mixed T.F__law_mixed.kp T.b__law_mixed .nil pass0 (pa_cons (pv 3) (pa_cons (pe_dget hu (pv 0) pe_str (fun _ _ => rfl)) pa_nil))) (pv 1))))))))), ?_⟩
    refine ⟨_, rfl, dgetE hd rfl ⟨_, _, rfl, rfl, _, rfl, iteD (fun hL => ?_) (fun hL => ?_)⟩⟩
    · refine ⟨_, rfl, dgetE hd rfl ⟨_, rfl, ⟨_, _, rfl, rfl, by walk_at "ewc", ?_⟩⟩⟩
      refine ⟨_, rfl, dgetE hd rfl ⟨_, rfl, ⟨_, _, rfl, rfl, by walk_at "ewc", ?_⟩⟩⟩
      refine ⟨_, rfl, dputE hd dk4_pg ?_ (by show 4 ≤ 1000; decide)⟩
      refine ⟨_, rfl, ?_⟩
      exact k _ _ (Int.emod_nonneg _ (by omega)) (Int.emod_lt_of_pos _ m0) ⟨_, _, _, _, upd_same, get_ne ncd hc⟩ ((Evo.refl _ H).set i1 hmd hfd)
    · refine ⟨_, rfl, dgetE hd rfl ⟨_, _, rfl, rfl, ?_⟩⟩
      refine ⟨_, rfl, dputE hd dk4_pt ?_ (by show 4 ≤ 1000; decide)⟩
      have E1 : Evo [dk, c] H (upd H dk (.dK (dk4 c g s (t + 1)))) := (Evo.refl _ H).set i1 hmd hfd
      have hd1 : upd H dk (.dK (dk4 c g s (t + 1))) dk = some (.dK (dk4 c g s (t + 1))) := upd_same
      have hc1 : upd H dk (.dK (dk4 c g s (t + 1))) c = some (.lst (cs.map V.int)) := get_ne ncd hc
      refine ⟨_, rfl, dgetE hd1 rfl ?_⟩
      refine ⟨fun σ H' => ∃ (num : Int) (cs' : List Int), σ = [some (.ref dk), some (.int m), none, some (.int num)] ∧ H' dk = some (.dK (dk4 c g s (t + 1))) ∧ H' c = some (.lst (cs'.map V.int)) ∧ Evo [dk, c] H H', ?_, ?_⟩
      · refine ⟨_, rfl, dgetE hd1 rfl ⟨sz (by decide), fun p hp => ?_⟩⟩
        have E2 := E1.new (o := .lst []) hp
        have hd2 := get_new (o := .lst []) hp hd1
        have hc2 := get_new (o := .lst []) hp hc1
        refine ⟨_, eqL hc2 upd_same (intsOf_of cs) (xs := cs) (ys := []) rfl, ?_⟩
        refine ⟨_, rfl, iteN (fun hne => ?_) (fun he => ?_)⟩
        · refine ⟨_, rfl, dgetE hd2 rfl ⟨.inl ⟨rfl, _, SqL.of hc2⟩, ?_⟩⟩
          have hpos : 0 < cs.length := List.length_pos_iff.mpr hne
          have hla : (cs.map V.int)[(cs.map V.int).length - 1]? = some (.int (cs[cs.length - 1]'(by omega))) := by
            rw [List.length_map, List.getElem?_map, List.getElem?_eq_getElem (by omega)]
            rfl
          refine ⟨c, _, _, rfl, rfl, hc2, hla, ?_⟩
          generalize cs[cs.length - 1]'(by omega) = z
          rw [show (cs.map V.int).dropLast = cs.dropLast.map V.int by rw [List.map_dropLast]]
          have hd3 := get_ne (o := .lst (cs.dropLast.map V.int)) ncd.symm hd2
          have E3 := E2.set (o := .lst (cs.dropLast.map V.int)) i2 hmc hfc
          exact ⟨z, cs.dropLast, rfl, hd3, upd_same, E3⟩
        · exact ⟨s, cs, rfl, hd2, hc2, E2⟩
      · rintro σ' H' ⟨num, cs', rfl, hd4, hc4, E4⟩
        refine ⟨_, rfl, rfl, rfl, _, _, rfl, rfl, _, rfl, iteD (fun hz => ?_) (fun hz => ?_)⟩
        · refine ⟨_, rfl, _, rfl, ⟨_, _, rfl, rfl, by walk_at "ewc", ?_⟩⟩
          refine ⟨_, rfl, dputE hd4 dk4_pg ?_ (by show 4 ≤ 1000; decide)⟩
          refine ⟨_, rfl, _, rfl, ⟨_, _, rfl, rfl, by walk_at "ewc", ?_⟩⟩
          exact k _ _ (Int.emod_nonneg _ (by omega)) (Int.emod_lt_of_pos _ m0) ⟨_, _, _, _, upd_same, get_ne ncd hc4⟩ (E4.set i1 hmd hfd)
        · refine ⟨_, rfl, _, rfl, dgetE hd4 rfl (sp__law_mixed.mk fun r => ?_)⟩
          refine ⟨_, rfl, ⟨_, _, rfl, rfl, by walk_at "ewc", ?_⟩⟩
          exact k _ _ (Int.emod_nonneg _ (by omega)) (Int.emod_lt_of_pos _ m0) ⟨_, _, _, _, hd4, hc4⟩ E4
end

end
end Ew
namespace Ew
open PySem PySem.Spec PyProof.Rows L2 Pu
variable [Tbs]
section
variable {P : Program} {w : World} {K : PySem.W.Frag} {mg : Str → Option Value} {base : Heap}
theorem deck_dkF {H : Hp} {dk c : Addr} (h : Deck H dk c) : DkF 4 H dk c := by
  obtain ⟨g, s, t, cs, h1, h2⟩ := h
  exact ⟨g, s, t, cs, h1, h2, trivial⟩
def P__law_deck : PSt := (sSet 2 (eOp dAdd (eC (.int 19)) (eCall gSum (aCons (eLc [3, 4] (iEnum0 (eV 1)) (gtTup 2 (gtCons (gtName 3) (gtCons (gtName 4) gtNil))) (fun _ k => k true) (eOp dMul (eOp dMod (eV 4) (eC (.int 1000003))) (eOp dAdd (eV 3) (eC (.int 1))))) aNil))))
local macro_rules | `(tactic| walk_at "pscall") => `(tactic| fail)
local macro_rules | `(tactic| walk_at "psside") => `(tactic| first
  | exact Or.inl ⟨by decide, by decide⟩
  | exact Or.inr ⟨by decide, by decide⟩
  | exact ⟨by decide, by decide, by decide⟩
  | exact ⟨by decide, by decide⟩
  | decide
  | omega
  | (unfold CMul; omega)
  | (unfold CDiv; omega))
local macro_rules | `(tactic| walk_at "ps") => `(tactic| first
  | with_reducible refine nx_i ?_
  | with_reducible refine rt_i ?_
  | with_reducible refine blK_i ?_
  | with_reducible refine sSeq_set ?_
  | with_reducible refine sSeq_setM ?_
  | with_reducible refine sSetM_i ?_
  | ((with_reducible refine' sDput_i ?ps1 ?_); (case ps1 => exact rfl))
  | ((with_reducible refine' eO_d ?ps1 ?_); (case ps1 => exact rfl))
  | with_reducible refine dDin_i ?_
  | with_reducible refine mE_i ?_
  | with_reducible refine mLst_i ?_
  | with_reducible refine mTup_i ?_
  | with_reducible refine mCons_i ?_
  | with_reducible refine mNil_i ?_
  | ((with_reducible refine' mPop_i ?ps1 ?_); (case ps1 => exact rfl))
  | ((with_reducible refine' mPop0_i ?ps1 ?_); (case ps1 => exact rfl))
  | with_reducible refine sSeq_ifr ?_
  | with_reducible refine sSeq_asg ?_
  | with_reducible refine sSeq_own ?_
  | with_reducible refine sSeq_app ?_
  | with_reducible refine sSeq_for ?_
  | with_reducible refine sSeq_par ?_
  | with_reducible refine sSeq_drop ?_
  | with_reducible refine sSeq_put ?_
  | with_reducible refine sSeq_pop ?_
  | with_reducible refine sSeq_ifn ?_
  | ((with_reducible refine' eV_i ?ps1 ?_); (case ps1 => exact rfl))
  | with_reducible refine eOp_i ?_
  | with_reducible refine eC_i ?_
  | ((with_reducible refine' dIx_t ?ps1 ?_); (case ps1 => exact rfl))
  | with_reducible refine dI0_i ?_
  | with_reducible refine dAdd_i ?_
  | with_reducible refine aCons_i ?_
  | with_reducible refine dEq_int ?_
  | with_reducible refine dNe_int ?_
  | with_reducible refine aNil_i ?_
  | with_reducible refine eCall_i ?_
  | walk_at "pscall"
  | ((with_reducible refine' and_rfl ?ps1 ?_); (case ps1 => exact rfl))
  | with_reducible refine sSet_i ?_
  | with_reducible refine sNext_i ?_
  | with_reducible refine sRet_i ?_
  | with_reducible refine eTup_i ?_
  | ((with_reducible refine' and_le ?ps1 ?_); (case ps1 => exact rfl))
  | with_reducible refine tOf_i ?_
  | with_reducible refine sIf_i ?_
  | with_reducible refine tAndP_i ?_
  | with_reducible refine tOrP_i ?_
  | with_reducible refine tNotP_i ?_
  | with_reducible refine gMax_2 ?_
  | with_reducible refine gMin_2 ?_
  | with_reducible refine gMax_3 ?_
  | with_reducible refine gMin_3 ?_
  | with_reducible refine gMax_4 ?_
  | with_reducible refine gMin_4 ?_
  | with_reducible refine gMax_5 ?_
  | with_reducible refine gAbs_i ?_
  | with_reducible refine gLen_t ?_
  | with_reducible refine gLen_l ?_
  | with_reducible refine gInt_i ?_
  | with_reducible refine gInt_b ?_
  | ((with_reducible refine' gIsi_i ?ps1 ?ps2 ?_); (case ps1 => exact rfl); (case ps2 => exact rfl))
  | with_reducible refine sAsg_i ?_
  | ((with_reducible refine' gtTup_i ?ps1 ?_); (case ps1 => exact rfl))
  | with_reducible refine gtCons_i ?_
  | with_reducible refine gtNil_i ?_
  | with_reducible refine gtName_i ?_
  | with_reducible refine sPar_i ?_
  | with_reducible refine prK_i ?_
  | with_reducible refine inK_i ?_
  | with_reducible refine sqK_t ?_
  | with_reducible refine sqK_l ?_
  | with_reducible refine bk_i ?_
  | with_reducible refine ct_i ?_
  | with_reducible refine eUn_i ?_
  | with_reducible refine dNeg_i ?_
  | with_reducible refine dNot_i ?_
  | with_reducible refine eAnd_i ?_
  | with_reducible refine eOr_i ?_
  | with_reducible refine eChain_i ?_
  | with_reducible refine eIf_i ?_
  | ((with_reducible refine' dIx_l ?ps1 ?_); (case ps1 => exact rfl))
  | with_reducible refine eLst_i ?_
  | with_reducible refine dTuple_l ?_
  | with_reducible refine dTuple_t ?_
  | with_reducible refine dList_l ?_
  | with_reducible refine dList_t ?_
  | ((with_reducible refine' eO_i ?ps1 ?_); (case ps1 => exact rfl))
  | with_reducible refine sOwn_i ?_
  | ((with_reducible refine' and_lt ?ps1 ?_); (case ps1 => exact rfl))
  | ((with_reducible refine' sAppend_i ?ps1 ?_); (case ps1 => exact rfl))
  | ((with_reducible refine' sFrz_i ?ps1 ?_); (case ps1 => exact rfl))
  | ((with_reducible refine' sRetO_i ?ps1 ?_); (case ps1 => exact rfl))
  | with_reducible refine sRetN_i ?_
  | with_reducible refine sDrop_i ?_
  | with_reducible refine sFor_i ?_
  | with_reducible refine iRange1_i ?_
  | with_reducible refine iRange2_i ?_
  | with_reducible refine iSeq_i ?_
  | with_reducible refine iEnumS_i ?_
  | with_reducible refine iEnum0_i ?_
  | with_reducible refine en0K_t ?_
  | with_reducible refine en0K_l ?_
  | with_reducible refine iRev1_i ?_
  | with_reducible refine sSeq_ins ?_
  | with_reducible refine sSeq_aug ?_
  | ((with_reducible refine' sAug_i ?ps1 ?_); (case ps1 => exact rfl))
  | ((with_reducible refine' sInsert_i ?ps1 ?_); (case ps1 => exact rfl))
  | ((with_reducible refine' sPopAt_i ?ps1 ?_); (case ps1 => exact rfl))
  | with_reducible refine eSl_i ?_
  | with_reducible refine eLc_i ?_
  | with_reducible refine eLc2_i ?_
  | with_reducible refine oNo_i ?_
  | with_reducible refine oPart_i ?_
  | with_reducible refine dSl_t ?_
  | with_reducible refine dSl_l ?_
  | with_reducible refine dRevL_i ?_
  | with_reducible refine eRg1_i ?_
  | with_reducible refine bCase_t ?_
  | with_reducible refine bCase_f ?_
  | with_reducible refine ite_t ?_
  | with_reducible refine ite_f ?_
  | with_reducible refine ite_nt ?_
  | with_reducible refine ite_nf ?_
  | ((with_reducible refine' dII_i ?ps1 ?_); (case ps1 => walk_at "psside")))

local macro_rules | `(tactic| walk_at "psenv") => `(tactic| simp only [List.map_cons, List.map_nil, List.cons_append, List.nil_append, List.length_cons, List.length_nil, Nat.reduceAdd, Nat.reduceSub, List.replicate])

theorem intsD_m' {α : Type} (l : List α) (f : α → Int) : intsD (l.map fun x => D.int (f x)) = some (l.map f) := by
  have : (l.map fun x => D.int (f x)) = (l.map f).map D.int := by rw [List.map_map]; rfl
  rw [this]
  exact intsD_map _
theorem deck_pure {ns : List Int} (hn : ns.length ≤ 63) : P__law_deck [SV.no, SV.val (.lst (ns.map D.int)), SV.no, SV.no, SV.no] { nx := fun env => ∃ s : Int, env[1]? = some (.val (.lst (ns.map D.int))) ∧ env[2]? = some (.val (.int s)), rt := fun _ => False } := by
  unfold P__law_deck
  repeat walk_at "ps"
  refine ⟨by simp [noOwn], ?_⟩
  unfold enumD
  have hg : ∀ i ∈ List.range (ns.map D.int).length, ((ns.map D.int)[i]?).getD .non = .int ((ns[i]?).getD 0) := fun i hi => by
    have := List.mem_range.mp hi
    rw [List.length_map] at this
    rw [List.getElem?_map, List.getElem?_eq_getElem this]
    rfl
  refine lcP_m (fun i : Nat => .tup [.int (0 + (i : Nat)), ((ns.map D.int)[i]?).getD .non]) (fun i : Nat => .int ((ns[i]?).getD 0 % 1000003 * (0 + (i : Nat) + 1))) (List.range (ns.map D.int).length) (by rw [List.length_range, List.length_map]; omega) ?_ ?_
  · intro i hi A B hA
    rw [hg i hi]
    have hi' := List.mem_range.mp hi
    rw [List.length_map] at hi'
    repeat walk_at "ps"
    exact hA
  repeat walk_at "ps"
  refine gSum_i (intsD_m' _ _) ?_
  repeat walk_at "ps"
  exact ⟨_, rfl, rfl⟩
theorem Tabs.set {H : Hp} {p : Addr} {o u : HO} (h : Tabs H) (hp : H p = some u) (hu : ∀ ps, u ≠ .tbl ps) : Tabs (upd H p o) := fun P hP => by
  obtain ⟨ps, e, t⟩ := h P hP
  refine ⟨ps, ?_, t⟩
  rw [upd_ne (fun w => ?_)]
  · exact e
  · rw [w, hp] at e
    cases e
    exact hu ps rfl
inductive sp__law_deck (K : PySem.W.Frag) : List V → Hp → VK → XK → Prop
  | mk {H : Hp} {Q : VK} {E : XK} {a : Addr} {ns : List Int} (hS : SqL K H a (ns.map V.int)) (hn : ns.length ≤ 63) (hT : Tabs H) (k : ∀ H' dk c, Deck H' dk c → Tabs H' → True → True → Q (.ref dk) H') : sp__law_deck K [.ref a] H Q E
theorem ok__law_deck (T : Tx K mg) : FnOk P w K mg base CX0 1 T.a__law_deck T.d__law_deck ["_law_script"] (sp__law_deck K) := by
  refine T.F__law_deck.ok sc__law_deck (fun vs H Q _ h => ?_) (fun _ _ _ _ H vs Q _ hr h => ?_)
  · cases h
    rfl
  · obtain @⟨_, _, _, a, ns, hS, hn, hT, k⟩ := h
    have hlen : (ns.map V.int).length ≤ 63 := by rw [List.length_map]; exact hn
    refine ⟨_, pss_cons (ps_set (i := 1) sc__law_deck.nd rfl (Or.inl rfl) (pe_callTy call_list_of (by rfl) T.n_list (by decide +kernel) (pa_cons (pe_slice (r := Ew.rSlE K) Ew.sl_listE (pv 0) po_none (po_some pe_int)) pa_nil))) (pss_cons (S.ps (fr := false) (p := P__law_deck) (s_set (i := 2) (e_op op_addA opd_add (E.ec e_int) (E.ec (e_callB (cr_sum rfl) cd_sum (by rfl) T.n_sum (by decide +kernel) (a_cons (l := false) (E.toB (e_lc (own := [("_law_k", 3), ("_law_cell", 4)]) (i_enum0 (e_v 1) (by rfl) T.n_enumerate) (fun _ _ _ _ _ => (g_tup (by rfl) (gs_cons (g_name (i := 3) sc__law_deck.nd rfl (.inl rfl)) (gs_cons (g_name (i := 4) sc__law_deck.nd rfl (.inl rfl)) gs_nil)))) (fun _ _ _ _ _ => ts_nil) (fun _ _ _ _ _ => (e_op op_mul opd_mul (E.toB (e_op op_mod opd_mod (E.toB (e_v 4)) (E.toB e_int))) (E.toB (e_op op_addA opd_add (E.ec (e_v 3)) (E.ec e_int))))) rfl sc__law_deck.nd (blkOk_by (N := N__law_deck) (sc := defScope s__law_deck) (by decide +kernel)) (fun _ h => h) (rg_tup (rgs_cons rg_name (rgs_cons rg_name rgs_nil))))) a_nil)))) sc__law_deck.nd rfl (Or.inl rfl))) (pss_one (ps_ret (pe_disp (pps_cons pe_str (pe_revL (pv 1)) (pps_cons pe_str pe_int (pps_cons pe_str (pv 2) (pps_cons pe_str pe_int pps_nil)))) (by rfl) (by rfl) (fun z => by cases z) (by decide))))), ?_⟩
    refine ⟨_, rfl, _, rfl, _, _, _, rfl, hS, Ew.cut63 hlen, fun q hq => ?_⟩
    refine ⟨_, _, rfl, .inl (SqL.of upd_same), fun c hc => ?_⟩
    refine mid_deck (cs := ns) (a := a) (n := 3) upd_same ((hT.new hq).new hc) (fun σ' H' b s h1 h2 h3 hT' => ?_) (deck_pure hn)
    intro dk hdk
    have h2' := get_new (o := .dK []) hdk h2
    refine ⟨_, h1, b, _, rfl, SqL.of h2', fun r hr' => ?_⟩
    refine ⟨_, h3, ?_⟩
    refine ⟨get_new hr' upd_same, [(.inr "cells", .ref r), (.inr "great", .int 0), (.inr "seed", .int s), (.inr "turn", .int 0)], rfl, by show 4 ≤ 15; decide, ?_⟩
    have nrd : r ≠ dk := fun e => by rw [e, upd_same] at hr'; cases hr'
    refine k _ dk r ⟨0, s, 0, ns.reverse, upd_same, get_ne nrd ?_⟩ (Tabs.set ((hT'.new hdk).new hr') (get_new hr' upd_same) (fun ps q => by cases q)) trivial trivial
    rw [upd_same, List.map_reverse]
theorem okS__law_take (T : Tx K mg) : FnOk P w K mg base CX0 2 T.a__law_take T.d__law_take ["_law_deck_here", "_law_most"] (Sf false 2 wp__law_take) := by
  refine (ok__law_take T).imp fun vs H Q E h => ?_
  obtain ⟨z, X, ds, k, hl, hz, hx, hA, hw, c⟩ := h
  unfold wp__law_take at hw
  split at hw
  · obtain ⟨v, u, rfl, hv, hu⟩ := hA.two
    cases hu
    obtain ⟨⟨m0, m1⟩, hk⟩ := hw
    generalize hd : D.deck 4 = d at hv
    cases hv with
    | deck ho =>
      obtain ⟨e1, e2, e3⟩ := ho
      injection hd with hd
      rw [← hd] at e3
      have e3' := e3
      obtain ⟨a, r, s, cs, h1, h2, h3⟩ := e3
      rw [e1]
      refine sp__law_take.mk (c := z.c) ⟨a, r, s, cs, h1, h2⟩ m0 m1 fun H' t t0 t1 hD ev => ?_
      obtain ⟨a', r', s', cs', g1, g2⟩ := hD
      refine c (.int t) (.int t) H' ⟨fun b o q n => ev.old b o q fun m => ?_, fun b q => ?_, fun b q => ?_, tab_deck e3' ev.old⟩ (.int t) (fun q => Bool.noConfusion q) (hk t t0 t1)
      · rcases List.mem_cons.mp m with w | w
        · exact n (.inl ⟨e2, .inl w⟩)
        · exact n (.inl ⟨e2, .inr (List.mem_singleton.mp w)⟩)
      · by_cases hb : b ∈ [z.dk, z.c]
        · rcases List.mem_cons.mp hb with w | w
          · rw [w, g1]; intro q; cases q
          · rw [List.mem_singleton.mp w, g2]; intro q; cases q
        · cases hq : H b with
          | none => exact absurd hq q
          | some o => rw [ev.old b o hq hb]; intro q; cases q
      · obtain ⟨q1, q2, q3⟩ := q
        exact ⟨q1, q2, by rw [← hd]; exact ⟨a', r', s', cs', g1, g2, trivial⟩⟩
    | _ => cases hd
  · exact hw.elim
end
end Ew
namespace Ew
open PySem PySem.Spec PyProof.Rows L2 Pu
variable [Tbs]
section
variable {P : Program} {w : World} {K : PySem.W.Frag} {mg : Str → Option Value} {base : Heap}
theorem ok_tie (T : Tx K mg) : FnOk P w K mg base CX0 8 T.a_tie T.d_tie ["many", "nest", "rows"] (SfB 2 wp_tie) :=
  fn_rec (fun m => SfB 2 (wpR_tie m)) 0 (fun vs H Q E h => let ⟨_, _, _, _, _, _, _, _, _, _, _, _, _, _, _, h, _⟩ := h; h) (fun m IH => fn_okB (p := P_tie (wpR_tie m)) (k := 0 + m) T.F_tie sc_tie (n := 2) rfl (by decide) (fun _ _ _ _ _ _ hr => (b_cons (s_if (t_val (E.toB (e_callB call_isi cd_isi (by rfl) T.n_isinstance (by decide +kernel) (a_cons (l := false) (E.toB (e_v 1)) (a_cons (l := false) (E.toB (e_ty (n := "int") (by rfl) T.n_int (by decide +kernel))) a_nil))))) (b_one (s_retB (e_v 1))) b_nil)
    (b_cons (s_lendS (i := 3) (r := 2) IH (wl_tie _) hr rfl T.g_tie T.F_tie.kp T.b_tie (ab_cons (e_v 0) (ab_cons (e_ix (E.ec (e_v 1)) (E.ec e_int)) (ab_one 2))) sc_tie.nd rfl (Or.inl rfl))
    (b_cons (s_lendS (i := 4) (r := 2) IH (wl_tie _) hr rfl T.g_tie T.F_tie.kp T.b_tie (ab_cons (e_v 0) (ab_cons (e_ix (E.ec (e_v 1)) (E.ec e_int)) (ab_one 2))) sc_tie.nd rfl (Or.inl rfl))
    (b_cons (s_append 2 (e_tup (a_cons (l := true) (e_v 3) (a_cons (l := true) (e_v 4) a_nil))) (hb := fun _ _ ho he => pe_bm PySem.F.plainAttrs_list PySem.F.slot_list_append PySem.F.type_list_append mt_append ho (pa_cons he pa_nil)))
    (b_one (s_retB (e_op op_sub opd_sub (E.toB (e_op op_addA opd_add (E.ec (e_v 0)) (E.ec (e_callB call_lenA cd_len (by rfl) T.n_len (by decide +kernel) (a_cons (l := false) (E.toB (e_o 2)) a_nil))))) (E.toB e_int)))))))))) 8
theorem ok_joining_of (T : Tx K mg) : FnOk P w K mg base CX0 9 T.a_joining_of T.d_joining_of ["many", "nest"] (Sf false 2 wp_joining_of) :=
  fn_ok (p := P_joining_of) (k := 8) T.F_joining_of sc_joining_of (fun _ _ _ _ _ _ hr => (b_cons (s_own (i := 2) (e_lst a_nil) sc_joining_of.nd rfl (Or.inl rfl))
    (b_cons (s_lend (r := 2) (ok_tie T) (wl_tie _) (hr.mono (by decide)) rfl T.g_tie T.F_tie.kp T.b_tie (ab_cons (e_v 0) (ab_cons (e_v 1) (ab_one 2))))
    (b_frz 2 (b_one (s_ret (E.toB (e_tuple (E.ec (e_v 2)) (by rfl) T.n_tuple (by decide +kernel)))))))))
theorem ok_halved (T : Tx K mg) : FnOk P w K mg base CX0 8 T.a_halved T.d_halved ["ends", "some", "way"] (Sf false 3 wp_halved) :=
  fn_rec (fun m => Sf false 3 (wpR_halved m)) 0 (fun vs H Q E h => let ⟨_, _, _, _, _, _, _, _, h, _⟩ := h; h) (fun m IH => fn_ok (p := P_halved (wpR_halved m)) (k := 0 + m) T.F_halved sc_halved (fun _ _ _ _ _ _ hr => (b_cons (s_if (t_cmp (op_eqD hr.units) (OpD.eb opd_eq) (E.toB (e_callB call_lenA cd_len (by rfl) T.n_len (by decide +kernel) (a_cons (l := false) (E.toB (e_v 1)) a_nil))) (E.toB e_int) (nomark _)) (b_one (s_ret (E.toB (e_ix (E.ec (e_v 1)) (E.ec e_int))))) b_nil)
    (b_cons (s_set (i := 3) (E.fe (e_callB cr_sortedN cd_sortedN (by rfl) T.n_sorted (by decide +kernel) (a_cons (l := true) (E.fe (e_lc (own := [("end", 4)]) (i_seq (e_v 1)) (fun _ _ _ _ _ => (g_name (i := 4) sc_halved.nd rfl (.inl rfl))) (fun _ _ _ _ _ => ts_nil) (fun _ _ _ _ _ => (e_tup (a_cons (l := true) (e_ix (E.ec (e_ix (E.ec (e_v 0)) (E.ec (e_v 4)))) (E.ec (e_v 2))) (a_cons (l := true) (e_ix (E.ec (e_ix (E.ec (e_v 0)) (E.ec (e_v 4)))) (E.ec (e_op op_sub opd_sub (E.toB e_int) (E.toB (e_v 2))))) (a_cons (l := true) (e_v 4) a_nil))))) rfl sc_halved.nd (blkOk_by (N := N_halved) (sc := defScope s_halved) (by decide +kernel)) (fun _ h => h) rg_name)) a_nil))) sc_halved.nd rfl (Or.inl rfl))
    (b_cons (s_setLc (i := 5) (own := [("first", 6), ("second", 7), ("end", 4)]) (i_seq (e_v 3)) (fun _ _ _ _ _ => (g_tup (by rfl) (gs_cons (g_name (i := 6) sc_halved.nd rfl (.inl rfl)) (gs_cons (g_name (i := 7) sc_halved.nd rfl (.inl rfl)) (gs_cons (g_name (i := 4) sc_halved.nd rfl (.inl rfl)) gs_nil))))) (fun _ _ _ _ _ => ts_nil) (fun _ _ _ _ _ => (e_v 4)) rfl sc_halved.nd rfl rfl (sw_true rfl rfl rfl (by decide +kernel)) (blkOk_by (N := N_halved) (sc := defScope s_halved) (by decide +kernel)) (fun _ h => h) (rg_tup (rgs_cons rg_name (rgs_cons rg_name (rgs_cons rg_name rgs_nil)))))
    (b_cons (s_set (i := 8) (e_op op_fdiv opd_div (E.toB (e_op op_addA opd_add (E.ec (e_callB call_lenA cd_len (by rfl) T.n_len (by decide +kernel) (a_cons (l := false) (E.toB (e_v 1)) a_nil))) (E.ec e_int))) (E.toB e_int)) sc_halved.nd rfl (Or.inl rfl))
    (b_one (s_ret (E.toB (e_tup (a_cons (l := true) (e_call (mo := .e) IH hr rfl T.g_halved T.F_halved.kp T.b_halved (a_cons (l := true) (e_v 0) (a_cons (l := true) (e_slice (E.ec (e_v 5)) o_none (o_some (E.toB (e_v 8)))) (a_cons (l := true) (e_op op_sub opd_sub (E.toB e_int) (E.toB (e_v 2))) a_nil))) (.inl rfl)) (a_cons (l := true) (e_call (mo := .e) IH hr rfl T.g_halved T.F_halved.kp T.b_halved (a_cons (l := true) (e_v 0) (a_cons (l := true) (e_slice (E.ec (e_v 5)) (o_some (E.toB (e_v 8))) o_none) (a_cons (l := true) (e_op op_sub opd_sub (E.toB e_int) (E.toB (e_v 2))) a_nil))) (.inl rfl)) a_nil)))))))))))) 8
theorem ok_halved_joining (T : Tx K mg) : FnOk P w K mg base CX0 10 T.a_halved_joining T.d_halved_joining ["ends"] (Sf false 1 wp_halved_joining) :=
  fn_ok (p := P_halved_joining) (k := 9) T.F_halved_joining sc_halved_joining (fun _ _ _ _ _ _ hr => (b_one (s_ret (E.toB (e_call (mo := .e) (ok_joining_of T) (hr.mono (by decide)) rfl T.g_joining_of T.F_joining_of.kp T.b_joining_of (a_cons (l := true) (e_callB call_lenA cd_len (by rfl) T.n_len (by decide +kernel) (a_cons (l := false) (E.toB (e_v 0)) a_nil)) (a_cons (l := true) (e_call (mo := .e) (ok_halved T) (hr.mono (by decide)) rfl T.g_halved T.F_halved.kp T.b_halved (a_cons (l := true) (e_v 0) (a_cons (l := true) (E.fe (e_lstRg1 (E.toB (e_callB call_lenA cd_len (by rfl) T.n_len (by decide +kernel) (a_cons (l := false) (E.toB (e_v 0)) a_nil))) rfl (by rfl) T.n_list (by rfl) T.n_range)) (a_cons (l := true) e_int a_nil))) (.inl rfl)) a_nil)) (.inl rfl))))))
theorem ok__law_place (T : Tx K mg) : FnOk P w K mg base CX0 3 T.a__law_place T.d__law_place ["_law_deck_here", "_law_manner"] (Sf false 2 wp__law_place) :=
  fn_ok (p := P__law_place) (k := 2) T.F__law_place sc__law_place (fun _ _ _ _ _ _ hr => (b_cons (s_if (t_cmp (op_eqD hr.units) (OpD.eb opd_eq) (E.toB (e_v 1)) (E.toB e_int) (nomark _)) (b_one (s_ret (E.toB (e_tup (a_cons (l := true) (e_call (mo := .e) (okS__law_take T) (hr.mono (by decide)) rfl T.g__law_take T.F__law_take.kp T.b__law_take (a_cons (l := true) (e_v 0) (a_cons (l := true) e_int a_nil)) (.inl rfl)) (a_cons (l := true) (e_call (mo := .e) (okS__law_take T) (hr.mono (by decide)) rfl T.g__law_take T.F__law_take.kp T.b__law_take (a_cons (l := true) (e_v 0) (a_cons (l := true) e_int a_nil)) (.inl rfl)) a_nil)))))) b_nil)
    (b_cons (s_if (t_cmp (op_eqD hr.units) (OpD.eb opd_eq) (E.toB (e_v 1)) (E.toB e_int) (nomark _)) (b_one (s_ret (E.toB (e_tup (a_cons (l := true) (e_op op_sub opd_sub (E.toB (e_call (mo := .e) (okS__law_take T) (hr.mono (by decide)) rfl T.g__law_take T.F__law_take.kp T.b__law_take (a_cons (l := true) (e_v 0) (a_cons (l := true) e_int a_nil)) (.inl rfl))) (E.toB e_int)) (a_cons (l := true) e_int a_nil)))))) b_nil)
    (b_cons (s_if (t_cmp (op_eqD hr.units) (OpD.eb opd_eq) (E.toB (e_v 1)) (E.toB e_int) (nomark _)) (b_cons (s_set (i := 2) (e_op op_sub opd_sub (E.toB (e_call (mo := .e) (okS__law_take T) (hr.mono (by decide)) rfl T.g__law_take T.F__law_take.kp T.b__law_take (a_cons (l := true) (e_v 0) (a_cons (l := true) e_int a_nil)) (.inl rfl))) (E.toB e_int)) sc__law_place.nd rfl (Or.inl rfl))
    (b_one (s_ret (E.toB (e_tup (a_cons (l := true) (e_v 2) (a_cons (l := true) (e_op op_sub opd_sub (E.toB e_int) (E.toB (e_v 2))) a_nil))))))) b_nil)
    (b_cons (s_if (t_cmp (op_eqD hr.units) (OpD.eb opd_eq) (E.toB (e_v 1)) (E.toB e_int) (nomark _)) (b_cons (s_set (i := 3) (E.fe (e_lst (a_cons (l := true) (e_powC 10 6 1000000) (a_cons (l := true) (e_op op_sub opd_sub (E.toB e_int) (E.toB (e_powC 10 6 1000000))) (a_cons (l := true) (e_op op_sub opd_sub (E.toB (e_powC 10 6 1000000)) (E.toB e_int)) (a_cons (l := true) (e_op op_sub opd_sub (E.toB e_int) (E.toB (e_powC 10 6 1000000))) (a_cons (l := true) e_int a_nil))))))) sc__law_place.nd rfl (Or.inl rfl))
    (b_one (s_ret (E.toB (e_tup (a_cons (l := true) (e_ix (E.ec (e_v 3)) (E.ec (e_call (mo := .e) (okS__law_take T) (hr.mono (by decide)) rfl T.g__law_take T.F__law_take.kp T.b__law_take (a_cons (l := true) (e_v 0) (a_cons (l := true) e_int a_nil)) (.inl rfl)))) (a_cons (l := true) (e_ix (E.ec (e_v 3)) (E.ec (e_call (mo := .e) (okS__law_take T) (hr.mono (by decide)) rfl T.g__law_take T.F__law_take.kp T.b__law_take (a_cons (l := true) (e_v 0) (a_cons (l := true) e_int a_nil)) (.inl rfl)))) a_nil))))))) b_nil)
    (b_cons (s_if (t_cmp (op_eqD hr.units) (OpD.eb opd_eq) (E.toB (e_v 1)) (E.toB e_int) (nomark _)) (b_one (s_ret (E.toB (e_tup (a_cons (l := true) e_int (a_cons (l := true) (e_op op_sub opd_sub (E.toB e_int) (E.toB e_int)) a_nil)))))) b_nil)
    (b_one (s_ret (E.toB (e_tup (a_cons (l := true) (e_op op_sub opd_sub (E.toB (e_call (mo := .e) (okS__law_take T) (hr.mono (by decide)) rfl T.g__law_take T.F__law_take.kp T.b__law_take (a_cons (l := true) (e_v 0) (a_cons (l := true) (e_op op_addA opd_add (E.ec (e_op op_mul opd_mul (E.toB e_int) (E.toB (e_powC 10 6 1000000)))) (E.ec e_int)) a_nil)) (.inl rfl))) (E.toB (e_powC 10 6 1000000))) (a_cons (l := true) (e_op op_sub opd_sub (E.toB (e_call (mo := .e) (okS__law_take T) (hr.mono (by decide)) rfl T.g__law_take T.F__law_take.kp T.b__law_take (a_cons (l := true) (e_v 0) (a_cons (l := true) (e_op op_addA opd_add (E.ec (e_op op_mul opd_mul (E.toB e_int) (E.toB (e_powC 10 6 1000000)))) (E.ec e_int)) a_nil)) (.inl rfl))) (E.toB (e_powC 10 6 1000000))) a_nil))))))))))))
theorem ok__law_ends (T : Tx K mg) : FnOk P w K mg base CX0 4 T.a__law_ends T.d__law_ends ["_law_deck_here"] (Sf false 1 wp__law_ends) :=
  fn_ok (p := P__law_ends) (k := 3) T.F__law_ends sc__law_ends (fun _ _ _ _ _ _ hr => (b_cons (s_set (i := 1) (e_cmp (op_eqD hr.units) opd_eq (E.toB (e_call (mo := .e) (okS__law_take T) (hr.mono (by decide)) rfl T.g__law_take T.F__law_take.kp T.b__law_take (a_cons (l := true) (e_v 0) (a_cons (l := true) e_int a_nil)) (.inl rfl))) (E.toB e_int) (nomark _)) sc__law_ends.nd rfl (Or.inl rfl))
    (b_cons (s_set (i := 2) (e_call (mo := .e) (okS__law_take T) (hr.mono (by decide)) rfl T.g__law_take T.F__law_take.kp T.b__law_take (a_cons (l := true) (e_v 0) (a_cons (l := true) e_int a_nil)) (.inl rfl)) sc__law_ends.nd rfl (Or.inl rfl))
    (b_cons (s_set (i := 3) (e_op op_addA opd_add (E.ec e_int) (E.ec (e_call (mo := .e) (okS__law_take T) (hr.mono (by decide)) rfl T.g__law_take T.F__law_take.kp T.b__law_take (a_cons (l := true) (e_v 0) (a_cons (l := true) e_int a_nil)) (.inl rfl)))) sc__law_ends.nd rfl (Or.inl rfl))
    (b_cons (s_if (t_val (E.toB (e_v 1))) (b_one (s_set (i := 3) (e_op op_addA opd_add (E.ec e_int) (E.ec (e_call (mo := .e) (okS__law_take T) (hr.mono (by decide)) rfl T.g__law_take T.F__law_take.kp T.b__law_take (a_cons (l := true) (e_v 0) (a_cons (l := true) e_int a_nil)) (.inl rfl)))) sc__law_ends.nd rfl (Or.inl rfl))) b_nil)
    (b_cons (s_own (i := 4) (e_lst a_nil) sc__law_ends.nd rfl (Or.inl rfl))
    (b_cons (s_for (i_range1 (a_cons (l := false) (E.toB (e_v 3)) a_nil) (by rfl) T.n_range) (g_name (i := 5) sc__law_ends.nd rfl (.inl rfl))
    (b_cons (s_asg (e_call (mo := .e) (ok__law_place T) (hr.mono (by decide)) rfl T.g__law_place T.F__law_place.kp T.b__law_place (a_cons (l := true) (e_v 0) (a_cons (l := true) (e_v 2) a_nil)) (.inl rfl)) (g_tup (by rfl) (gs_cons (g_name (i := 6) sc__law_ends.nd rfl (.inl rfl)) (gs_cons (g_name (i := 7) sc__law_ends.nd rfl (.inl rfl)) gs_nil))))
    (b_cons (s_if (w_t (w_and (t_cmp (op_neD hr.units) (OpD.eb opd_ne) (E.toB (e_o 4)) (E.toB (e_lst a_nil)) (nomark _)) (w_and1 (t_cmp (op_eqD hr.units) (OpD.eb opd_eq) (E.toB (e_call (mo := .e) (okS__law_take T) (hr.mono (by decide)) rfl T.g__law_take T.F__law_take.kp T.b__law_take (a_cons (l := true) (e_v 0) (a_cons (l := true) e_int a_nil)) (.inl rfl))) (E.toB e_int) (nomark _))))) (b_one (s_asg (e_slice (E.ec (e_ix (e_o 4) (E.ec (e_call (mo := .e) (okS__law_take T) (hr.mono (by decide)) rfl T.g__law_take T.F__law_take.kp T.b__law_take (a_cons (l := true) (e_v 0) (a_cons (l := true) (e_callB call_lenA cd_len (by rfl) T.n_len (by decide +kernel) (a_cons (l := false) (E.toB (e_o 4)) a_nil)) a_nil)) (.inl rfl))))) o_none (o_some (E.toB e_int))) (g_tup (by rfl) (gs_cons (g_name (i := 6) sc__law_ends.nd rfl (.inl rfl)) (gs_cons (g_name (i := 7) sc__law_ends.nd rfl (.inl rfl)) gs_nil))))) b_nil)
    (b_one (s_append 4 (e_tup (a_cons (l := true) (e_v 6) (a_cons (l := true) (e_v 7) (a_cons (l := true) (e_call (mo := .e) (okS__law_take T) (hr.mono (by decide)) rfl T.g__law_take T.F__law_take.kp T.b__law_take (a_cons (l := true) (e_v 0) (a_cons (l := true) (e_op op_addA opd_add (E.ec (e_powC 10 6 1000000)) (E.ec e_int)) a_nil)) (.inl rfl)) (a_cons (l := true) (e_call (mo := .e) (okS__law_take T) (hr.mono (by decide)) rfl T.g__law_take T.F__law_take.kp T.b__law_take (a_cons (l := true) (e_v 0) (a_cons (l := true) (e_op op_addA opd_add (E.ec (e_powC 10 6 1000000)) (E.ec e_int)) a_nil)) (.inl rfl)) a_nil))))) (hb := fun _ _ ho he => pe_bm PySem.F.plainAttrs_list PySem.F.slot_list_append PySem.F.type_list_append mt_append ho (pa_cons he pa_nil)))))) PassesOwn.never rfl)
    (b_frz 4 (b_one (s_ret (E.toB (e_tuple (E.ec (e_v 4)) (by rfl) T.n_tuple (by decide +kernel)))))))))))))
theorem ok__law_rank (T : Tx K mg) : FnOk P w K mg base CX0 1 T.a__law_rank T.d__law_rank ["_law_ends_here", "_law_some", "_law_end", "_law_way"] (Sf false 4 wp__law_rank) :=
  fn_ok (p := P__law_rank) (k := 0) T.F__law_rank sc__law_rank (fun _ _ _ _ _ _ hr => (b_cons (s_set (i := 4) e_int sc__law_rank.nd rfl (Or.inl rfl))
    (b_cons (s_set (i := 5) (e_ix (E.ec (e_v 0)) (E.ec (e_v 2))) sc__law_rank.nd rfl (Or.inl rfl))
    (b_cons (s_for (i_seq (e_v 1)) (g_name (i := 6) sc__law_rank.nd rfl (.inl rfl))
    (b_cons (s_set (i := 7) (e_ix (E.ec (e_v 0)) (E.ec (e_v 6))) sc__law_rank.nd rfl (Or.inl rfl))
    (b_cons (s_set (i := 8) (e_op op_sub opd_sub (E.toB (e_ix (E.ec (e_v 7)) (E.ec (e_v 3)))) (E.toB (e_ix (E.ec (e_v 5)) (E.ec (e_v 3))))) sc__law_rank.nd rfl (Or.inl rfl))
    (b_cons (s_set (i := 9) (e_op op_sub opd_sub (E.toB (e_ix (E.ec (e_v 7)) (E.ec (e_op op_sub opd_sub (E.toB e_int) (E.toB (e_v 3)))))) (E.toB (e_ix (E.ec (e_v 5)) (E.ec (e_op op_sub opd_sub (E.toB e_int) (E.toB (e_v 3))))))) sc__law_rank.nd rfl (Or.inl rfl))
    (b_one (s_if (w_t (w_or (t_cmp op_lt (OpD.eb opd_lt) (E.toB (e_v 8)) (E.toB e_int) (nomark _)) (w_or1 (w_t (w_and (t_cmp (op_eqD hr.units) (OpD.eb opd_eq) (E.toB (e_v 8)) (E.toB e_int) (nomark _)) (w_and1 (w_t (w_or (t_cmp op_lt (OpD.eb opd_lt) (E.toB (e_v 9)) (E.toB e_int) (nomark _)) (w_or1 (w_t (w_and (t_cmp (op_eqD hr.units) (OpD.eb opd_eq) (E.toB (e_v 9)) (E.toB e_int) (nomark _)) (w_and1 (t_cmp op_lt (OpD.eb opd_lt) (E.toB (e_v 6)) (E.toB (e_v 2)) (nomark _)))))))))))))) (b_one (s_set (i := 4) (e_op op_addA opd_add (E.ec (e_v 4)) (E.ec e_int)) sc__law_rank.nd rfl (Or.inl rfl))) b_nil))))) PassesOwn.never rfl)
    (b_one (s_ret (E.toB (e_v 4))))))))
theorem ok__law_due (T : Tx K mg) : FnOk P w K mg base CX0 9 T.a__law_due T.d__law_due ["_law_ends_here", "_law_some", "_law_way", "_law_due_here"] (SfB 3 wp__law_due) :=
  fn_rec (fun m => SfB 3 (wpR__law_due m)) 1 (fun vs H Q E h => let ⟨_, _, _, _, _, _, _, _, _, _, _, _, _, _, _, h, _⟩ := h; h) (fun m IH => fn_okB (p := P__law_due (wpR__law_due m)) (k := 1 + m) T.F__law_due sc__law_due (n := 3) rfl (by decide) (fun _ _ _ _ _ _ hr => (b_cons (s_if (t_cmp (op_eqD hr.units) (OpD.eb opd_eq) (E.toB (e_callB call_lenA cd_len (by rfl) T.n_len (by decide +kernel) (a_cons (l := false) (E.toB (e_v 1)) a_nil))) (E.toB e_int) (nomark _)) (b_one (s_retB (e_ix (E.ec (e_v 1)) (E.ec e_int)))) b_nil)
    (b_cons (s_own (i := 4) (e_lst a_nil) sc__law_due.nd rfl (Or.inl rfl))
    (b_cons (s_own (i := 5) (e_lst a_nil) sc__law_due.nd rfl (Or.inl rfl))
    (b_cons (s_for (i_seq (e_v 1)) (g_name (i := 6) sc__law_due.nd rfl (.inl rfl))
    (b_one (s_if (t_cmp op_lt (OpD.eb opd_lt) (E.toB (e_op op_mul opd_mul (E.toB e_int) (E.toB (e_call (mo := .e) (ok__law_rank T) (hr.mono (by omega)) rfl T.g__law_rank T.F__law_rank.kp T.b__law_rank (a_cons (l := true) (e_v 0) (a_cons (l := true) (e_v 1) (a_cons (l := true) (e_v 6) (a_cons (l := true) (e_v 2) a_nil)))) (.inl rfl))))) (E.toB (e_callB call_lenA cd_len (by rfl) T.n_len (by decide +kernel) (a_cons (l := false) (E.toB (e_v 1)) a_nil))) (nomark _)) (b_one (s_append 4 (e_v 6) (hb := fun _ _ ho he => pe_bm PySem.F.plainAttrs_list PySem.F.slot_list_append PySem.F.type_list_append mt_append ho (pa_cons he pa_nil)))) (b_one (s_append 5 (e_v 6) (hb := fun _ _ ho he => pe_bm PySem.F.plainAttrs_list PySem.F.slot_list_append PySem.F.type_list_append mt_append ho (pa_cons he pa_nil)))))) PassesOwn.never rfl)
    (b_frz 4 (b_frz 5 (b_cons (s_lendS (i := 7) (r := 3) IH (wl__law_due _) hr rfl T.g__law_due T.F__law_due.kp T.b__law_due (ab_cons (e_v 0) (ab_cons (e_v 4) (ab_cons (e_op op_sub opd_sub (E.toB e_int) (E.toB (e_v 2))) (ab_one 3)))) sc__law_due.nd rfl (Or.inl rfl))
    (b_cons (s_lendS (i := 8) (r := 3) IH (wl__law_due _) hr rfl T.g__law_due T.F__law_due.kp T.b__law_due (ab_cons (e_v 0) (ab_cons (e_v 5) (ab_cons (e_op op_sub opd_sub (E.toB e_int) (E.toB (e_v 2))) (ab_one 3)))) sc__law_due.nd rfl (Or.inl rfl))
    (b_cons (s_append 3 (e_tup (a_cons (l := true) (e_v 7) (a_cons (l := true) (e_v 8) a_nil))) (hb := fun _ _ ho he => pe_bm PySem.F.plainAttrs_list PySem.F.slot_list_append PySem.F.type_list_append mt_append ho (pa_cons he pa_nil)))
    (b_one (s_retB (e_op op_sub opd_sub (E.toB (e_op op_addA opd_add (E.ec (e_callB call_lenA cd_len (by rfl) T.n_len (by decide +kernel) (a_cons (l := false) (E.toB (e_v 0)) a_nil))) (E.ec (e_callB call_lenA cd_len (by rfl) T.n_len (by decide +kernel) (a_cons (l := false) (E.toB (e_o 3)) a_nil))))) (E.toB e_int))))))))))))))) 8
end
end Ew
namespace Ew
open PySem PySem.Spec PyProof.Rows L2 Pu
variable [Tbs]
section
variable {P : Program} {w : World} {K : PySem.W.Frag} {mg : Str → Option Value} {base : Heap}
theorem run_law (T : Tx K mg) {a : Addr} {s : Shared} {ns : List Int} {H : Hp} (hS : SqL K H a (ns.map V.int)) (hn : ns.length ≤ 63) (hT : Tabs H) (e0 : Env0 P w K mg base callerA [] s H) (hbd : BindsTo s T.d_law ⟨[.ref a], []⟩ [("_law_script", .ref a)]) :
    codeAny (model P w) callerA (.call (.ref T.a_law) ⟨[.ref a], []⟩) (CR CX0 [] P w H s (fun v _ => v = .bl true) E0) s := by
  obtain ⟨oc, od, kV, doc, pm, an, cdv, ct, osl, e, lk, hcd⟩ := T.F_law.ex
  rw [e] at lk hbd
  have hr0 : Room 11 callerA := ⟨rfl, by decide, by decide⟩
  have hr : Room 10 (cxOf CX0 P w K mg base N_law "law" (defScope s_law) T.a_law cdv callerA [] s H E0).nox.A := Room.deeper (k := 10) hr0 _
  have key : ∃ t, PSs (cxOf CX0 P w K mg base N_law "law" (defScope s_law) T.a_law cdv callerA [] s H E0).nox (defBody s_law) t ∧ t { nx := fun _ H' => (fun (v : V) (_ : Hp) => v = .bl true) .non H', rt := fun (v : V) (_ : Hp) => v = .bl true } (L2.start N_law [.ref a]) H := by
    refine ⟨_, pss_cons (ps_set (i := 1) sc_law.nd rfl (Or.inl rfl) (pe_call (ok__law_deck T) (hr.mono (by decide)) rfl T.g__law_deck T.F__law_deck.kp T.b__law_deck .nil pass0 (pa_cons (pv 0) pa_nil))) (B.pss (fr := false) (p := P_law) (b_cons (s_for (i_range1 (a_cons (l := false) (E.toB e_int) a_nil) (by rfl) T.n_range) (g_name (i := 2) sc_law.nd rfl (.inl rfl))
    (b_cons (s_set (i := 3) (e_call (mo := .e) (ok__law_ends T) (hr.mono (by decide)) rfl T.g__law_ends T.F__law_ends.kp T.b__law_ends (a_cons (l := true) (e_v 1) a_nil) (.inl rfl)) sc_law.nd rfl (Or.inl rfl))
    (b_cons (s_own (i := 4) (e_lst a_nil) sc_law.nd rfl (Or.inl rfl))
    (b_cons (s_lend (r := 4) (ok__law_due T) (wl__law_due _) (hr.mono (by decide)) rfl T.g__law_due T.F__law_due.kp T.b__law_due (ab_cons (e_v 3) (ab_cons (E.fe (e_lstRg1 (E.toB (e_callB call_lenA cd_len (by rfl) T.n_len (by decide +kernel) (a_cons (l := false) (E.toB (e_v 3)) a_nil))) rfl (by rfl) T.n_list (by rfl) T.n_range)) (ab_cons e_int (ab_one 4)))))
    (b_cons (s_set (i := 5) (e_tuple (E.ec (E.fe (e_lc (own := [("_law_end", 6)]) (i_seq (e_v 3)) (fun _ _ _ _ _ => (g_name (i := 6) sc_law.nd rfl (.inl rfl))) (fun _ _ _ _ _ => ts_nil) (fun _ _ _ _ _ => (e_op op_addA opd_add (E.ec (e_slice (E.ec (e_v 6)) o_none (o_some (E.toB e_int)))) (E.ec (e_tup (a_cons (l := true) (e_ix (E.ec (e_v 6)) (E.ec e_int)) (a_cons (l := true) (e_ix (E.ec (e_v 6)) (E.ec e_int)) a_nil)))))) rfl sc_law.nd (blkOk_by (N := N_law) (sc := defScope s_law) (by decide +kernel)) (fun _ h => h) rg_name))) (by rfl) T.n_tuple (by decide +kernel)) sc_law.nd rfl (Or.inl rfl))
    (b_one (s_for (i_seq (e_tup (a_cons (l := true) (e_v 3) (a_cons (l := true) (e_v 5) (a_cons (l := true) (e_v 3) a_nil))))) (g_name (i := 7) sc_law.nd rfl (.inl rfl))
    (b_one (s_if (t_cmp op_ne (OpD.eb opd_neS) (E.toB (e_callB (cr_repr rfl (hu65 hr)) cd_repr (by rfl) T.n_repr (by decide +kernel) (a_cons (l := false) (E.toB (e_call (mo := .e) (ok_halved_joining T) (hr.mono (by decide)) rfl T.g_halved_joining T.F_halved_joining.kp T.b_halved_joining (a_cons (l := true) (e_v 7) a_nil) (.inl rfl))) a_nil))) (E.toB (e_callB (cr_repr rfl (hu65 hr)) cd_repr (by rfl) T.n_repr (by decide +kernel) (a_cons (l := false) (E.toB (e_tuple (e_o 4) (by rfl) T.n_tuple (by decide +kernel))) a_nil))) (nomark _)) (b_one (s_ret (E.toB e_bl))) b_nil)) PassesOwn.never rfl)))))) PassesOwn.never rfl)
    (b_one (s_ret (E.toB e_bl))))), ?_⟩
    refine ⟨_, rfl, sp__law_deck.mk hS hn hT (fun H1 dk c hD1 hT1 _ _ => ?_)⟩
    exact rest_ok (nt := 4) (N := N_law) (by decide) rs_tPS (by decide) (deck_dkF hD1) hT1 (Q := fun v _ => v = .bl true) (fun _ => rfl) law_pure
  obtain ⟨t, h1, h2⟩ := key
  exact run_at (k := 10) (us := [.ref a]) (vs := [.ref a]) lk hcd sc_law hr0 e0 hbd (.cons rfl .nil) rfl h1.nox h2
end
omit [Tbs] in
set_option maxHeartbeats 0 in
theorem all_mk {l : PySem.W.OpenLaw} {w : World} {K : PySem.W.Frag} {h : Heap} {mg : Str → Option Value} {fa : Addr} (X : K.In h) (G : h.Ns mainGlobals mg) (hfa : mg "law" = some (.ref fa))
    {f0 f1 f2 f3 f4 f5 f6 f7 f8 f9 f10 f11 : Addr}
    {od0 an0 od1 an1 od2 an2 od3 an3 od4 an4 od5 an5 od6 an6 od7 an7 od8 an8 od9 an9 od10 an10 od11 an11 : Option Addr} {sl0 sl1 sl2 sl3 sl4 sl5 sl6 sl7 sl8 sl9 sl10 sl11 : Array (Option Value)} {oc0 kV0 dc0 pm0 ct0 cd0 oc1 kV1 dc1 pm1 ct1 cd1 oc2 kV2 dc2 pm2 ct2 cd2 oc3 kV3 dc3 pm3 ct3 cd3 oc4 kV4 dc4 pm4 ct4 cd4 oc5 kV5 dc5 pm5 ct5 cd5 oc6 kV6 dc6 pm6 ct6 cd6 oc7 kV7 dc7 pm7 ct7 cd7 oc8 kV8 dc8 pm8 ct8 cd8 oc9 kV9 dc9 pm9 ct9 cd9 oc10 kV10 dc10 pm10 ct10 cd10 oc11 kV11 dc11 pm11 ct11 cd11 : Value}
    (a0 : PySem.W.nsIn K mainGlobals "joining_of" = some (some (.ref f0))) (l0 : K.lookup f0 = some ⟨oc0, od0, .func (PySem.W.fnOf "joining_of" "joining_of" (defArgs s_joining_of) (defBody s_joining_of) (defScope s_joining_of) .none kV0 dc0 pm0 an0 cd0 ct0), sl0⟩) (c0 : PySem.W.codeIn K cd0 "joining_of" = true) (k0 : PySem.W.keepIn K (.ref f0) = true)
    (a1 : PySem.W.nsIn K mainGlobals "tie" = some (some (.ref f1))) (l1 : K.lookup f1 = some ⟨oc1, od1, .func (PySem.W.fnOf "tie" "tie" (defArgs s_tie) (defBody s_tie) (defScope s_tie) .none kV1 dc1 pm1 an1 cd1 ct1), sl1⟩) (c1 : PySem.W.codeIn K cd1 "tie" = true) (k1 : PySem.W.keepIn K (.ref f1) = true)
    (a2 : PySem.W.nsIn K mainGlobals "halved_joining" = some (some (.ref f2))) (l2 : K.lookup f2 = some ⟨oc2, od2, .func (PySem.W.fnOf "halved_joining" "halved_joining" (defArgs s_halved_joining) (defBody s_halved_joining) (defScope s_halved_joining) .none kV2 dc2 pm2 an2 cd2 ct2), sl2⟩) (c2 : PySem.W.codeIn K cd2 "halved_joining" = true) (k2 : PySem.W.keepIn K (.ref f2) = true)
    (a3 : PySem.W.nsIn K mainGlobals "halved" = some (some (.ref f3))) (l3 : K.lookup f3 = some ⟨oc3, od3, .func (PySem.W.fnOf "halved" "halved" (defArgs s_halved) (defBody s_halved) (defScope s_halved) .none kV3 dc3 pm3 an3 cd3 ct3), sl3⟩) (c3 : PySem.W.codeIn K cd3 "halved" = true) (k3 : PySem.W.keepIn K (.ref f3) = true)
    (a4 : PySem.W.nsIn K mainGlobals "_law_deck" = some (some (.ref f4))) (l4 : K.lookup f4 = some ⟨oc4, od4, .func (PySem.W.fnOf "_law_deck" "_law_deck" (defArgs s__law_deck) (defBody s__law_deck) (defScope s__law_deck) .none kV4 dc4 pm4 an4 cd4 ct4), sl4⟩) (c4 : PySem.W.codeIn K cd4 "_law_deck" = true) (k4 : PySem.W.keepIn K (.ref f4) = true)
    (a5 : PySem.W.nsIn K mainGlobals "_law_mixed" = some (some (.ref f5))) (l5 : K.lookup f5 = some ⟨oc5, od5, .func (PySem.W.fnOf "_law_mixed" "_law_mixed" (defArgs s__law_mixed) (defBody s__law_mixed) (defScope s__law_mixed) .none kV5 dc5 pm5 an5 cd5 ct5), sl5⟩) (c5 : PySem.W.codeIn K cd5 "_law_mixed" = true) (k5 : PySem.W.keepIn K (.ref f5) = true)
    (a6 : PySem.W.nsIn K mainGlobals "_law_take" = some (some (.ref f6))) (l6 : K.lookup f6 = some ⟨oc6, od6, .func (PySem.W.fnOf "_law_take" "_law_take" (defArgs s__law_take) (defBody s__law_take) (defScope s__law_take) .none kV6 dc6 pm6 an6 cd6 ct6), sl6⟩) (c6 : PySem.W.codeIn K cd6 "_law_take" = true) (k6 : PySem.W.keepIn K (.ref f6) = true)
    (a7 : PySem.W.nsIn K mainGlobals "_law_place" = some (some (.ref f7))) (l7 : K.lookup f7 = some ⟨oc7, od7, .func (PySem.W.fnOf "_law_place" "_law_place" (defArgs s__law_place) (defBody s__law_place) (defScope s__law_place) .none kV7 dc7 pm7 an7 cd7 ct7), sl7⟩) (c7 : PySem.W.codeIn K cd7 "_law_place" = true) (k7 : PySem.W.keepIn K (.ref f7) = true)
    (a8 : PySem.W.nsIn K mainGlobals "_law_ends" = some (some (.ref f8))) (l8 : K.lookup f8 = some ⟨oc8, od8, .func (PySem.W.fnOf "_law_ends" "_law_ends" (defArgs s__law_ends) (defBody s__law_ends) (defScope s__law_ends) .none kV8 dc8 pm8 an8 cd8 ct8), sl8⟩) (c8 : PySem.W.codeIn K cd8 "_law_ends" = true) (k8 : PySem.W.keepIn K (.ref f8) = true)
    (a9 : PySem.W.nsIn K mainGlobals "_law_rank" = some (some (.ref f9))) (l9 : K.lookup f9 = some ⟨oc9, od9, .func (PySem.W.fnOf "_law_rank" "_law_rank" (defArgs s__law_rank) (defBody s__law_rank) (defScope s__law_rank) .none kV9 dc9 pm9 an9 cd9 ct9), sl9⟩) (c9 : PySem.W.codeIn K cd9 "_law_rank" = true) (k9 : PySem.W.keepIn K (.ref f9) = true)
    (a10 : PySem.W.nsIn K mainGlobals "_law_due" = some (some (.ref f10))) (l10 : K.lookup f10 = some ⟨oc10, od10, .func (PySem.W.fnOf "_law_due" "_law_due" (defArgs s__law_due) (defBody s__law_due) (defScope s__law_due) .none kV10 dc10 pm10 an10 cd10 ct10), sl10⟩) (c10 : PySem.W.codeIn K cd10 "_law_due" = true) (k10 : PySem.W.keepIn K (.ref f10) = true)
    (a11 : PySem.W.nsIn K mainGlobals "law" = some (some (.ref f11))) (l11 : K.lookup f11 = some ⟨oc11, od11, .func (PySem.W.fnOf "law" "law" (defArgs s_law) (defBody s_law) (defScope s_law) .none kV11 dc11 pm11 an11 cd11 ct11), sl11⟩) (c11 : PySem.W.codeIn K cd11 "law" = true) (k11 : PySem.W.keepIn K (.ref f11) = true)
    (z_list : PySem.W.nsIn K mainGlobals "list" = some none)
    (z_int : PySem.W.nsIn K mainGlobals "int" = some none)
    (z_isinstance : PySem.W.nsIn K mainGlobals "isinstance" = some none)
    (z_len : PySem.W.nsIn K mainGlobals "len" = some none)
    (z_tuple : PySem.W.nsIn K mainGlobals "tuple" = some none)
    (z_sorted : PySem.W.nsIn K mainGlobals "sorted" = some none)
    (z_range : PySem.W.nsIn K mainGlobals "range" = some none)
    (z_repr : PySem.W.nsIn K mainGlobals "repr" = some none)
    (z_enumerate : PySem.W.nsIn K mainGlobals "enumerate" = some none)
    (z_sum : PySem.W.nsIn K mainGlobals "sum" = some none)
    : ∀ (a : Addr) (s : Shared) (ns : List Int) (base : Heap) (H : Hp), ns.length ≤ 63 → SqL K H a (ns.map V.int) → Env0 l.prog w K mg base callerA [] s H → codeAny (model l.prog w) callerA (.call (.ref fa) ⟨[.ref a], []⟩) (CR CX0 [] l.prog w H s (fun v _ => v = .bl true) E0) s := by
  letI : Tbs := ⟨[], w⟩
  have e := hfa.symm.trans (PySem.W.mg_of X G a11)
  cases e
  have F0 := fun_mk (st := s_joining_of) l0 c0 k0
  have F1 := fun_mk (st := s_tie) l1 c1 k1
  have F2 := fun_mk (st := s_halved_joining) l2 c2 k2
  have F3 := fun_mk (st := s_halved) l3 c3 k3
  have F4 := fun_mk (st := s__law_deck) l4 c4 k4
  have F5 := fun_mk (st := s__law_mixed) l5 c5 k5
  have F6 := fun_mk (st := s__law_take) l6 c6 k6
  have F7 := fun_mk (st := s__law_place) l7 c7 k7
  have F8 := fun_mk (st := s__law_ends) l8 c8 k8
  have F9 := fun_mk (st := s__law_rank) l9 c9 k9
  have F10 := fun_mk (st := s__law_due) l10 c10 k10
  have F11 := fun_mk (st := s_law) l11 c11 k11
  have b0 := F0.binds (ps := ["many", "nest"]) fun _ _ _ _ _ _ us hl => match us, hl with | [_, _], _ => rfl
  have b1 := F1.binds (ps := ["many", "nest", "rows"]) fun _ _ _ _ _ _ us hl => match us, hl with | [_, _, _], _ => rfl
  have b2 := F2.binds (ps := ["ends"]) fun _ _ _ _ _ _ us hl => match us, hl with | [_], _ => rfl
  have b3 := F3.binds (ps := ["ends", "some", "way"]) fun _ _ _ _ _ _ us hl => match us, hl with | [_, _, _], _ => rfl
  have b4 := F4.binds (ps := ["_law_script"]) fun _ _ _ _ _ _ us hl => match us, hl with | [_], _ => rfl
  have b5 := F5.binds (ps := ["_law_cell", "_law_turn"]) fun _ _ _ _ _ _ us hl => match us, hl with | [_, _], _ => rfl
  have b6 := F6.binds (ps := ["_law_deck_here", "_law_most"]) fun _ _ _ _ _ _ us hl => match us, hl with | [_, _], _ => rfl
  have b7 := F7.binds (ps := ["_law_deck_here", "_law_manner"]) fun _ _ _ _ _ _ us hl => match us, hl with | [_, _], _ => rfl
  have b8 := F8.binds (ps := ["_law_deck_here"]) fun _ _ _ _ _ _ us hl => match us, hl with | [_], _ => rfl
  have b9 := F9.binds (ps := ["_law_ends_here", "_law_some", "_law_end", "_law_way"]) fun _ _ _ _ _ _ us hl => match us, hl with | [_, _, _, _], _ => rfl
  have b10 := F10.binds (ps := ["_law_ends_here", "_law_some", "_law_way", "_law_due_here"]) fun _ _ _ _ _ _ us hl => match us, hl with | [_, _, _, _], _ => rfl
  have b11 := F11.binds (ps := ["_law_script"]) fun _ _ _ _ _ _ us hl => match us, hl with | [_], _ => rfl
  let T : Tx K mg := ⟨_, _, F0, b0, PySem.W.mg_of X G a0, _, _, F1, b1, PySem.W.mg_of X G a1, _, _, F2, b2, PySem.W.mg_of X G a2, _, _, F3, b3, PySem.W.mg_of X G a3, _, _, F4, b4, PySem.W.mg_of X G a4, _, _, F5, b5, PySem.W.mg_of X G a5, _, _, F6, b6, PySem.W.mg_of X G a6, _, _, F7, b7, PySem.W.mg_of X G a7, _, _, F8, b8, PySem.W.mg_of X G a8, _, _, F9, b9, PySem.W.mg_of X G a9, _, _, F10, b10, PySem.W.mg_of X G a10, _, _, F11, b11, PySem.W.mg_of X G a11, PySem.W.mg_none_of X G z_list, PySem.W.mg_none_of X G z_int, PySem.W.mg_none_of X G z_isinstance, PySem.W.mg_none_of X G z_len, PySem.W.mg_none_of X G z_tuple, PySem.W.mg_none_of X G z_sorted, PySem.W.mg_none_of X G z_range, PySem.W.mg_none_of X G z_repr, PySem.W.mg_none_of X G z_enumerate, PySem.W.mg_none_of X G z_sum⟩
  exact fun a s ns base H h1 h2 h3 => run_law T h2 h1 (fun _ h => nomatch h) h3 (show BindsTo s (PySem.W.fnOf "law" "law" (defArgs s_law) (defBody s_law) (defScope s_law) .none kV11 dc11 pm11 an11 cd11 ct11) _ _ from .of_eq rfl)
end Ew
open PySem PySem.W PyProof.Rows
set_option maxRecDepth 100000 in
set_option maxHeartbeats 0 in
theorem PySem.Challenge.cw_evenwires_k58_joined_by_halves_holds : PySem.Challenge.rw_evenwires_k58_joined_by_halves.Holds := by
  w_on; o_law; k_head; (case hw => w_witness2)
  k_fill
  refine Pu.head_at (l := PySem.Challenge.rw_evenwires_k58_joined_by_halves) (n := 63) rfl (by decide) rfl (fun w h Y => PySem.W.kIn_of Y) ?F
  case F =>
    intro w mg fa a s ns KX G hmg hl base H hS e0
    refine' (Ew.all_mk KX G hmg ?a0 ?l0 ?c0 ?k0 ?a1 ?l1 ?c1 ?k1 ?a2 ?l2 ?c2 ?k2 ?a3 ?l3 ?c3 ?k3 ?a4 ?l4 ?c4 ?k4 ?a5 ?l5 ?c5 ?k5 ?a6 ?l6 ?c6 ?k6 ?a7 ?l7 ?c7 ?k7 ?a8 ?l8 ?c8 ?k8 ?a9 ?l9 ?c9 ?k9 ?a10 ?l10 ?c10 ?k10 ?a11 ?l11 ?c11 ?k11 ?z_list ?z_int ?z_isinstance ?z_len ?z_tuple ?z_sorted ?z_range ?z_repr ?z_enumerate ?z_sum) a s ns base H hl hS e0
    (case a0 => k_is)
    (case l0 => k_is)
    (case c0 => k_is)
    (case k0 => k_is)
    (case a1 => k_is)
    (case l1 => k_is)
    (case c1 => k_is)
    (case k1 => k_is)
    (case a2 => k_is)
    (case l2 => k_is)
    (case c2 => k_is)
    (case k2 => k_is)
    (case a3 => k_is)
    (case l3 => k_is)
    (case c3 => k_is)
    (case k3 => k_is)
    (case a4 => k_is)
    (case l4 => k_is)
    (case c4 => k_is)
    (case k4 => k_is)
    (case a5 => k_is)
    (case l5 => k_is)
    (case c5 => k_is)
    (case k5 => k_is)
    (case a6 => k_is)
    (case l6 => k_is)
    (case c6 => k_is)
    (case k6 => k_is)
    (case a7 => k_is)
    (case l7 => k_is)
    (case c7 => k_is)
    (case k7 => k_is)
    (case a8 => k_is)
    (case l8 => k_is)
    (case c8 => k_is)
    (case k8 => k_is)
    (case a9 => k_is)
    (case l9 => k_is)
    (case c9 => k_is)
    (case k9 => k_is)
    (case a10 => k_is)
    (case l10 => k_is)
    (case c10 => k_is)
    (case k10 => k_is)
    (case a11 => k_is)
    (case l11 => k_is)
    (case c11 => k_is)
    (case k11 => k_is)
    (case z_list => k_is)
    (case z_int => k_is)
    (case z_isinstance => k_is)
    (case z_len => k_is)
    (case z_tuple => k_is)
    (case z_sorted => k_is)
    (case z_range => k_is)
    (case z_repr => k_is)
    (case z_enumerate => k_is)
    (case z_sum => k_is)

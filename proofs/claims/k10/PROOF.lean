import PyProof.Rows.All
import Wide.All
import OpenK.AllK
import Wide.FinOn
import HandS.ForMost
import HandS.IsInst
import HandS.Style
import HandS.Wide
import HandS.NoneIn
import HandS.Codes
import PySem.Challenge.RW_evenwires_k10_spots_of_places
set_option Elab.async false
set_option linter.all false
set_option maxRecDepth 100000
namespace Ew
open PySem PySem.Spec PyProof.Rows L2

/-- what may have happened between two heaps: only what stands in S is changed; tuples and locked things stay -/
structure Evo (S : List Addr) (H H' : Hp) : Prop where
  old : ∀ a o, H a = some o → a ∉ S → H' a = some o
  tup : ∀ a xs, H a = some (.tup xs) → H' a = some (.tup xs)
  frz : ∀ a o u, H a = some (.frz o u) → H' a = some (.frz o u)
section
variable {K : PySem.W.Frag} {S S' : List Addr} {H H1 H2 H' : Hp} {a p q : Addr} {o x y : HO} {xs ys : List V}
theorem get_new (hp : H p = none) (h : H a = some x) : upd H p o a = some x := by rw [upd_ne (ne_of_none h hp)]; exact h
theorem get_ne (hn : a ≠ p) (h : H a = some x) : upd H p o a = some x := by rw [upd_ne hn]; exact h
theorem Evo.refl (S : List Addr) (H : Hp) : Evo S H H := ⟨fun _ _ h _ => h, fun _ _ h => h, fun _ _ _ h => h⟩
theorem Evo.trans (e : Evo S H H1) (f : Evo S H1 H2) : Evo S H H2 := ⟨fun a o h n => f.old a o (e.old a o h n) n, fun a xs h => f.tup a xs (e.tup a xs h), fun a o u h => f.frz a o u (e.frz a o u h)⟩
/-- a new thing -/
theorem Evo.new (e : Evo S H H1) (hp : H1 p = none) : Evo S H (upd H1 p o) :=
  ⟨fun a u h n => get_new hp (e.old a u h n), fun a ys h => get_new hp (e.tup a ys h), fun a u v h => get_new hp (e.frz a u v h)⟩
/-- a thing that was not there at the beginning is changed -/
theorem Evo.mut (e : Evo S H H1) (hp : H p = none) : Evo S H (upd H1 p o) :=
  ⟨fun a u h n => get_ne (ne_of_none h hp) (e.old a u h n), fun a ys h => get_ne (ne_of_none h hp) (e.tup a ys h), fun a u v h => get_ne (ne_of_none h hp) (e.frz a u v h)⟩
/-- a thing of S is changed -/
theorem Evo.set (e : Evo S H H1) (hp : p ∈ S) (hm : ∀ ys, H p ≠ some (.tup ys)) (hf : ∀ u v, H p ≠ some (.frz u v)) : Evo S H (upd H1 p o) :=
  ⟨fun a u h n => get_ne (fun z => n (z ▸ hp)) (e.old a u h n), fun a ys h => get_ne (fun z => hm ys (z ▸ h)) (e.tup a ys h), fun a u v h => get_ne (fun z => hf u v (z ▸ h)) (e.frz a u v h)⟩
/-- a callee's changes -/
theorem Evo.call (e : Evo S H H1) (f : Evo S' H1 H2) (h : ∀ s ∈ S', s ∈ S ∨ H s = none) : Evo S H H2 :=
  ⟨fun a o ha n => f.old a o (e.old a o ha n) fun m => (h a m).elim n (fun z => nomatch (ha.symm.trans z)), fun a xs h => f.tup a xs (e.tup a xs h), fun a o u h => f.frz a o u (e.frz a o u h)⟩
theorem Evo.call0 (e : Evo S H H1) (f : Evo [] H1 H2) : Evo S H H2 := e.call f fun _ h => by cases h
theorem Evo.get (e : Evo S H H') (hn : a ∉ S) (h : H a = some x) : H' a = some x := e.old a x h hn
theorem Evo.sqT (e : Evo S H H') (h : SqT K H a xs) : SqT K H' a xs := by
  rcases h with (h | ⟨o, h⟩) | h
  · exact .inl (.inl (e.tup _ _ h))
  · exact .inl (.inr ⟨o, e.frz _ _ _ h⟩)
  · exact .inr h
theorem Evo.fresh (e : Evo [] H H') (h : H' p = none) : H p = none := by
  cases q : H p with
  | none => rfl
  | some o =>
    rw [e.old p o q (by intro z; cases z)] at h
    cases h
theorem sqT_new (hp : H p = none) (h : SqT K H a xs) : SqT K (upd H p o) a xs := ((Evo.refl [] H).new hp).sqT h
theorem sqT_mut (hm : H p = some (.lst ys)) (h : SqT K H a xs) : SqT K (upd H p o) a xs := by
  rcases h with (h | ⟨o, h⟩) | h
  · exact .inl (.inl (get_ne (ne_of h hm (by intro z; cases z)) h))
  · exact .inl (.inr ⟨o, get_ne (ne_of h hm (by intro z; cases z)) h⟩)
  · exact .inr h
theorem sqT_mutD {kvs : List (Key × V)} (hm : H p = some (.dK kvs)) (h : SqT K H a xs) : SqT K (upd H p o) a xs := by
  rcases h with (h | ⟨o, h⟩) | h
  · exact .inl (.inl (get_ne (ne_of h hm (by intro z; cases z)) h))
  · exact .inl (.inr ⟨o, get_ne (ne_of h hm (by intro z; cases z)) h⟩)
  · exact .inr h
end
theorem sz {n : Nat} (h : n ≤ 100000) : n ≤ sizeLine := Nat.le_trans h (by decide)
theorem szl {n : Nat} (h : n < 100000) : n < sizeLine := Nat.lt_of_lt_of_le h (by decide)
section
variable {H : Hp} {a : Addr} {kvs kvs' : List (Key × V)} {s : Str} {v : V}
theorem dget (h : H a = some (.dK kvs)) (e : valV kvs (.inr s) = some v) : DGet H a (.str s) (some v) := e ▸ DGet.k (k := Sum.inr s) h
theorem dput (h : H a = some (.dK kvs)) (hl : kvs.length ≤ 1000) (e : putK kvs (.inr s) v = kvs') : DPut H a (.str s) v (upd H a (.dK kvs')) := e ▸ DPut.k (k := Sum.inr s) h (small1000 hl)
end
/-- a test by its answer -/
theorem iteD {c : Prop} [Decidable c] {A B : Prop} (h1 : c → A) (h2 : ¬ c → B) : if decide c = true then A else B := by
  by_cases h : c
  · rw [if_pos (decide_eq_true h)]; exact h1 h
  · rw [if_neg (by rw [decide_eq_false h]; exact Bool.false_ne_true)]; exact h2 h
theorem iteN {c : Prop} [Decidable c] {A B : Prop} (h1 : ¬ c → A) (h2 : c → B) : if (!decide c) = true then A else B := by
  by_cases h : c
  · rw [if_neg (by rw [decide_eq_true h]; exact Bool.false_ne_true)]; exact h2 h
  · rw [if_pos (by rw [decide_eq_false h]; rfl)]; exact h1 h
theorem iteB {b : Bool} {A B : Prop} (h1 : b = true → A) (h2 : b = false → B) : if b = true then A else B := by
  cases b with
  | true => exact h1 rfl
  | false => exact h2 rfl
end Ew
namespace Ew
open PySem PySem.Spec PyProof.Rows L2
/-! readings by lemmas: what is asked, in the form that it has when it is asked -/
section
variable {K : PySem.W.Frag} {H : Hp} {a b p : Addr} {xs ys : List V} {i : Int} {v x y : V} {R : V → Prop} {kvs kvs' : List (Key × V)} {s : Str}
theorem ixT (h : SqT K H p xs) (e : atI xs i = some v) (k : R v) : ∃ p' xs' i' v', V.ref p = .ref p' ∧ V.int i = .int i' ∧ SqT K H p' xs' ∧ atI xs' i' = some v' ∧ R v' := ⟨p, xs, i, v, rfl, rfl, h, e, k⟩
theorem ixL (h : SqL K H p xs) (e : atI xs i = some v) (k : R v) : ∃ p' xs' i' v', V.ref p = .ref p' ∧ V.int i = .int i' ∧ SqL K H p' xs' ∧ atI xs' i' = some v' ∧ R v' := ⟨p, xs, i, v, rfl, rfl, h, e, k⟩
theorem dgetE (h : H a = some (.dK kvs)) (e : valV kvs (.inr s) = some v) (k : R v) : ∃ a' v', V.ref a = .ref a' ∧ DGet H a' (.str s) (some v') ∧ R v' := ⟨a, v, rfl, dget h e, k⟩
theorem dputE {R : Hp → Prop} (h : H a = some (.dK kvs)) (e : putK kvs (.inr s) v = kvs') (k : R (upd H a (.dK kvs'))) (hl : kvs.length ≤ 1000) : ∃ a' H4, V.ref a = .ref a' ∧ DPut H a' (.str s) v H4 ∧ R H4 := ⟨a, _, rfl, dput h hl e, k⟩
theorem lenT {R : List V → Prop} (h : SqT K H p xs) (k : R xs) : ∃ p' ys, [V.ref p] = [.ref p'] ∧ (SqL K H p' ys ∨ SqT K H p' ys) ∧ R ys := ⟨p, xs, rfl, .inr h, k⟩
theorem lenL {R : List V → Prop} (h : SqL K H p xs) (k : R xs) : ∃ p' ys, [V.ref p] = [.ref p'] ∧ (SqL K H p' ys ∨ SqT K H p' ys) ∧ R ys := ⟨p, xs, rfl, .inl h, k⟩
theorem iib {R : Bool → Prop} {x : V} {n : String} {t : Value} {r : Bool} (ht : TyOf K H x t) (hb : PySem.W.kitOne K t (.type n) = some r) (k : R r) : ∃ (x' c : V) (t u : Value) (b : Bool), [x, V.ty n] = [x', c] ∧ ClsV c u ∧ TyX K H x' t ∧ PySem.W.kitOne K t u = some b ∧ R b :=
  ⟨x, .ty n, t, .type n, r, rfl, .ty n, .base ht, hb, k⟩
theorem lt2 {b : Bool} {r : V} : ∀ {i : Int}, 0 ≤ i → i < 2 → i = 0 ∨ i = 1 := by intro i h1 h2; omega
end
theorem apd {H : Hp} {l : Addr} {xs : List V} {y : V} {R : Addr → List V → V → Prop} (h : H l = some (.lst xs)) (hl : xs.length ≤ 1000) (k : R l xs y) : ∃ l' xs' y', V.ref l = .ref l' ∧ [y] = [y'] ∧ H l' = some (.lst xs') ∧ xs'.length < sizeLine ∧ R l' xs' y' :=
  ⟨l, xs, y, rfl, rfl, h, small1000 hl, k⟩
end Ew
namespace Ew
open PySem PySem.Spec PyProof.Rows L2
theorem tup_mut {H : Hp} {a p : Addr} {o : HO} {xs ys : List V} (hm : H p = some (.lst ys)) (h : H a = some (.tup xs)) : upd H p o a = some (.tup xs) := get_ne (ne_of h hm (by intro z; cases z)) h
theorem tup_mutD {H : Hp} {a p : Addr} {o : HO} {xs : List V} {kvs : List (Key × V)} (hm : H p = some (.dK kvs)) (h : H a = some (.tup xs)) : upd H p o a = some (.tup xs) := get_ne (ne_of h hm (by intro z; cases z)) h
theorem Evo.tupE {S : List Addr} {H H' : Hp} {a : Addr} {xs : List V} (e : Evo S H H') (h : H a = some (.tup xs)) : H' a = some (.tup xs) := e.tup a xs h
/-- a written power -/
theorem op_powC {X : Cx} (b e r : Int) (hc : CPow b e := by exact ⟨by decide, by decide, by decide⟩) (hr : b ^ e.toNat = r := by rfl) : OpR X (binaryOp .Pow) (fun x y H Q => x = .int b ∧ y = .int e ∧ Q (.int r) H) :=
  fun pins s σ H x y v u Q I rx ry h => op_pow pins s σ H x y v u Q I rx ry ⟨b, e, h.1, h.2.1, hc, by show Q (.int (b ^ e.toNat)) H; rw [hr]; exact h.2.2⟩
end Ew
namespace Ew
open PySem PySem.Spec PyProof.Rows L2
/-! data that are rows of whole numbers -/
def intsOf : List V → Option (List Int)
  | [] => some []
  | .int i :: r => match intsOf r with
    | some z => some (i :: z)
    | none => none
  | _ => none
theorem intsOf_map : ∀ {vs : List V} {xs : List Int}, intsOf vs = some xs → vs = xs.map V.int
  | [], _, h => by cases h; rfl
  | .int i :: r, xs, h => by
    unfold intsOf at h
    cases e : intsOf r with
    | none => rw [e] at h; cases h
    | some z =>
      rw [e] at h
      cases h
      rw [intsOf_map e]
      rfl
  | .non :: _, _, h => by cases h
  | .bl _ :: _, _, h => by cases h
  | .str _ :: _, _, h => by cases h
  | .byt _ :: _, _, h => by cases h
  | .flt _ :: _, _, h => by cases h
  | .ref _ :: _, _, h => by cases h
  | .ty _ :: _, _, h => by cases h
theorem intsOf_of : ∀ xs : List Int, intsOf (xs.map V.int) = some xs
  | [] => rfl
  | x :: r => by
    show (match intsOf (r.map V.int) with | some z => some (x :: z) | none => none) = _
    rw [intsOf_of r]
theorem dpInts {K : PySem.W.Frag} {H : Hp} : ∀ xs : List Int, DpAll K H (xs.map V.int) (xs.map PyData.int)
  | [] => .nil
  | x :: r => .cons (.int x) (dpInts r)
theorem canInts : ∀ xs : List Int, PyData.canLayAll0 (xs.map PyData.int) = true
  | [] => by simp [PyData.canLayAll0]
  | x :: r => by
    show PyData.canLayAll0 (PyData.int x :: r.map PyData.int) = true
    simp [PyData.canLayAll0, PyData.canLay0, canInts r]
theorem depInts : ∀ xs : List Int, PyData.depthAll (xs.map PyData.int) ≤ 1
  | [] => by simp [PyData.depthAll]
  | x :: r => by
    show PyData.depthAll (PyData.int x :: r.map PyData.int) ≤ 1
    have h := depInts r
    simp [PyData.depthAll, PyData.depth]
    omega
theorem shInts (xs : List Int) : SeqAt.shaped (.tuple (xs.map PyData.int)) = true := by
  have h := depInts xs
  simp [SeqAt.shaped, PyData.canLay0, canInts xs, PyData.depth]
  omega
theorem shIntsL (xs : List Int) : SeqAt.shaped (.list (xs.map PyData.int)) = true := by
  have h := depInts xs
  simp [SeqAt.shaped, PyData.canLay0, canInts xs, PyData.depth]
  omega
theorem eqvAllInts : ∀ xs ys : List Int, PyData.eqvAll (xs.map PyData.int) (ys.map PyData.int) = decide (xs = ys)
  | [], [] => by simp [PyData.eqvAll]
  | [], y :: _ => by simp [PyData.eqvAll]
  | x :: _, [] => by simp [PyData.eqvAll]
  | x :: r, y :: q => by
    show PyData.eqvAll (PyData.int x :: r.map PyData.int) (PyData.int y :: q.map PyData.int) = _
    have e : PyData.eqvAll (PyData.int x :: r.map PyData.int) (PyData.int y :: q.map PyData.int) = ((x == y) && PyData.eqvAll (r.map PyData.int) (q.map PyData.int)) := by simp [PyData.eqvAll, PyData.eqv]
    rw [e, eqvAllInts r q]
    by_cases h : x = y
    · by_cases h2 : r = q
      · simp [h, h2]
      · simp [h, h2]
    · simp [h]
theorem eqvT (xs ys : List Int) : PyData.eqv (.tuple (xs.map PyData.int)) (.tuple (ys.map PyData.int)) = decide (xs = ys) := by
  rw [← eqvAllInts]; simp [PyData.eqv]
theorem eqvL (xs ys : List Int) : PyData.eqv (.list (xs.map PyData.int)) (.list (ys.map PyData.int)) = decide (xs = ys) := by
  rw [← eqvAllInts]; simp [PyData.eqv]
section
variable {K : PySem.W.Frag} {H : Hp} {a b p : Addr} {vs us : List V} {xs ys : List Int} {R : V → Prop}
/-- == of data: its answer -/
def EqR (K : PySem.W.Frag) (H : Hp) (x y : V) (c : Bool) : Prop := ∃ d e, Dp K H x d ∧ Dp K H y e ∧ SeqAt.shaped d = true ∧ SeqAt.shaped e = true ∧ PyData.eqv d e = c
def rEqX (K : PySem.W.Frag) : R2 := fun x y H Q => ∃ c, EqR K H x y c ∧ Q (.bl c) H
def rNeX (K : PySem.W.Frag) : R2 := fun x y H Q => ∃ c, EqR K H x y c ∧ Q (.bl (!c)) H
theorem op_eqX {X : Cx} (hu : X.A.units + 64 < cLine) : OpR X (compareOp .Eq) (rEqX X.K) := fun pins s σ H x y v u Q I rx ry ⟨c, ⟨d, e, h1, h2, h3, h4, h5⟩, q⟩ =>
  op_eqD hu pins s σ H x y v u Q I rx ry ⟨d, e, h1, h2, h3, h4, h5 ▸ q⟩
theorem op_neX {X : Cx} (hu : X.A.units + 64 < cLine) : OpR X (compareOp .NotEq) (rNeX X.K) := fun pins s σ H x y v u Q I rx ry ⟨c, ⟨d, e, h1, h2, h3, h4, h5⟩, q⟩ =>
  op_neD hu pins s σ H x y v u Q I rx ry ⟨d, e, h1, h2, h3, h4, h5 ▸ q⟩
theorem eqT (h1 : H a = some (.tup vs)) (h2 : H b = some (.tup us)) (e1 : intsOf vs = some xs) (e2 : intsOf us = some ys) : EqR K H (.ref a) (.ref b) (decide (xs = ys)) := by
  have q1 := intsOf_map e1; have q2 := intsOf_map e2; subst q1 q2
  exact ⟨_, _, .tup (SqT.of h1) (dpInts xs), .tup (SqT.of h2) (dpInts ys), shInts _, shInts _, eqvT _ _⟩
theorem eqL (h1 : H a = some (.lst vs)) (h2 : H b = some (.lst us)) (e1 : intsOf vs = some xs) (e2 : intsOf us = some ys) : EqR K H (.ref a) (.ref b) (decide (xs = ys)) := by
  have q1 := intsOf_map e1; have q2 := intsOf_map e2; subst q1 q2
  exact ⟨_, _, .lst (SqL.of h1) (dpInts xs), .lst (SqL.of h2) (dpInts ys), shIntsL _, shIntsL _, eqvL _ _⟩
end
theorem sqL_new {K : PySem.W.Frag} {H : Hp} {a p : Addr} {o : HO} {xs : List V} (hp : H p = none) (h : SqL K H a xs) : SqL K (upd H p o) a xs := by
  rcases h with (h | ⟨o, h⟩) | h
  · exact .inl (.inl (get_new hp h))
  · exact .inl (.inr ⟨o, get_new hp h⟩)
  · exact .inr h
theorem cut63 {xs : List V} (h : xs.length ≤ 63) : cutV xs none (some 63) = xs := by
  unfold cutV
  rw [show HT.sIx xs.length xs.length (some 63) = min 63 xs.length from HT.sIx_nat xs.length xs.length 63, HT.sIx_none, List.drop_zero, Nat.sub_zero]
  exact List.take_of_length_le (by omega)
end Ew
namespace Ew
open PySem PySem.Spec PyProof.Rows L2
/-! == of whole numbers, of truths -/
theorem decV {i j : Int} : decide (V.int i = V.int j) = decide (i = j) := by
  by_cases h : i = j
  · subst h; simp
  · rw [decide_eq_false h, decide_eq_false fun e => h (V.int.inj e)]
theorem decB {i j : Bool} : decide (V.bl i = V.bl j) = decide (i = j) := by
  by_cases h : i = j
  · subst h; simp
  · rw [decide_eq_false h, decide_eq_false fun e => h (V.bl.inj e)]
section
variable {X : Cx}
theorem op_eqI : OpR X (compareOp .Eq) (fun x y H Q => ∃ i j, x = .int i ∧ y = .int j ∧ Q (.bl (decide (i = j))) H) := fun pins s σ H x y v u Q I rx ry ⟨i, j, h1, h2, q⟩ =>
  op_eq pins s σ H x y v u Q I rx ry ⟨by rw [h1, h2]; rfl, by rw [h1, h2, decV]; exact q⟩
theorem op_neI : OpR X (compareOp .NotEq) (fun x y H Q => ∃ i j, x = .int i ∧ y = .int j ∧ Q (.bl (!decide (i = j))) H) := fun pins s σ H x y v u Q I rx ry ⟨i, j, h1, h2, q⟩ =>
  op_ne pins s σ H x y v u Q I rx ry ⟨by rw [h1, h2]; rfl, by rw [h1, h2, decV]; exact q⟩
theorem op_eqB : OpR X (compareOp .Eq) (fun x y H Q => ∃ i j, x = .bl i ∧ y = .bl j ∧ Q (.bl (decide (i = j))) H) := fun pins s σ H x y v u Q I rx ry ⟨i, j, h1, h2, q⟩ =>
  op_eq pins s σ H x y v u Q I rx ry ⟨by rw [h1, h2]; rfl, by rw [h1, h2, decB]; exact q⟩
theorem op_neB : OpR X (compareOp .NotEq) (fun x y H Q => ∃ i j, x = .bl i ∧ y = .bl j ∧ Q (.bl (!decide (i = j))) H) := fun pins s σ H x y v u Q I rx ry ⟨i, j, h1, h2, q⟩ =>
  op_ne pins s σ H x y v u Q I rx ry ⟨by rw [h1, h2]; rfl, by rw [h1, h2, decB]; exact q⟩
end
end Ew
namespace Ew
open PySem PySem.Spec PyProof.Rows L2
theorem Qeq {Q : VK} {H : Hp} {v v' : V} (e : v = v') (k : Q v H) : Q v' H := e ▸ k
section
variable {K : PySem.W.Frag} {H : Hp} {R : Bool → Prop}
theorem ii_ii {a : Int} (k : R true) : ∃ (x' c : V) (t u : Value) (b : Bool), [V.int a, V.ty "int"] = [x', c] ∧ ClsV c u ∧ TyX K H x' t ∧ PySem.W.kitOne K t u = some b ∧ R b := iib (.int _) (kit_ty (by decide +kernel)) k
theorem ii_ib {a : Int} (k : R false) : ∃ (x' c : V) (t u : Value) (b : Bool), [V.int a, V.ty "bool"] = [x', c] ∧ ClsV c u ∧ TyX K H x' t ∧ PySem.W.kitOne K t u = some b ∧ R b := iib (.int _) (kit_ty (by decide +kernel)) k
theorem ii_it {a : Int} (k : R false) : ∃ (x' c : V) (t u : Value) (b : Bool), [V.int a, V.ty "tuple"] = [x', c] ∧ ClsV c u ∧ TyX K H x' t ∧ PySem.W.kitOne K t u = some b ∧ R b := iib (.int _) (kit_ty (by decide +kernel)) k
theorem ii_bb {a : Bool} (k : R true) : ∃ (x' c : V) (t u : Value) (b : Bool), [V.bl a, V.ty "bool"] = [x', c] ∧ ClsV c u ∧ TyX K H x' t ∧ PySem.W.kitOne K t u = some b ∧ R b := iib (.bl _) (kit_ty (by decide +kernel)) k
theorem ii_bi {a : Bool} (k : R true) : ∃ (x' c : V) (t u : Value) (b : Bool), [V.bl a, V.ty "int"] = [x', c] ∧ ClsV c u ∧ TyX K H x' t ∧ PySem.W.kitOne K t u = some b ∧ R b := iib (.bl _) (kit_ty (by decide +kernel)) k
theorem ii_tt {a : Addr} {xs : List V} (h : H a = some (.tup xs)) (k : R true) : ∃ (x' c : V) (t u : Value) (b : Bool), [V.ref a, V.ty "tuple"] = [x', c] ∧ ClsV c u ∧ TyX K H x' t ∧ PySem.W.kitOne K t u = some b ∧ R b := iib (.tup h) (kit_ty (by decide +kernel)) k
end
end Ew
namespace Ew
open PySem PySem.Spec PyProof.Rows L2
def rLen (K : PySem.W.Frag) : List V → Hp → VK → Prop := fun xs H Q => ∃ p ys, xs = [.ref p] ∧ (SqL K H p ys ∨ SqT K H p ys) ∧ Q (.int ys.length) H
theorem call_len {X : Cx} : CallR X (.builtin "len") (rLen X.K) := call_len_seq
def rTupleOf (K : PySem.W.Frag) : List V → Hp → VK → Prop := fun xs H Q => ∃ p ys, xs = [.ref p] ∧ ((SqL K H p ys ∧ ∀ l, H l = none → Q (.ref l) (upd H l (.tup ys))) ∨ (SqT K H p ys ∧ Q (.ref p) H))
theorem call_tuple {X : Cx} : CallR X (.type "tuple") (rTupleOf X.K) := call_tuple_of
end Ew
namespace Ew
open PySem PySem.Spec PyProof.Rows L2
/-- [a, b][int(test)] -/
theorem ixB {K : PySem.W.Frag} {H : Hp} {p : Addr} {a0 a1 : V} {b : Bool} {R : V → Prop} (h : SqL K H p [a0, a1]) (k0 : b = false → R a0) (k1 : b = true → R a1) :
    ∃ p' xs' i' v', V.ref p = .ref p' ∧ V.int (if b = true then 1 else 0) = .int i' ∧ SqL K H p' xs' ∧ atI xs' i' = some v' ∧ R v' := by
  cases b with
  | false => exact ⟨p, _, 0, a0, rfl, rfl, h, rfl, k0 rfl⟩
  | true => exact ⟨p, _, 1, a1, rfl, rfl, h, rfl, k1 rfl⟩
theorem inI {x : Int} {xs : List Int} : inV (.int x) (xs.map V.int) = decide (x ∈ xs) := by
  induction xs with
  | nil => rfl
  | cons y r ih =>
    have e : inV (.int x) ((y :: r).map V.int) = (eqV (.int y) (.int x) || inV (.int x) (r.map V.int)) := rfl
    rw [e, ih]
    have e2 : eqV (.int y) (.int x) = decide (y = x) := by
      show (y == x) = _
      by_cases h : y = x
      · simp [h]
      · simp [h]
    rw [e2]
    by_cases h : y = x
    · simp [h]
    · have h' : ¬ x = y := fun e => h e.symm
      simp [h, h']
end Ew
namespace Ew
abbrev ab (x : Int) : Int := if x < 0 then -x else x
end Ew
namespace Ew
open PySem PySem.Spec PyProof.Rows L2
def isImm : HO → Bool
  | .tup _ => true
  | _ => false
theorem Evo.getI {S : List Addr} {H H' : Hp} {a : Addr} {x : HO} (e : Evo S H H') (h : H a = some x) (hx : isImm x = true) : H' a = some x := by
  cases x with
  | tup xs => exact e.tup a xs h
  | _ => cases hx
theorem getI_mut {H : Hp} {a p : Addr} {o x : HO} {ys : List V} (hm : H p = some (.lst ys)) (h : H a = some x) (hx : isImm x = true) : upd H p o a = some x :=
  get_ne (ne_of h hm (by intro z; rw [z] at hx; cases hx)) h
theorem getI_mutD {H : Hp} {a p : Addr} {o x : HO} {kvs : List (Key × V)} (hm : H p = some (.dK kvs)) (h : H a = some x) (hx : isImm x = true) : upd H p o a = some x :=
  get_ne (ne_of h hm (by intro z; rw [z] at hx; cases hx)) h
end Ew
namespace Ew
open PySem PySem.Spec PyProof.Rows L2
/-! lists of rows of whole numbers -/
inductive RowsAt (H : Hp) : List V → List (List Int) → Prop
  | nil : RowsAt H [] []
  | cons {a : Addr} {vs : List V} {r : List Int} {rs : List (List Int)} : H a = some (.tup (r.map V.int)) → RowsAt H vs rs → RowsAt H (.ref a :: vs) (r :: rs)
theorem RowsAt.mono {H H' : Hp} (f : ∀ a xs, H a = some (.tup xs) → H' a = some (.tup xs)) : ∀ {vs : List V} {rs : List (List Int)}, RowsAt H vs rs → RowsAt H' vs rs
  | _, _, .nil => .nil
  | _, _, .cons h t => .cons (f _ _ h) (RowsAt.mono f t)
theorem RowsAt.evo {S : List Addr} {H H' : Hp} {vs : List V} {rs : List (List Int)} (e : Evo S H H') (h : RowsAt H vs rs) : RowsAt H' vs rs := h.mono e.tup
theorem RowsAt.new {H : Hp} {p : Addr} {o : HO} {vs : List V} {rs : List (List Int)} (h : RowsAt H vs rs) (hp : H p = none) : RowsAt (upd H p o) vs rs := h.mono fun _ _ q => get_new hp q
theorem RowsAt.mut {H : Hp} {p : Addr} {o : HO} {ys vs : List V} {rs : List (List Int)} (h : RowsAt H vs rs) (hp : H p = some (.lst ys)) : RowsAt (upd H p o) vs rs := h.mono fun _ _ q => tup_mut hp q
theorem RowsAt.length {H : Hp} : ∀ {vs : List V} {rs : List (List Int)}, RowsAt H vs rs → vs.length = rs.length
  | _, _, .nil => rfl
  | _, _, .cons _ t => congrArg Nat.succ (RowsAt.length t)
theorem RowsAt.snoc {H : Hp} {a : Addr} {r : List Int} (h : H a = some (.tup (r.map V.int))) : ∀ {vs : List V} {rs : List (List Int)}, RowsAt H vs rs → RowsAt H (vs ++ [.ref a]) (rs ++ [r])
  | _, _, .nil => .cons h .nil
  | _, _, .cons q t => .cons q (RowsAt.snoc h t)
theorem RowsAt.get {H : Hp} : ∀ {vs : List V} {rs : List (List Int)} {i : Nat} {r : List Int}, RowsAt H vs rs → rs[i]? = some r → ∃ a, vs[i]? = some (.ref a) ∧ H a = some (.tup (r.map V.int))
  | _, _, _, _, .nil, e => by cases e
  | _, _, 0, _, .cons q _, e => by cases e; exact ⟨_, rfl, q⟩
  | _, _, i + 1, _, .cons _ t, e => RowsAt.get (i := i) t e
theorem RowsAt.dp {K : PySem.W.Frag} {H : Hp} : ∀ {vs : List V} {rs : List (List Int)}, RowsAt H vs rs → DpAll K H vs (rs.map fun r => .tuple (r.map PyData.int))
  | _, _, .nil => .nil
  | _, _, .cons h t => .cons (.tup (SqT.of h) (dpInts _)) (RowsAt.dp t)
theorem canRows : ∀ rs : List (List Int), PyData.canLayAll0 (rs.map fun r => .tuple (r.map PyData.int)) = true
  | [] => by simp [PyData.canLayAll0]
  | r :: q => by
    show PyData.canLayAll0 (PyData.tuple (r.map PyData.int) :: q.map fun r => .tuple (r.map PyData.int)) = true
    have h := canRows q
    simp only [PyData.canLayAll0, PyData.canLay0, canInts r, h]
    rfl
theorem depRows : ∀ rs : List (List Int), PyData.depthAll (rs.map fun r => .tuple (r.map PyData.int)) ≤ 2
  | [] => by simp [PyData.depthAll]
  | r :: q => by
    show PyData.depthAll (PyData.tuple (r.map PyData.int) :: q.map fun r => .tuple (r.map PyData.int)) ≤ 2
    have h := depRows q
    have h2 := depInts r
    simp only [PyData.depthAll, PyData.depth]
    omega
theorem shRows (rs : List (List Int)) : SeqAt.shaped (.list (rs.map fun r => .tuple (r.map PyData.int))) = true := by
  have h := depRows rs
  have h2 := canRows rs
  simp [SeqAt.shaped, PyData.canLay0, h2, PyData.depth]
  omega
theorem shRowsT (rs : List (List Int)) : SeqAt.shaped (.tuple (rs.map fun r => .tuple (r.map PyData.int))) = true := by
  have h := depRows rs
  have h2 := canRows rs
  simp [SeqAt.shaped, PyData.canLay0, h2, PyData.depth]
  omega
theorem eqNil {K : PySem.W.Frag} {H : Hp} {l e : Addr} {vs : List V} {rs : List (List Int)} (h : H l = some (.lst vs)) (hr : RowsAt H vs rs) (he : H e = some (.lst [])) : EqR K H (.ref l) (.ref e) (decide (rs = [])) := by
  refine ⟨_, _, .lst (SqL.of h) hr.dp, .lst (SqL.of he) .nil, shRows rs, shRows [], ?_⟩
  cases rs with
  | nil => simp [PyData.eqv, PyData.eqvAll]
  | cons r q => simp [PyData.eqv, PyData.eqvAll]
end Ew
namespace Ew
open PySem PySem.Spec PyProof.Rows L2
theorem RowsAt.last {H : Hp} : ∀ {vs : List V} {rs : List (List Int)}, RowsAt H vs rs → rs ≠ [] → ∃ vs' q rs' r, vs = vs' ++ [.ref q] ∧ rs = rs' ++ [r] ∧ H q = some (.tup (r.map V.int))
  | _, _, .nil, h => absurd rfl h
  | _, _, @RowsAt.cons _ a vs r rs h t, _ => by
    cases rs with
    | nil =>
      cases t
      exact ⟨[], a, [], r, rfl, rfl, h⟩
    | cons r1 rs1 =>
      obtain ⟨vs', q, rs', r', e1, e2, hq⟩ := RowsAt.last t (by intro z; cases z)
      exact ⟨.ref a :: vs', q, r :: rs', r', by rw [e1]; rfl, by rw [e2]; rfl, hq⟩
end Ew
namespace Ew
open PySem PySem.Spec PyProof.Rows L2
/-- an item of a written row of whole numbers, at any place within it -/
theorem ixI {K : PySem.W.Frag} {H : Hp} {p : Addr} {vs : List V} {ns : List Int} {i : Int} {R : V → Prop} (h : SqL K H p vs) (e : intsOf vs = some ns) (h0 : 0 ≤ i) (h1 : i < ns.length) (k : ∀ z, z ∈ ns → R (.int z)) :
    ∃ p' xs' i' v', V.ref p = .ref p' ∧ V.int i = .int i' ∧ SqL K H p' xs' ∧ atI xs' i' = some v' ∧ R v' := by
  have q := intsOf_map e
  subst q
  have hi : i.toNat < ns.length := by omega
  refine ⟨p, _, i, .int ns[i.toNat], rfl, rfl, h, ?_, k _ (List.getElem_mem hi)⟩
  exact at_of (j := i.toNat) (by omega) (by rw [List.getElem?_map, List.getElem?_eq_getElem hi]; rfl)
/-- a list or a tuple -/
def Sq2 (H : Hp) (a : Addr) (vs : List V) : Prop := H a = some (.lst vs) ∨ H a = some (.tup vs)
theorem ixQ {K : PySem.W.Frag} {H : Hp} {p : Addr} {xs : List V} {i : Int} {v : V} {R : V → Prop} {Z : Prop} (h : Sq2 H p xs) (e : atI xs i = some v) (k : R v) :
    (∃ p' xs' i' v', V.ref p = .ref p' ∧ V.int i = .int i' ∧ SqL K H p' xs' ∧ atI xs' i' = some v' ∧ R v') ∨ (∃ p' xs' i' v', V.ref p = .ref p' ∧ V.int i = .int i' ∧ SqT K H p' xs' ∧ atI xs' i' = some v' ∧ R v') ∨ Z := by
  rcases h with h | h
  · exact .inl (ixL (SqL.of h) e k)
  · exact .inr (.inl (ixT (SqT.of h) e k))
end Ew
namespace Ew
open PySem PySem.Spec PyProof.Rows L2
/-! slices, by what they come to -/
def rSlE (K : PySem.W.Frag) : V → Option Int → Option Int → Hp → VK → Prop := fun x lo hi H Q => ∃ a xs ys, x = .ref a ∧ SqL K H a xs ∧ cutV xs lo hi = ys ∧ ∀ p, H p = none → Q (.ref p) (upd H p (.lst ys))
theorem sl_listE {X : Cx} : SlR X (rSlE X.K) := fun pins s σ H x v vl vu lo hi sl Q I rx hs pl pu ⟨a, xs, ys, h1, h2, h3, h4⟩ =>
  sl_list pins s σ H x v vl vu lo hi sl Q I rx hs pl pu ⟨a, xs, h1, h2, fun p hp => h3 ▸ h4 p hp⟩
def rSlTE (K : PySem.W.Frag) : V → Option Int → Option Int → Hp → VK → Prop := fun x lo hi H Q => ∃ a xs ys, x = .ref a ∧ SqT K H a xs ∧ cutV xs lo hi = ys ∧ ys.length < xs.length ∧ ∀ p, H p = none → Q (.ref p) (upd H p (.tup ys))
theorem sl_tupE {X : Cx} : SlR X (rSlTE X.K) := fun pins s σ H x v vl vu lo hi sl Q I rx hs pl pu ⟨a, xs, ys, h1, h2, h3, h5, h4⟩ =>
  sl_tup pins s σ H x v vl vu lo hi sl Q I rx hs pl pu ⟨a, xs, h1, h2, fun ⟨e1, e2⟩ => by
    have e3 : cutV xs lo hi = xs := by unfold cutV; rw [e1, e2]; simp
    rw [← h3, e3] at h5
    exact Nat.lt_irrefl _ h5, fun p hp => h3 ▸ h4 p hp⟩
section
variable {a b c d : V}
theorem cut_lo2 : cutV [a, b, c, d] none (some 2) = [a, b] := rfl
theorem cut_hi2 : cutV [a, b, c, d] (some 2) none = [c, d] := rfl
end
end Ew

namespace Ew
open PySem PySem.Spec PyProof.Rows L2
section
variable {prog : Program} {w : World} {A : Around} {E : Value → Shared → Prop} {s : Shared}
/-- what max asks of the tuple of its arguments -/
def Askmax (prog : Program) (w : World) (A : Around) (Q : Value → Shared → Prop) (it : Value) (s₂ : Shared) : Prop := ∃ I fp wr n P St bt, it = .ref I ∧ Walks prog w A.in1 I fp wr n P St ∧ St 0 s₂.heap ∧ (∀ b ∈ fp, b < s₂.heap.objs.size) ∧ 0 < n ∧ CmpOf prog w A.in1 .Gt P bt ∧
  ∀ v h' tk, P (argBest bt (n - 1)) v → (∀ b o, b ∉ wr → s₂.heap.get? b = some o → h'.get? b = some o) → Q v { s₂ with heap := h', toks := tk }
theorem ask_max {xs : Array (Int × Tok)} {Q : Value → Shared → Prop} {c : Sem Value} (hh : A.handled = none) (hne : 0 < xs.size)
    (hc : wpAny (model prog w) A.in1 (pyIter (.ref s.heap.objs.size)) (Askmax prog w A Q) E { s with heap := s.heap.push { cls := .type "tuple", data := .seq (intItems xs) } } → wpAny (model prog w) A c Q E s)
    (h : ∀ h' tk M t', (∀ d o, s.heap.get? d = some o → h'.get? d = some o) → M ∈ xs.toList.map (·.1) → (∀ a, a ∈ xs.toList.map (·.1) → a ≤ M) → Q (.int M t') { s with heap := h', toks := tk }) : wpAny (model prog w) A c Q E s := by
  have hT : (s.heap.push { cls := .type "tuple", data := .seq (intItems xs) }).IsTuple s.heap.objs.size (intItems xs) := ⟨_, Heap.get?_push_size _ rfl, rfl, 0, rfl⟩
  have hsz : (s.heap.push { cls := .type "tuple", data := .seq (intItems xs) }).objs.size = s.heap.objs.size + 1 := Heap.size_push ..
  have hln : (intItems xs).size = xs.size := by simp [intItems]
  refine hc (wpAny_pyIter_tuple hT ?_)
  refine ⟨_, [_, s.heap.objs.size], [_], _, _, _, _, rfl, Walks.tuple (A := A.in1) hh _ s.heap.objs.size (by rw [hsz]; exact Nat.ne_of_lt (Nat.lt_succ_self _)) (intItems xs),
    ⟨⟨_, Heap.get?_push_size _ rfl, rfl, rfl⟩, hT.push _⟩, fun d hd => ?_, by rw [hln]; exact hne, CmpOf.ints_gt (numAt xs) (fun _ _ => intItems_at), fun v h' tk hP hk => ?_⟩
  · show d < ((s.heap.push _).push _).objs.size
    rw [Heap.size_push, hsz]
    rcases List.mem_cons.mp hd with e | hd
    · rw [e, hsz]; exact Nat.lt_succ_self _
    · rw [List.mem_singleton.mp hd]; exact Nat.lt_succ_of_lt (Nat.lt_succ_self _)
  · have hold : ∀ d o, s.heap.get? d = some o → h'.get? d = some o := fun d o e => by
      refine hk d o (fun hm => ?_) (Heap.get?_push_of_some _ (Heap.get?_push_of_some _ e))
      have := Heap.lt_size e
      rw [List.mem_singleton.mp hm, hsz] at this
      exact Nat.lt_irrefl _ (Nat.lt_of_succ_lt this)
    obtain ⟨t, rfl⟩ := intItems_at hP
    obtain ⟨h1, h2⟩ := argBest_gt (numAt xs) ((intItems xs).size - 1)
    refine h h' tk _ t hold ?_ fun a ha => ?_
    · rw [numAt_eq]; exact PySem.getD_mem (by rw [List.length_map, Array.length_toList]; omega)
    · obtain ⟨j, hj, rfl⟩ := PySem.mem_getD ha
      rw [List.length_map, Array.length_toList] at hj
      rw [← numAt_eq]; exact h2 j (by omega)
theorem args_max3 (a0 a1 a2 : Value) : argsOk "max" ⟨[a0, a1, a2], []⟩ := by unfold argsOk; kernel_rfl
theorem tree_max3 {a0 a1 a2 : Value} {Q : Value → Shared → Prop} (h : wpAny (model prog w) A.in1 (pyIter (.ref s.heap.objs.size)) (Askmax prog w A Q) E { s with heap := s.heap.push { cls := .type "tuple", data := .seq #[a0, a1, a2] } }) : wpAny (model prog w) A (call (.builtin "max") [a0, a1, a2]) Q E s := by
  have hname : (toString "max" ++ toString ".loop" : String) = "max.loop" := by decide
  refine call_function_tree F.kind_max F.plain_max F.entry_max (args_max3 _ _ _) ?_
  show wpAny _ A.in1 (Builtin.Builtins.bindParams "max" ["key", "default"] 0 ⟨[], []⟩ >>= _) _ _ s
  refine wpAny_bind (wpAny_of_eq (show Builtin.Builtins.bindParams "max" ["key", "default"] 0 ⟨[], []⟩ = pure [none, none] from rfl) ?_)
  show wpAny _ A.in1 (newTuple [a0, a1, a2] >>= _) _ _ s
  refine wpAny_bind (wpAny_newObj_type ?_)
  refine wpAny_bind (wpAny_mono h (fun it s₂ h₂ => ?_) fun _ _ e => e)
  obtain ⟨I, fp, wr, n, P, St, bt, rfl, W, hst, hfp, hn, hcmp, hQ⟩ := h₂
  refine wpAny_bind (wpAny_newObj_type ?_)
  have hSf : s₂.heap.objs.size ∉ fp := fun hm => Nat.lt_irrefl _ (hfp _ hm)
  rw [hname]
  refine wpAny_pure ⟨plainId_quiet F.plain_max_loop _, codeAny_max_loop_first W bt hcmp s₂.heap.objs.size hSf hn (W.frame _ _ _ hst fun b _ o e => Heap.get?_push_of_some _ e) (Heap.get?_push_size _ rfl) fun v h' tk hP hk => ?_⟩
  exact hQ v h' tk hP fun b o hbw e => hk b o hbw (Nat.ne_of_lt (Heap.lt_size e)) (Heap.get?_push_of_some _ e)
theorem args_max4 (a0 a1 a2 a3 : Value) : argsOk "max" ⟨[a0, a1, a2, a3], []⟩ := by unfold argsOk; kernel_rfl
theorem tree_max4 {a0 a1 a2 a3 : Value} {Q : Value → Shared → Prop} (h : wpAny (model prog w) A.in1 (pyIter (.ref s.heap.objs.size)) (Askmax prog w A Q) E { s with heap := s.heap.push { cls := .type "tuple", data := .seq #[a0, a1, a2, a3] } }) : wpAny (model prog w) A (call (.builtin "max") [a0, a1, a2, a3]) Q E s := by
  have hname : (toString "max" ++ toString ".loop" : String) = "max.loop" := by decide
  refine call_function_tree F.kind_max F.plain_max F.entry_max (args_max4 _ _ _ _) ?_
  show wpAny _ A.in1 (Builtin.Builtins.bindParams "max" ["key", "default"] 0 ⟨[], []⟩ >>= _) _ _ s
  refine wpAny_bind (wpAny_of_eq (show Builtin.Builtins.bindParams "max" ["key", "default"] 0 ⟨[], []⟩ = pure [none, none] from rfl) ?_)
  show wpAny _ A.in1 (newTuple [a0, a1, a2, a3] >>= _) _ _ s
  refine wpAny_bind (wpAny_newObj_type ?_)
  refine wpAny_bind (wpAny_mono h (fun it s₂ h₂ => ?_) fun _ _ e => e)
  obtain ⟨I, fp, wr, n, P, St, bt, rfl, W, hst, hfp, hn, hcmp, hQ⟩ := h₂
  refine wpAny_bind (wpAny_newObj_type ?_)
  have hSf : s₂.heap.objs.size ∉ fp := fun hm => Nat.lt_irrefl _ (hfp _ hm)
  rw [hname]
  refine wpAny_pure ⟨plainId_quiet F.plain_max_loop _, codeAny_max_loop_first W bt hcmp s₂.heap.objs.size hSf hn (W.frame _ _ _ hst fun b _ o e => Heap.get?_push_of_some _ e) (Heap.get?_push_size _ rfl) fun v h' tk hP hk => ?_⟩
  exact hQ v h' tk hP fun b o hbw e => hk b o hbw (Nat.ne_of_lt (Heap.lt_size e)) (Heap.get?_push_of_some _ e)
theorem args_max5 (a0 a1 a2 a3 a4 : Value) : argsOk "max" ⟨[a0, a1, a2, a3, a4], []⟩ := by unfold argsOk; kernel_rfl
theorem tree_max5 {a0 a1 a2 a3 a4 : Value} {Q : Value → Shared → Prop} (h : wpAny (model prog w) A.in1 (pyIter (.ref s.heap.objs.size)) (Askmax prog w A Q) E { s with heap := s.heap.push { cls := .type "tuple", data := .seq #[a0, a1, a2, a3, a4] } }) : wpAny (model prog w) A (call (.builtin "max") [a0, a1, a2, a3, a4]) Q E s := by
  have hname : (toString "max" ++ toString ".loop" : String) = "max.loop" := by decide
  refine call_function_tree F.kind_max F.plain_max F.entry_max (args_max5 _ _ _ _ _) ?_
  show wpAny _ A.in1 (Builtin.Builtins.bindParams "max" ["key", "default"] 0 ⟨[], []⟩ >>= _) _ _ s
  refine wpAny_bind (wpAny_of_eq (show Builtin.Builtins.bindParams "max" ["key", "default"] 0 ⟨[], []⟩ = pure [none, none] from rfl) ?_)
  show wpAny _ A.in1 (newTuple [a0, a1, a2, a3, a4] >>= _) _ _ s
  refine wpAny_bind (wpAny_newObj_type ?_)
  refine wpAny_bind (wpAny_mono h (fun it s₂ h₂ => ?_) fun _ _ e => e)
  obtain ⟨I, fp, wr, n, P, St, bt, rfl, W, hst, hfp, hn, hcmp, hQ⟩ := h₂
  refine wpAny_bind (wpAny_newObj_type ?_)
  have hSf : s₂.heap.objs.size ∉ fp := fun hm => Nat.lt_irrefl _ (hfp _ hm)
  rw [hname]
  refine wpAny_pure ⟨plainId_quiet F.plain_max_loop _, codeAny_max_loop_first W bt hcmp s₂.heap.objs.size hSf hn (W.frame _ _ _ hst fun b _ o e => Heap.get?_push_of_some _ e) (Heap.get?_push_size _ rfl) fun v h' tk hP hk => ?_⟩
  exact hQ v h' tk hP fun b o hbw e => hk b o hbw (Nat.ne_of_lt (Heap.lt_size e)) (Heap.get?_push_of_some _ e)
end
section
variable {X : Cx}
theorem call_max3 (hc : X.calm = true) : CallR X (.builtin "max") (fun xs H Q => ∃ a0 a1 a2 : Int, xs = [.int a0, .int a1, .int a2] ∧ ∀ m, (m = a0 ∨ m = a1 ∨ m = a2) → a0 ≤ m → a1 ≤ m → a2 ≤ m → Q (.int m) H) := by
  intro pins s σ H xs us Q I r h
  obtain ⟨a0, a1, a2, rfl, q⟩ := h
  cases r with | cons q0 r0 =>
  obtain ⟨t0, rfl⟩ := q0
  cases r0 with | cons q1 r1 =>
  obtain ⟨t1, rfl⟩ := q1
  cases r1 with | cons q2 r2 =>
  obtain ⟨t2, rfl⟩ := q2
  cases r2
  refine ask_max (xs := #[(a0, t0), (a1, t1), (a2, t2)]) (I.ok.hd hc) (by simp) (fun h => tree_max3 (by simpa [intItems] using h)) fun h' tk M t' hk hm hle => ⟨.int M, H, I.kept hk, ⟨_, rfl⟩, q M ?_ (hle _ (by simp)) (hle _ (by simp)) (hle _ (by simp))⟩
  · simpa using hm
theorem call_max4 (hc : X.calm = true) : CallR X (.builtin "max") (fun xs H Q => ∃ a0 a1 a2 a3 : Int, xs = [.int a0, .int a1, .int a2, .int a3] ∧ ∀ m, (m = a0 ∨ m = a1 ∨ m = a2 ∨ m = a3) → a0 ≤ m → a1 ≤ m → a2 ≤ m → a3 ≤ m → Q (.int m) H) := by
  intro pins s σ H xs us Q I r h
  obtain ⟨a0, a1, a2, a3, rfl, q⟩ := h
  cases r with | cons q0 r0 =>
  obtain ⟨t0, rfl⟩ := q0
  cases r0 with | cons q1 r1 =>
  obtain ⟨t1, rfl⟩ := q1
  cases r1 with | cons q2 r2 =>
  obtain ⟨t2, rfl⟩ := q2
  cases r2 with | cons q3 r3 =>
  obtain ⟨t3, rfl⟩ := q3
  cases r3
  refine ask_max (xs := #[(a0, t0), (a1, t1), (a2, t2), (a3, t3)]) (I.ok.hd hc) (by simp) (fun h => tree_max4 (by simpa [intItems] using h)) fun h' tk M t' hk hm hle => ⟨.int M, H, I.kept hk, ⟨_, rfl⟩, q M ?_ (hle _ (by simp)) (hle _ (by simp)) (hle _ (by simp)) (hle _ (by simp))⟩
  · simpa using hm
theorem call_max5 (hc : X.calm = true) : CallR X (.builtin "max") (fun xs H Q => ∃ a0 a1 a2 a3 a4 : Int, xs = [.int a0, .int a1, .int a2, .int a3, .int a4] ∧ ∀ m, (m = a0 ∨ m = a1 ∨ m = a2 ∨ m = a3 ∨ m = a4) → a0 ≤ m → a1 ≤ m → a2 ≤ m → a3 ≤ m → a4 ≤ m → Q (.int m) H) := by
  intro pins s σ H xs us Q I r h
  obtain ⟨a0, a1, a2, a3, a4, rfl, q⟩ := h
  cases r with | cons q0 r0 =>
  obtain ⟨t0, rfl⟩ := q0
  cases r0 with | cons q1 r1 =>
  obtain ⟨t1, rfl⟩ := q1
  cases r1 with | cons q2 r2 =>
  obtain ⟨t2, rfl⟩ := q2
  cases r2 with | cons q3 r3 =>
  obtain ⟨t3, rfl⟩ := q3
  cases r3 with | cons q4 r4 =>
  obtain ⟨t4, rfl⟩ := q4
  cases r4
  refine ask_max (xs := #[(a0, t0), (a1, t1), (a2, t2), (a3, t3), (a4, t4)]) (I.ok.hd hc) (by simp) (fun h => tree_max5 (by simpa [intItems] using h)) fun h' tk M t' hk hm hle => ⟨.int M, H, I.kept hk, ⟨_, rfl⟩, q M ?_ (hle _ (by simp)) (hle _ (by simp)) (hle _ (by simp)) (hle _ (by simp)) (hle _ (by simp))⟩
  · simpa using hm
end
section
variable {prog : Program} {w : World} {A : Around} {E : Value → Shared → Prop} {s : Shared}
/-- what min asks of the tuple of its arguments -/
def Askmin (prog : Program) (w : World) (A : Around) (Q : Value → Shared → Prop) (it : Value) (s₂ : Shared) : Prop := ∃ I fp wr n P St bt, it = .ref I ∧ Walks prog w A.in1 I fp wr n P St ∧ St 0 s₂.heap ∧ (∀ b ∈ fp, b < s₂.heap.objs.size) ∧ 0 < n ∧ CmpOf prog w A.in1 .Lt P bt ∧
  ∀ v h' tk, P (argBest bt (n - 1)) v → (∀ b o, b ∉ wr → s₂.heap.get? b = some o → h'.get? b = some o) → Q v { s₂ with heap := h', toks := tk }
theorem ask_min {xs : Array (Int × Tok)} {Q : Value → Shared → Prop} {c : Sem Value} (hh : A.handled = none) (hne : 0 < xs.size)
    (hc : wpAny (model prog w) A.in1 (pyIter (.ref s.heap.objs.size)) (Askmin prog w A Q) E { s with heap := s.heap.push { cls := .type "tuple", data := .seq (intItems xs) } } → wpAny (model prog w) A c Q E s)
    (h : ∀ h' tk M t', (∀ d o, s.heap.get? d = some o → h'.get? d = some o) → M ∈ xs.toList.map (·.1) → (∀ a, a ∈ xs.toList.map (·.1) → M ≤ a) → Q (.int M t') { s with heap := h', toks := tk }) : wpAny (model prog w) A c Q E s := by
  have hT : (s.heap.push { cls := .type "tuple", data := .seq (intItems xs) }).IsTuple s.heap.objs.size (intItems xs) := ⟨_, Heap.get?_push_size _ rfl, rfl, 0, rfl⟩
  have hsz : (s.heap.push { cls := .type "tuple", data := .seq (intItems xs) }).objs.size = s.heap.objs.size + 1 := Heap.size_push ..
  have hln : (intItems xs).size = xs.size := by simp [intItems]
  refine hc (wpAny_pyIter_tuple hT ?_)
  refine ⟨_, [_, s.heap.objs.size], [_], _, _, _, _, rfl, Walks.tuple (A := A.in1) hh _ s.heap.objs.size (by rw [hsz]; exact Nat.ne_of_lt (Nat.lt_succ_self _)) (intItems xs),
    ⟨⟨_, Heap.get?_push_size _ rfl, rfl, rfl⟩, hT.push _⟩, fun d hd => ?_, by rw [hln]; exact hne, CmpOf.ints_lt (numAt xs) (fun _ _ => intItems_at), fun v h' tk hP hk => ?_⟩
  · show d < ((s.heap.push _).push _).objs.size
    rw [Heap.size_push, hsz]
    rcases List.mem_cons.mp hd with e | hd
    · rw [e, hsz]; exact Nat.lt_succ_self _
    · rw [List.mem_singleton.mp hd]; exact Nat.lt_succ_of_lt (Nat.lt_succ_self _)
  · have hold : ∀ d o, s.heap.get? d = some o → h'.get? d = some o := fun d o e => by
      refine hk d o (fun hm => ?_) (Heap.get?_push_of_some _ (Heap.get?_push_of_some _ e))
      have := Heap.lt_size e
      rw [List.mem_singleton.mp hm, hsz] at this
      exact Nat.lt_irrefl _ (Nat.lt_of_succ_lt this)
    obtain ⟨t, rfl⟩ := intItems_at hP
    obtain ⟨h1, h2⟩ := argBest_lt (numAt xs) ((intItems xs).size - 1)
    refine h h' tk _ t hold ?_ fun a ha => ?_
    · rw [numAt_eq]; exact PySem.getD_mem (by rw [List.length_map, Array.length_toList]; omega)
    · obtain ⟨j, hj, rfl⟩ := PySem.mem_getD ha
      rw [List.length_map, Array.length_toList] at hj
      rw [← numAt_eq]; exact h2 j (by omega)
theorem args_min3 (a0 a1 a2 : Value) : argsOk "min" ⟨[a0, a1, a2], []⟩ := by unfold argsOk; kernel_rfl
theorem tree_min3 {a0 a1 a2 : Value} {Q : Value → Shared → Prop} (h : wpAny (model prog w) A.in1 (pyIter (.ref s.heap.objs.size)) (Askmin prog w A Q) E { s with heap := s.heap.push { cls := .type "tuple", data := .seq #[a0, a1, a2] } }) : wpAny (model prog w) A (call (.builtin "min") [a0, a1, a2]) Q E s := by
  have hname : (toString "min" ++ toString ".loop" : String) = "min.loop" := by decide
  refine call_function_tree F.kind_min F.plain_min F.entry_min (args_min3 _ _ _) ?_
  show wpAny _ A.in1 (Builtin.Builtins.bindParams "min" ["key", "default"] 0 ⟨[], []⟩ >>= _) _ _ s
  refine wpAny_bind (wpAny_of_eq (show Builtin.Builtins.bindParams "min" ["key", "default"] 0 ⟨[], []⟩ = pure [none, none] from rfl) ?_)
  show wpAny _ A.in1 (newTuple [a0, a1, a2] >>= _) _ _ s
  refine wpAny_bind (wpAny_newObj_type ?_)
  refine wpAny_bind (wpAny_mono h (fun it s₂ h₂ => ?_) fun _ _ e => e)
  obtain ⟨I, fp, wr, n, P, St, bt, rfl, W, hst, hfp, hn, hcmp, hQ⟩ := h₂
  refine wpAny_bind (wpAny_newObj_type ?_)
  have hSf : s₂.heap.objs.size ∉ fp := fun hm => Nat.lt_irrefl _ (hfp _ hm)
  rw [hname]
  refine wpAny_pure ⟨plainId_quiet F.plain_min_loop _, codeAny_min_loop_first W bt hcmp s₂.heap.objs.size hSf hn (W.frame _ _ _ hst fun b _ o e => Heap.get?_push_of_some _ e) (Heap.get?_push_size _ rfl) fun v h' tk hP hk => ?_⟩
  exact hQ v h' tk hP fun b o hbw e => hk b o hbw (Nat.ne_of_lt (Heap.lt_size e)) (Heap.get?_push_of_some _ e)
theorem args_min4 (a0 a1 a2 a3 : Value) : argsOk "min" ⟨[a0, a1, a2, a3], []⟩ := by unfold argsOk; kernel_rfl
theorem tree_min4 {a0 a1 a2 a3 : Value} {Q : Value → Shared → Prop} (h : wpAny (model prog w) A.in1 (pyIter (.ref s.heap.objs.size)) (Askmin prog w A Q) E { s with heap := s.heap.push { cls := .type "tuple", data := .seq #[a0, a1, a2, a3] } }) : wpAny (model prog w) A (call (.builtin "min") [a0, a1, a2, a3]) Q E s := by
  have hname : (toString "min" ++ toString ".loop" : String) = "min.loop" := by decide
  refine call_function_tree F.kind_min F.plain_min F.entry_min (args_min4 _ _ _ _) ?_
  show wpAny _ A.in1 (Builtin.Builtins.bindParams "min" ["key", "default"] 0 ⟨[], []⟩ >>= _) _ _ s
  refine wpAny_bind (wpAny_of_eq (show Builtin.Builtins.bindParams "min" ["key", "default"] 0 ⟨[], []⟩ = pure [none, none] from rfl) ?_)
  show wpAny _ A.in1 (newTuple [a0, a1, a2, a3] >>= _) _ _ s
  refine wpAny_bind (wpAny_newObj_type ?_)
  refine wpAny_bind (wpAny_mono h (fun it s₂ h₂ => ?_) fun _ _ e => e)
  obtain ⟨I, fp, wr, n, P, St, bt, rfl, W, hst, hfp, hn, hcmp, hQ⟩ := h₂
  refine wpAny_bind (wpAny_newObj_type ?_)
  have hSf : s₂.heap.objs.size ∉ fp := fun hm => Nat.lt_irrefl _ (hfp _ hm)
  rw [hname]
  refine wpAny_pure ⟨plainId_quiet F.plain_min_loop _, codeAny_min_loop_first W bt hcmp s₂.heap.objs.size hSf hn (W.frame _ _ _ hst fun b _ o e => Heap.get?_push_of_some _ e) (Heap.get?_push_size _ rfl) fun v h' tk hP hk => ?_⟩
  exact hQ v h' tk hP fun b o hbw e => hk b o hbw (Nat.ne_of_lt (Heap.lt_size e)) (Heap.get?_push_of_some _ e)
theorem args_min5 (a0 a1 a2 a3 a4 : Value) : argsOk "min" ⟨[a0, a1, a2, a3, a4], []⟩ := by unfold argsOk; kernel_rfl
theorem tree_min5 {a0 a1 a2 a3 a4 : Value} {Q : Value → Shared → Prop} (h : wpAny (model prog w) A.in1 (pyIter (.ref s.heap.objs.size)) (Askmin prog w A Q) E { s with heap := s.heap.push { cls := .type "tuple", data := .seq #[a0, a1, a2, a3, a4] } }) : wpAny (model prog w) A (call (.builtin "min") [a0, a1, a2, a3, a4]) Q E s := by
  have hname : (toString "min" ++ toString ".loop" : String) = "min.loop" := by decide
  refine call_function_tree F.kind_min F.plain_min F.entry_min (args_min5 _ _ _ _ _) ?_
  show wpAny _ A.in1 (Builtin.Builtins.bindParams "min" ["key", "default"] 0 ⟨[], []⟩ >>= _) _ _ s
  refine wpAny_bind (wpAny_of_eq (show Builtin.Builtins.bindParams "min" ["key", "default"] 0 ⟨[], []⟩ = pure [none, none] from rfl) ?_)
  show wpAny _ A.in1 (newTuple [a0, a1, a2, a3, a4] >>= _) _ _ s
  refine wpAny_bind (wpAny_newObj_type ?_)
  refine wpAny_bind (wpAny_mono h (fun it s₂ h₂ => ?_) fun _ _ e => e)
  obtain ⟨I, fp, wr, n, P, St, bt, rfl, W, hst, hfp, hn, hcmp, hQ⟩ := h₂
  refine wpAny_bind (wpAny_newObj_type ?_)
  have hSf : s₂.heap.objs.size ∉ fp := fun hm => Nat.lt_irrefl _ (hfp _ hm)
  rw [hname]
  refine wpAny_pure ⟨plainId_quiet F.plain_min_loop _, codeAny_min_loop_first W bt hcmp s₂.heap.objs.size hSf hn (W.frame _ _ _ hst fun b _ o e => Heap.get?_push_of_some _ e) (Heap.get?_push_size _ rfl) fun v h' tk hP hk => ?_⟩
  exact hQ v h' tk hP fun b o hbw e => hk b o hbw (Nat.ne_of_lt (Heap.lt_size e)) (Heap.get?_push_of_some _ e)
end
section
variable {X : Cx}
theorem call_min3 (hc : X.calm = true) : CallR X (.builtin "min") (fun xs H Q => ∃ a0 a1 a2 : Int, xs = [.int a0, .int a1, .int a2] ∧ ∀ m, (m = a0 ∨ m = a1 ∨ m = a2) → m ≤ a0 → m ≤ a1 → m ≤ a2 → Q (.int m) H) := by
  intro pins s σ H xs us Q I r h
  obtain ⟨a0, a1, a2, rfl, q⟩ := h
  cases r with | cons q0 r0 =>
  obtain ⟨t0, rfl⟩ := q0
  cases r0 with | cons q1 r1 =>
  obtain ⟨t1, rfl⟩ := q1
  cases r1 with | cons q2 r2 =>
  obtain ⟨t2, rfl⟩ := q2
  cases r2
  refine ask_min (xs := #[(a0, t0), (a1, t1), (a2, t2)]) (I.ok.hd hc) (by simp) (fun h => tree_min3 (by simpa [intItems] using h)) fun h' tk M t' hk hm hle => ⟨.int M, H, I.kept hk, ⟨_, rfl⟩, q M ?_ (hle _ (by simp)) (hle _ (by simp)) (hle _ (by simp))⟩
  · simpa using hm
theorem call_min4 (hc : X.calm = true) : CallR X (.builtin "min") (fun xs H Q => ∃ a0 a1 a2 a3 : Int, xs = [.int a0, .int a1, .int a2, .int a3] ∧ ∀ m, (m = a0 ∨ m = a1 ∨ m = a2 ∨ m = a3) → m ≤ a0 → m ≤ a1 → m ≤ a2 → m ≤ a3 → Q (.int m) H) := by
  intro pins s σ H xs us Q I r h
  obtain ⟨a0, a1, a2, a3, rfl, q⟩ := h
  cases r with | cons q0 r0 =>
  obtain ⟨t0, rfl⟩ := q0
  cases r0 with | cons q1 r1 =>
  obtain ⟨t1, rfl⟩ := q1
  cases r1 with | cons q2 r2 =>
  obtain ⟨t2, rfl⟩ := q2
  cases r2 with | cons q3 r3 =>
  obtain ⟨t3, rfl⟩ := q3
  cases r3
  refine ask_min (xs := #[(a0, t0), (a1, t1), (a2, t2), (a3, t3)]) (I.ok.hd hc) (by simp) (fun h => tree_min4 (by simpa [intItems] using h)) fun h' tk M t' hk hm hle => ⟨.int M, H, I.kept hk, ⟨_, rfl⟩, q M ?_ (hle _ (by simp)) (hle _ (by simp)) (hle _ (by simp)) (hle _ (by simp))⟩
  · simpa using hm
theorem call_min5 (hc : X.calm = true) : CallR X (.builtin "min") (fun xs H Q => ∃ a0 a1 a2 a3 a4 : Int, xs = [.int a0, .int a1, .int a2, .int a3, .int a4] ∧ ∀ m, (m = a0 ∨ m = a1 ∨ m = a2 ∨ m = a3 ∨ m = a4) → m ≤ a0 → m ≤ a1 → m ≤ a2 → m ≤ a3 → m ≤ a4 → Q (.int m) H) := by
  intro pins s σ H xs us Q I r h
  obtain ⟨a0, a1, a2, a3, a4, rfl, q⟩ := h
  cases r with | cons q0 r0 =>
  obtain ⟨t0, rfl⟩ := q0
  cases r0 with | cons q1 r1 =>
  obtain ⟨t1, rfl⟩ := q1
  cases r1 with | cons q2 r2 =>
  obtain ⟨t2, rfl⟩ := q2
  cases r2 with | cons q3 r3 =>
  obtain ⟨t3, rfl⟩ := q3
  cases r3 with | cons q4 r4 =>
  obtain ⟨t4, rfl⟩ := q4
  cases r4
  refine ask_min (xs := #[(a0, t0), (a1, t1), (a2, t2), (a3, t3), (a4, t4)]) (I.ok.hd hc) (by simp) (fun h => tree_min5 (by simpa [intItems] using h)) fun h' tk M t' hk hm hle => ⟨.int M, H, I.kept hk, ⟨_, rfl⟩, q M ?_ (hle _ (by simp)) (hle _ (by simp)) (hle _ (by simp)) (hle _ (by simp)) (hle _ (by simp))⟩
  · simpa using hm
end
end Ew

namespace Ew
open PySem PySem.Spec PyProof.Rows L2
section
def topS (i : Nat) : Stmt := PySem.Challenge.pw_evenwires_k10_spots_of_places.main.body.getD i (.Pass ⟨0, 0, 0, 0⟩)
abbrev s_spot_of : Stmt := topS 1
abbrev N_spot_of : List Str := ["grain", "x", "y"]
theorem sc_spot_of : FnScope N_spot_of ["grain", "x", "y"] (defScope s_spot_of) := ⟨rfl, rfl, rfl, by decide +kernel, rfl, by decide +kernel, by decide +kernel⟩
abbrev s_far : Stmt := topS 2
abbrev N_far : List Str := ["spot", "other"]
theorem sc_far : FnScope N_far ["spot", "other"] (defScope s_far) := ⟨rfl, rfl, rfl, by decide +kernel, rfl, by decide +kernel, by decide +kernel⟩
abbrev s__law_deck : Stmt := topS 4
abbrev N__law_deck : List Str := ["_law_script"]
theorem sc__law_deck : FnScope N__law_deck ["_law_script"] (defScope s__law_deck) := ⟨rfl, rfl, rfl, by decide +kernel, rfl, by decide +kernel, by decide +kernel⟩
abbrev s__law_draw : Stmt := topS 5
abbrev N__law_draw : List Str := ["_law_deck_here", "_law_many", "_law_digit", "_law_cell", "_law_seed", "_law_number_here"]
theorem sc__law_draw : FnScope N__law_draw ["_law_deck_here", "_law_many"] (defScope s__law_draw) := ⟨rfl, rfl, rfl, by decide +kernel, rfl, by decide +kernel, by decide +kernel⟩
abbrev s__law_wide_draw : Stmt := topS 6
abbrev N__law_wide_draw : List Str := ["_law_deck_here", "_law_many", "_law_high"]
theorem sc__law_wide_draw : FnScope N__law_wide_draw ["_law_deck_here", "_law_many"] (defScope s__law_wide_draw) := ⟨rfl, rfl, rfl, by decide +kernel, rfl, by decide +kernel, by decide +kernel⟩
abbrev s__law_number : Stmt := topS 7
abbrev N__law_number : List Str := ["_law_deck_here", "_law_way"]
theorem sc__law_number : FnScope N__law_number ["_law_deck_here", "_law_way"] (defScope s__law_number) := ⟨rfl, rfl, rfl, by decide +kernel, rfl, by decide +kernel, by decide +kernel⟩
abbrev s__law_place : Stmt := topS 8
abbrev N__law_place : List Str := ["_law_deck_here", "_law_ways", "_law_x"]
theorem sc__law_place : FnScope N__law_place ["_law_deck_here"] (defScope s__law_place) := ⟨rfl, rfl, rfl, by decide +kernel, rfl, by decide +kernel, by decide +kernel⟩
abbrev s__law_is_whole : Stmt := topS 9
abbrev N__law_is_whole : List Str := ["_law_thing"]
theorem sc__law_is_whole : FnScope N__law_is_whole ["_law_thing"] (defScope s__law_is_whole) := ⟨rfl, rfl, rfl, by decide +kernel, rfl, by decide +kernel, by decide +kernel⟩
abbrev s__law_is_spot : Stmt := topS 10
abbrev N__law_is_spot : List Str := ["_law_thing"]
theorem sc__law_is_spot : FnScope N__law_is_spot ["_law_thing"] (defScope s__law_is_spot) := ⟨rfl, rfl, rfl, by decide +kernel, rfl, by decide +kernel, by decide +kernel⟩
abbrev s__law_far : Stmt := topS 11
abbrev N__law_far : List Str := ["_law_one", "_law_other"]
theorem sc__law_far : FnScope N__law_far ["_law_one", "_law_other"] (defScope s__law_far) := ⟨rfl, rfl, rfl, by decide +kernel, rfl, by decide +kernel, by decide +kernel⟩
abbrev s__law_far_right : Stmt := topS 12
abbrev N__law_far_right : List Str := ["_law_one", "_law_other", "_law_due", "_law_here", "_law_there", "_law_told"]
theorem sc__law_far_right : FnScope N__law_far_right ["_law_one", "_law_other", "_law_due"] (defScope s__law_far_right) := ⟨rfl, rfl, rfl, by decide +kernel, rfl, by decide +kernel, by decide +kernel⟩
abbrev s_law : Stmt := topS 13
abbrev N_law : List Str := ["_law_script", "_law_deck_here", "_law_turn", "_law_alike", "_law_grain", "_law_one", "_law_other", "_law_spots", "_law_x", "_law_y", "_law_told", "_law_due", "_law_steps_apart", "_law_wild", "_law_k"]
theorem sc_law : FnScope N_law ["_law_script"] (defScope s_law) := ⟨rfl, rfl, rfl, by decide +kernel, rfl, by decide +kernel, by decide +kernel⟩
/-- what the top has left: the defs, and the built-ins that are not bound anew -/
structure Tx (K : PySem.W.Frag) (mg : Str → Option Value) where
  a_spot_of : Addr
  d_spot_of : FuncData
  F_spot_of : Fun K "spot_of" "spot_of" s_spot_of a_spot_of d_spot_of
  b_spot_of : Binds K d_spot_of ["grain", "x", "y"] []
  g_spot_of : mg "spot_of" = some (.ref a_spot_of)
  a_far : Addr
  d_far : FuncData
  F_far : Fun K "far" "far" s_far a_far d_far
  b_far : Binds K d_far ["spot", "other"] []
  g_far : mg "far" = some (.ref a_far)
  a__law_deck : Addr
  d__law_deck : FuncData
  F__law_deck : Fun K "_law_deck" "_law_deck" s__law_deck a__law_deck d__law_deck
  b__law_deck : Binds K d__law_deck ["_law_script"] []
  g__law_deck : mg "_law_deck" = some (.ref a__law_deck)
  a__law_draw : Addr
  d__law_draw : FuncData
  F__law_draw : Fun K "_law_draw" "_law_draw" s__law_draw a__law_draw d__law_draw
  b__law_draw : Binds K d__law_draw ["_law_deck_here", "_law_many"] []
  g__law_draw : mg "_law_draw" = some (.ref a__law_draw)
  a__law_wide_draw : Addr
  d__law_wide_draw : FuncData
  F__law_wide_draw : Fun K "_law_wide_draw" "_law_wide_draw" s__law_wide_draw a__law_wide_draw d__law_wide_draw
  b__law_wide_draw : Binds K d__law_wide_draw ["_law_deck_here", "_law_many"] []
  g__law_wide_draw : mg "_law_wide_draw" = some (.ref a__law_wide_draw)
  a__law_number : Addr
  d__law_number : FuncData
  F__law_number : Fun K "_law_number" "_law_number" s__law_number a__law_number d__law_number
  b__law_number : Binds K d__law_number ["_law_deck_here", "_law_way"] []
  g__law_number : mg "_law_number" = some (.ref a__law_number)
  a__law_place : Addr
  d__law_place : FuncData
  F__law_place : Fun K "_law_place" "_law_place" s__law_place a__law_place d__law_place
  b__law_place : Binds K d__law_place ["_law_deck_here"] []
  g__law_place : mg "_law_place" = some (.ref a__law_place)
  a__law_is_whole : Addr
  d__law_is_whole : FuncData
  F__law_is_whole : Fun K "_law_is_whole" "_law_is_whole" s__law_is_whole a__law_is_whole d__law_is_whole
  b__law_is_whole : Binds K d__law_is_whole ["_law_thing"] []
  g__law_is_whole : mg "_law_is_whole" = some (.ref a__law_is_whole)
  a__law_is_spot : Addr
  d__law_is_spot : FuncData
  F__law_is_spot : Fun K "_law_is_spot" "_law_is_spot" s__law_is_spot a__law_is_spot d__law_is_spot
  b__law_is_spot : Binds K d__law_is_spot ["_law_thing"] []
  g__law_is_spot : mg "_law_is_spot" = some (.ref a__law_is_spot)
  a__law_far : Addr
  d__law_far : FuncData
  F__law_far : Fun K "_law_far" "_law_far" s__law_far a__law_far d__law_far
  b__law_far : Binds K d__law_far ["_law_one", "_law_other"] []
  g__law_far : mg "_law_far" = some (.ref a__law_far)
  a__law_far_right : Addr
  d__law_far_right : FuncData
  F__law_far_right : Fun K "_law_far_right" "_law_far_right" s__law_far_right a__law_far_right d__law_far_right
  b__law_far_right : Binds K d__law_far_right ["_law_one", "_law_other", "_law_due"] []
  g__law_far_right : mg "_law_far_right" = some (.ref a__law_far_right)
  a_law : Addr
  d_law : FuncData
  F_law : Fun K "law" "law" s_law a_law d_law
  b_law : Binds K d_law ["_law_script"] []
  g_law : mg "law" = some (.ref a_law)
  n_max : mg "max" = none
  n_abs : mg "abs" = none
  n_list : mg "list" = none
  n_len : mg "len" = none
  n_int : mg "int" = none
  n_isinstance : mg "isinstance" = none
  n_bool : mg "bool" = none
  n_tuple : mg "tuple" = none
  n_range : mg "range" = none
local macro_rules | `(tactic| walk_at "ewc") => `(tactic| first
  | (show (0 : Int) < _; omega)
  | (show (0 : Int) < _; decide)
  | (refine ⟨?_, ?_⟩ <;> omega)
  | exact Or.inl ⟨by omega, by omega⟩
  | exact Or.inr ⟨by omega, by omega⟩)
def dkv (c : Addr) (a r s : Int) : List (Key × V) := [(.inr "cells", .ref c), (.inr "at", .int a), (.inr "rest", .int r), (.inr "seed", .int s)]
theorem dkv_pa {c : Addr} {a r s a' : Int} : putK (dkv c a r s) (.inr "at") (.int a') = dkv c a' r s := rfl
theorem dkv_pr {c : Addr} {a r s a' : Int} : putK (dkv c a r s) (.inr "rest") (.int a') = dkv c a a' s := rfl
theorem dkv_ps {c : Addr} {a r s a' : Int} : putK (dkv c a r s) (.inr "seed") (.int a') = dkv c a r a' := rfl
/-- a deck stands at dk, its cells at c -/
structure Deck (H : Hp) (dk c : Addr) : Prop where
  ex : ∃ (a r s : Int) (cs : List Int), H dk = some (.dK (dkv c a r s)) ∧ H c = some (.lst (cs.map V.int)) ∧ 0 ≤ a ∧ 0 ≤ s ∧ s < 4294967296
theorem Deck.new {H : Hp} {dk c p : Addr} {o : HO} (h : Deck H dk c) (hp : H p = none) : Deck (upd H p o) dk c := by
  obtain ⟨L, s, n, cs, h1, h2, h3⟩ := h
  exact ⟨L, s, n, cs, get_new hp h1, get_new hp h2, h3⟩
theorem Deck.mut {H : Hp} {dk c p : Addr} {o : HO} (h : Deck H dk c) (hp : p ∉ [dk, c]) : Deck (upd H p o) dk c := by
  obtain ⟨L, s, n, cs, h1, h2, h3⟩ := h
  exact ⟨L, s, n, cs, get_ne (fun e => hp (e ▸ List.mem_cons_self)) h1, get_ne (fun e => hp (e ▸ List.mem_cons_of_mem _ List.mem_cons_self)) h2, h3⟩
theorem Deck.off' {H : Hp} {dk c p : Addr} (hp : H p = none) (h : Deck H dk c) : p ∉ [dk, c] := by
  obtain ⟨L, s, n, cs, h1, h2, h3⟩ := h
  intro m
  rcases List.mem_cons.mp m with e | m
  · rw [e, h1] at hp; cases hp
  · rcases List.mem_cons.mp m with e | m
    · rw [e, h2] at hp; cases hp
    · cases m
theorem Deck.off {H : Hp} {dk c p : Addr} (h : Deck H dk c) (hp : H p = none) : p ∉ [dk, c] := Deck.off' hp h
theorem Deck.evo0 {H H' : Hp} {dk c : Addr} (h : Deck H dk c) (e : Evo [] H H') : Deck H' dk c := by
  obtain ⟨L, s, n, cs, h1, h2, h3⟩ := h
  exact ⟨L, s, n, cs, e.get List.not_mem_nil h1, e.get List.not_mem_nil h2, h3⟩
section
variable {P : Program} {w : World} {K : PySem.W.Frag} {mg : Str → Option Value} {base : Heap}
inductive sp__law_deck (K : PySem.W.Frag) : List V → Hp → VK → XK → Prop
  | mk {H : Hp} {Q : VK} {E : XK} {a : Addr} {ns : List Int} (hS : SqL K H a (ns.map V.int)) (hn : ns.length ≤ 63) (k : ∀ H' dk c, Deck H' dk c → H dk = none → H c = none → Evo [] H H' → Q (.ref dk) H') : sp__law_deck K [.ref a] H Q E
theorem ok__law_deck (T : Tx K mg) : FnOk P w K mg base CX0 1 T.a__law_deck T.d__law_deck ["_law_script"] (sp__law_deck K) := by
  refine T.F__law_deck.ok sc__law_deck (fun vs H Q E h => ?_) (fun cdv A outer s H vs Q E hr h => ?_)
  · cases h
    rfl
  · obtain @⟨_, _, _, a, ns, hS, hn, k⟩ := h
    have hlen : (ns.map V.int).length ≤ 63 := by rw [List.length_map]; exact hn
    refine ⟨_, (pss_one (ps_ret (pe_disp (pps_cons pe_str (pe_callTy call_list_of (by rfl) T.n_list (by decide +kernel) (pa_cons (pe_slice (r := Ew.rSlE K) Ew.sl_listE (pv 0) po_none (po_some pe_int)) pa_nil)) (pps_cons pe_str pe_int (pps_cons pe_str pe_int (pps_cons pe_str pe_int pps_nil)))) (by rfl) (by rfl) (fun z => by cases z) (by decide)))), ?_⟩
    intro dk hdk
    refine ⟨_, rfl, _, rfl, _, _, _, rfl, sqL_new hdk hS, cut63 hlen, fun q hq => ?_⟩
    refine ⟨_, _, rfl, .inl (SqL.of upd_same), fun c hc => ?_⟩
    have e0 : Evo [] H (upd H dk (.dK [])) := (Evo.refl [] H).new hdk
    have e1 := e0.new (o := .lst (ns.map V.int)) hq
    have e2 := e1.new (o := .lst (ns.map V.int)) hc
    refine ⟨get_new hc (get_new hq upd_same), [(.inr "cells", .ref c), (.inr "at", .int 0), (.inr "rest", .int 0), (.inr "seed", .int 31)], rfl, by show 4 ≤ 15; decide, ?_⟩
    have ncd : c ≠ dk := fun e => by rw [e, get_new hq upd_same] at hc; cases hc
    exact k _ dk c ⟨0, 0, 31, ns, upd_same, get_ne ncd upd_same, by decide, by decide, by decide⟩ hdk (e1.fresh hc) (e2.mut hdk)
inductive sp__law_draw : List V → Hp → VK → XK → Prop
  | mk {H : Hp} {Q : VK} {E : XK} {dk c : Addr} {m : Int} (hD : Deck H dk c) (m0 : 0 < m) (m1 : m < 1073741824) (k : ∀ H' r, 0 ≤ r → r < m → Deck H' dk c → Evo [dk, c] H H' → Q (.int r) H') : sp__law_draw [.ref dk, .int m] H Q E
set_option maxHeartbeats 1000000 in
theorem ok__law_draw (T : Tx K mg) : FnOk P w K mg base CX0 1 T.a__law_draw T.d__law_draw ["_law_deck_here", "_law_many"] sp__law_draw := by
  refine T.F__law_draw.ok sc__law_draw (fun vs H Q E h => ?_) (fun cdv A outer s H vs Q E hr h => ?_)
  · cases h
    rfl
  · obtain @⟨_, _, _, dk, c, m, ⟨a, r, s, cs, hd, hc, ha0, hs0, hs1⟩, m0, m1, k⟩ := h
    have hu := hu_of hr
    have ncd : c ≠ dk := ne_of hc hd (by intro z; cases z)
    have hmd : ∀ ys, H dk ≠ some (.tup ys) := fun ys e => by rw [hd] at e; cases e
    have hfd : ∀ u v, H dk ≠ some (.frz u v) := fun ys _ e => by rw [hd] at e; cases e
    have i1 : dk ∈ [dk, c] := List.mem_cons_self
    refine ⟨_, (pss_cons (ps_if (pt_cmpR op_gt (pe_dget hu (pv 0) pe_str (fun _ _ => rfl)) pe_int (nomark _)) (pss_cons (ps_set (i := 2) sc__law_draw.nd rfl (Or.inl rfl) (pe_op op_mod (pe_dget hu (pv 0) pe_str (fun _ _ => rfl)) (pv 1)))
      (pss_cons (ps_dput hu (pv 0) pe_str (pe_op op_fdiv (pe_dget hu (pv 0) pe_str (fun _ _ => rfl)) (pv 1)) rfl)
      (pss_one (ps_ret (pv 2))))) pss_nil)
      (pss_cons (ps_set (i := 3) sc__law_draw.nd rfl (Or.inl rfl) pe_int)
      (pss_cons (ps_if (pt_cmpR op_lt (pe_dget hu (pv 0) pe_str (fun _ _ => rfl)) (pe_callB (r := Ew.rLen K) Ew.call_len (by rfl) T.n_len (by decide +kernel) (pa_cons (pe_dget hu (pv 0) pe_str (fun _ _ => rfl)) pa_nil)) (nomark _)) (pss_one (ps_set (i := 3) sc__law_draw.nd rfl (Or.inl rfl) (pe_ix (r := rIxL K) ix_list (pe_dget hu (pv 0) pe_str (fun _ _ => rfl)) (pe_dget hu (pv 0) pe_str (fun _ _ => rfl)) (fun _ _ => rfl)))) pss_nil)
      (pss_cons (ps_dput hu (pv 0) pe_str (pe_op op_add (pe_dget hu (pv 0) pe_str (fun _ _ => rfl)) pe_int) rfl)
      (pss_cons (ps_set (i := 4) sc__law_draw.nd rfl (Or.inl rfl) (pe_op op_add (pe_op op_mul (pe_dget hu (pv 0) pe_str (fun _ _ => rfl)) pe_int) (pe_op op_mul pe_int (pe_dget hu (pv 0) pe_str (fun _ _ => rfl)))))
      (pss_cons (ps_dput hu (pv 0) pe_str (pe_op op_mod (pe_op op_add (pv 4) (pe_op op_mod (pv 3) pe_int)) pe_int) rfl)
      (pss_cons (ps_if (pt_cmpR op_ge (pv 3) (pe_op (Ew.op_powC 10 18 1000000000000000000) pe_int pe_int) (nomark _)) (pss_cons (ps_dput hu (pv 0) pe_str (pe_op op_fdiv (pv 3) (pv 1)) rfl)
      (pss_one (ps_ret (pe_op op_mod (pv 3) (pv 1))))) pss_nil)
      (pss_cons (ps_set (i := 5) sc__law_draw.nd rfl (Or.inl rfl) (pe_op op_mod (pe_op op_mul (pe_dget hu (pv 0) pe_str (fun _ _ => rfl)) (pe_op op_add (pe_op op_fdiv (pe_dget hu (pv 0) pe_str (fun _ _ => rfl)) pe_int) pe_int)) pe_int))
      (pss_one (ps_ret (pe_op op_mod (pe_op op_fdiv (pe_op op_mod (pe_op op_mul (pv 5) (pe_op op_add (pe_op op_fdiv (pv 5) pe_int) pe_int)) pe_int) pe_int) (pv 1)))))))))))), ?_⟩
    refine ⟨_, rfl, dgetE hd rfl ⟨_, _, rfl, rfl, _, rfl, iteD (fun hL => ?_) (fun hL => ?_)⟩⟩
    · refine ⟨_, rfl, dgetE hd rfl ⟨_, rfl, ⟨_, _, rfl, rfl, by walk_at "ewc", ?_⟩⟩⟩
      refine ⟨_, rfl, dgetE hd rfl ⟨_, rfl, ⟨_, _, rfl, rfl, by walk_at "ewc", ?_⟩⟩⟩
      refine ⟨_, rfl, dputE hd dkv_pr ?_ (by show 4 ≤ 1000; decide)⟩
      refine ⟨_, rfl, ?_⟩
      exact k _ _ (Int.emod_nonneg _ (by omega)) (Int.emod_lt_of_pos _ m0) ⟨_, _, _, _, upd_same, get_ne ncd hc, ha0, hs0, hs1⟩ ((Evo.refl _ H).set i1 hmd hfd)
    · refine ⟨_, rfl, dgetE hd rfl ⟨_, rfl, dgetE hd rfl ?_⟩⟩
      refine lenL (SqL.of hc) ⟨_, _, rfl, rfl, _, rfl, iteD (fun hlt => ?_) (fun hge => ?_)⟩
      · have hlt' : a.toNat < cs.length := by rw [List.length_map] at hlt; omega
        refine ⟨_, rfl, dgetE hd rfl ⟨_, rfl, dgetE hd rfl ?_⟩⟩
        refine ixL (SqL.of hc) (v := .int cs[a.toNat]) ?_ ?_
        · exact at_of (j := a.toNat) (by omega) (by rw [List.getElem?_map, List.getElem?_eq_getElem hlt']; rfl)
        generalize cs[a.toNat] = z
        refine ⟨_, rfl, dgetE hd rfl ⟨_, _, rfl, rfl, ?_⟩⟩
        refine ⟨_, rfl, dputE hd dkv_pa ?_ (by show 4 ≤ 1000; decide)⟩
        refine ⟨_, rfl, dgetE upd_same rfl ⟨_, _, rfl, rfl, by walk_at "ewc", ?_⟩⟩
        refine ⟨_, rfl, dgetE upd_same rfl ⟨_, _, rfl, rfl, by walk_at "ewc", ⟨_, _, rfl, rfl, ?_⟩⟩⟩
        refine ⟨_, rfl, _, rfl, ⟨_, _, rfl, rfl, by walk_at "ewc", ⟨_, _, rfl, rfl, ⟨_, _, rfl, rfl, by walk_at "ewc", ?_⟩⟩⟩⟩
        refine ⟨_, rfl, dputE upd_same dkv_ps ?_ (by show 4 ≤ 1000; decide)⟩
        have E3 : Evo [dk, c] H (upd (upd H dk (.dK (dkv c (a + 1) r s))) dk (.dK (dkv c (a + 1) r ((s * 48271 + 7919 * (a + 1) + z % 2147483629) % 2147483587)))) := ((Evo.refl _ H).set i1 hmd hfd).set i1 hmd hfd
        have hc3 : (upd (upd H dk (.dK (dkv c (a + 1) r s))) dk (.dK (dkv c (a + 1) r ((s * 48271 + 7919 * (a + 1) + z % 2147483629) % 2147483587)))) c = some (.lst (cs.map V.int)) := get_ne ncd (get_ne ncd hc)
        have s0 : 0 ≤ (s * 48271 + 7919 * (a + 1) + z % 2147483629) % 2147483587 := by omega
        have s1 : (s * 48271 + 7919 * (a + 1) + z % 2147483629) % 2147483587 < 2147483587 := by omega
        have hd3 : (upd (upd H dk (.dK (dkv c (a + 1) r s))) dk (.dK (dkv c (a + 1) r ((s * 48271 + 7919 * (a + 1) + z % 2147483629) % 2147483587)))) dk = some (.dK (dkv c (a + 1) r ((s * 48271 + 7919 * (a + 1) + z % 2147483629) % 2147483587))) := upd_same
        refine ⟨_, rfl, rfl, rfl, _, _, rfl, rfl, _, rfl, iteD (fun hz => ?_) (fun hz => ?_)⟩
        · refine ⟨_, rfl, _, rfl, ⟨_, _, rfl, rfl, by walk_at "ewc", ?_⟩⟩
          refine ⟨_, rfl, dputE hd3 dkv_pr ?_ (by show 4 ≤ 1000; decide)⟩
          refine ⟨_, rfl, _, rfl, ⟨_, _, rfl, rfl, by walk_at "ewc", ?_⟩⟩
          exact k _ _ (Int.emod_nonneg _ (by omega)) (Int.emod_lt_of_pos _ m0) ⟨_, _, _, _, upd_same, get_ne ncd hc3, by omega, s0, by omega⟩ (E3.set i1 hmd hfd)
        · refine ⟨_, rfl, dgetE hd3 rfl ⟨_, rfl, dgetE hd3 rfl ⟨_, _, rfl, rfl, by walk_at "ewc", ⟨_, _, rfl, rfl, ⟨_, _, rfl, rfl, ?_, ⟨_, _, rfl, rfl, by walk_at "ewc", ?_⟩⟩⟩⟩⟩⟩
          · exact Or.inl ⟨by omega, by omega⟩
          have n0 : ∀ z : Int, 0 ≤ z % 2147483563 := fun z => by omega
          have n1 : ∀ z : Int, z % 2147483563 < 2147483563 := fun z => by omega
          refine ⟨_, rfl, _, rfl, ⟨_, _, rfl, rfl, by walk_at "ewc", ⟨_, _, rfl, rfl, ⟨_, _, rfl, rfl, ?_, ⟨_, _, rfl, rfl, by walk_at "ewc", ⟨_, _, rfl, rfl, by walk_at "ewc", ⟨_, rfl, ⟨_, _, rfl, rfl, by walk_at "ewc", ?_⟩⟩⟩⟩⟩⟩⟩⟩
          · exact Or.inl ⟨Int.lt_of_lt_of_le (by decide) (n0 _), Int.lt_trans (n1 _) (by decide)⟩
          exact k _ _ (Int.emod_nonneg _ (by omega)) (Int.emod_lt_of_pos _ m0) ⟨_, _, _, _, hd3, hc3, by omega, s0, by omega⟩ E3
      · refine ⟨_, rfl, dgetE hd rfl ⟨_, _, rfl, rfl, ?_⟩⟩
        refine ⟨_, rfl, dputE hd dkv_pa ?_ (by show 4 ≤ 1000; decide)⟩
        refine ⟨_, rfl, dgetE upd_same rfl ⟨_, _, rfl, rfl, by walk_at "ewc", ?_⟩⟩
        refine ⟨_, rfl, dgetE upd_same rfl ⟨_, _, rfl, rfl, by walk_at "ewc", ⟨_, _, rfl, rfl, ?_⟩⟩⟩
        refine ⟨_, rfl, _, rfl, ⟨_, _, rfl, rfl, by walk_at "ewc", ⟨_, _, rfl, rfl, ⟨_, _, rfl, rfl, by walk_at "ewc", ?_⟩⟩⟩⟩
        refine ⟨_, rfl, dputE upd_same dkv_ps ?_ (by show 4 ≤ 1000; decide)⟩
        have E3 : Evo [dk, c] H (upd (upd H dk (.dK (dkv c (a + 1) r s))) dk (.dK (dkv c (a + 1) r ((s * 48271 + 7919 * (a + 1) + 0 % 2147483629) % 2147483587)))) := ((Evo.refl _ H).set i1 hmd hfd).set i1 hmd hfd
        have hc3 : (upd (upd H dk (.dK (dkv c (a + 1) r s))) dk (.dK (dkv c (a + 1) r ((s * 48271 + 7919 * (a + 1) + 0 % 2147483629) % 2147483587)))) c = some (.lst (cs.map V.int)) := get_ne ncd (get_ne ncd hc)
        have s0 : 0 ≤ (s * 48271 + 7919 * (a + 1) + 0 % 2147483629) % 2147483587 := by omega
        have s1 : (s * 48271 + 7919 * (a + 1) + 0 % 2147483629) % 2147483587 < 2147483587 := by omega
        have hd3 : (upd (upd H dk (.dK (dkv c (a + 1) r s))) dk (.dK (dkv c (a + 1) r ((s * 48271 + 7919 * (a + 1) + 0 % 2147483629) % 2147483587)))) dk = some (.dK (dkv c (a + 1) r ((s * 48271 + 7919 * (a + 1) + 0 % 2147483629) % 2147483587))) := upd_same
        refine ⟨_, rfl, rfl, rfl, _, _, rfl, rfl, _, rfl, iteD (fun hz => ?_) (fun hz => ?_)⟩
        · refine ⟨_, rfl, _, rfl, ⟨_, _, rfl, rfl, by walk_at "ewc", ?_⟩⟩
          refine ⟨_, rfl, dputE hd3 dkv_pr ?_ (by show 4 ≤ 1000; decide)⟩
          refine ⟨_, rfl, _, rfl, ⟨_, _, rfl, rfl, by walk_at "ewc", ?_⟩⟩
          exact k _ _ (Int.emod_nonneg _ (by omega)) (Int.emod_lt_of_pos _ m0) ⟨_, _, _, _, upd_same, get_ne ncd hc3, by omega, s0, by omega⟩ (E3.set i1 hmd hfd)
        · refine ⟨_, rfl, dgetE hd3 rfl ⟨_, rfl, dgetE hd3 rfl ⟨_, _, rfl, rfl, by walk_at "ewc", ⟨_, _, rfl, rfl, ⟨_, _, rfl, rfl, ?_, ⟨_, _, rfl, rfl, by walk_at "ewc", ?_⟩⟩⟩⟩⟩⟩
          · exact Or.inl ⟨by omega, by omega⟩
          have n0 : ∀ z : Int, 0 ≤ z % 2147483563 := fun z => by omega
          have n1 : ∀ z : Int, z % 2147483563 < 2147483563 := fun z => by omega
          refine ⟨_, rfl, _, rfl, ⟨_, _, rfl, rfl, by walk_at "ewc", ⟨_, _, rfl, rfl, ⟨_, _, rfl, rfl, ?_, ⟨_, _, rfl, rfl, by walk_at "ewc", ⟨_, _, rfl, rfl, by walk_at "ewc", ⟨_, rfl, ⟨_, _, rfl, rfl, by walk_at "ewc", ?_⟩⟩⟩⟩⟩⟩⟩⟩
          · exact Or.inl ⟨Int.lt_of_lt_of_le (by decide) (n0 _), Int.lt_trans (n1 _) (by decide)⟩
          exact k _ _ (Int.emod_nonneg _ (by omega)) (Int.emod_lt_of_pos _ m0) ⟨_, _, _, _, hd3, hc3, by omega, s0, by omega⟩ E3
end
end
section
local macro_rules | `(tactic| walk_at "ewc") => `(tactic| first
  | (show (0 : Int) < _; omega)
  | (show (0 : Int) < _; decide)
  | (refine ⟨?_, ?_⟩ <;> omega)
  | exact Or.inl ⟨by omega, by omega⟩
  | exact Or.inr ⟨by omega, by omega⟩)
local macro_rules | `(tactic| walk_at "ewar") => `(tactic| first
  | omega
  | (simp only [Ew.ab]; repeat' split
     all_goals omega))
local macro_rules | `(tactic| walk_at "ewtup") => `(tactic| first
  | assumption
  | exact upd_same
  | (refine' Ew.get_new ?ew1 ?ew2; (case ew1 => assumption); (case ew2 => walk_at "ewtup"))
  | (refine' Ew.getI_mut ?ew1 ?ew2 rfl; (case ew1 => walk_at "ewlst"); (case ew2 => walk_at "ewtup"))
  | (refine' Ew.getI_mutD ?ew1 ?ew2 rfl; (case ew1 => assumption); (case ew2 => walk_at "ewtup"))
  | (refine' Ew.Evo.getI ?ew1 ?ew2 rfl; (case ew1 => assumption); (case ew2 => walk_at "ewtup")))
local macro_rules | `(tactic| walk_at "ewlst") => `(tactic| first
  | assumption
  | exact upd_same
  | (refine' Ew.get_new ?ew1 ?ew2; (case ew1 => assumption); (case ew2 => walk_at "ewlst"))
  | (refine' Ew.get_ne ?ew1 ?ew2; (case ew1 => assumption); (case ew2 => walk_at "ewlst"))
  | (refine' Ew.Evo.get ?ew1 ?ew2 ?ew3; (case ew1 => assumption); (case ew2 => walk_at "ewoff"); (case ew3 => walk_at "ewlst")))
local macro_rules | `(tactic| walk_at "ewoff") => `(tactic| first
  | assumption
  | exact List.not_mem_nil
  | (refine' Ew.Deck.off' ?ew1 ?ew2; (case ew1 => assumption); (case ew2 => walk_at "ewdeck")))
local macro_rules | `(tactic| walk_at "ewdeck") => `(tactic| first
  | assumption
  | (refine' Ew.Deck.new ?ew1 ?ew2; (case ew2 => assumption); (case ew1 => walk_at "ewdeck"))
  | (refine' Ew.Deck.mut ?ew1 ?ew2; (case ew2 => walk_at "ewoff"); (case ew1 => walk_at "ewdeck"))
  | (refine' Ew.Deck.evo0 ?ew1 ?ew2; (case ew2 => assumption); (case ew1 => walk_at "ewdeck")))
local macro_rules | `(tactic| walk_at "ewevo") => `(tactic| first
  | assumption
  | exact Ew.Evo.refl _ _
  | (refine' Ew.Evo.new ?ew1 ?ew2; (case ew2 => assumption); (case ew1 => walk_at "ewevo"))
  | (refine' Ew.Evo.mut ?ew1 ?ew2; (case ew2 => assumption); (case ew1 => walk_at "ewevo"))
  | (refine' Ew.Evo.trans ?ew1 ?ew2; (case ew2 => assumption); (case ew1 => walk_at "ewevo"))
  | (refine' Ew.Evo.call0 ?ew1 ?ew2; (case ew2 => assumption); (case ew1 => walk_at "ewevo")))
local macro_rules | `(tactic| walk_at "ewlen") => `(tactic| first
  | exact Nat.le_of_ble_eq_true rfl
  | omega
  | (simp only [List.length_map, List.length_append, List.length_cons, List.length_nil]; omega))
local macro_rules | `(tactic| walk_at "ewcall") => `(tactic| fail)
local macro_rules | `(tactic| walk_at "ew") => `(tactic| first
  | walk_at "ewcall"
  | refine ⟨_, rfl, ?_⟩
  | refine iteT ?_
  | refine iteF ?_
  | refine ⟨_, _, rfl, rfl, ?_⟩
  | (refine' Ew.ixT (SqT.of ?ew1) ?ew2 ?_; (case ew1 => walk_at "ewtup"); (case ew2 => rfl))
  | (refine' Ew.ixL (SqL.of ?ew1) ?ew2 ?_; (case ew1 => walk_at "ewlst"); (case ew2 => rfl))
  | (refine' ⟨_, ?_, rfl, SqT.of ?ew1, ?ew2, ?_⟩; (case ew1 => walk_at "ewtup"); (case ew2 => rfl))
  | (refine' ⟨_, ?_, rfl, SqL.of ?ew1, ?ew2, ?_⟩; (case ew1 => walk_at "ewlst"); (case ew2 => rfl))
  | refine ⟨_, _, rfl, ?_⟩
  | (refine' ⟨_, ?_, rfl, Or.inr (SqT.of ?ew1), rfl, ?ew2, ?_⟩; (case ew1 => walk_at "ewtup"); (case ew2 => rfl))
  | refine Or.inr ⟨_, rfl, ?_⟩
  | (refine' Ew.ixQ ?ew1 ?ew2 ?_; (case ew1 => first | assumption | exact Or.inl (by walk_at "ewlst") | exact Or.inr (by walk_at "ewtup")); (case ew2 => rfl))
  | refine ⟨_, _, _, rfl, fun m hm h1 h2 h3 => ?_⟩
  | refine ⟨_, _, _, _, rfl, fun m hm h1 h2 h3 h4 => ?_⟩
  | refine ⟨_, _, _, _, _, rfl, fun m hm h1 h2 h3 h4 h5 => ?_⟩
  | (refine' ⟨_, ?_, ?_, rfl, SqL.of ?ew1, ?ew2, fun p hp => ?_⟩; (case ew1 => walk_at "ewlst"); (case ew2 => first | exact Ew.cut_lo2 | exact Ew.cut_hi2))
  | (refine' ⟨_, ?_, ?_, rfl, SqT.of ?ew1, ?ew2, ?ew3, fun p hp => ?_⟩; (case ew1 => walk_at "ewtup"); (case ew2 => first | exact Ew.cut_lo2 | exact Ew.cut_hi2); (case ew3 => exact Nat.lt_of_ble_eq_true rfl))
  | refine ⟨rfl, rfl, ?_⟩
  | refine ⟨rfl, ?_⟩
  | refine Ew.ii_ii ?_
  | refine Ew.ii_ib ?_
  | refine Ew.ii_bb ?_
  | (refine' Ew.ii_tt ?ew1 ?_; (case ew1 => walk_at "ewtup"))
  | refine ⟨Ew.sz (Nat.le_of_ble_eq_true rfl), fun p hp => ?_⟩
  | (refine' ⟨_, ?_, ?_, rfl, SqT.of ?ew1, fun p hp => ?_⟩; (case ew1 => walk_at "ewtup"))
  | (refine' ⟨Or.inl ⟨rfl, ?_, SqL.of ?ew1⟩, ?_⟩; (case ew1 => walk_at "ewlst"))
  | (refine' Ew.apd ?ew1 ?ew2 ?_; (case ew1 => walk_at "ewlst"); (case ew2 => walk_at "ewlen"))
  | (refine' ⟨?_, Ew.eqT ?ew1 ?ew2 ?ew3 ?ew4, ?_⟩; (case ew1 => walk_at "ewtup"); (case ew2 => walk_at "ewtup"); (case ew3 => rfl); (case ew4 => rfl))
  | (refine' Ew.lenT (SqT.of ?ew1) ?_; (case ew1 => walk_at "ewtup"))
  | (refine' Ew.lenL (SqL.of ?ew1) ?_; (case ew1 => walk_at "ewlst"))
  | refine ⟨by walk_at "ewc", ?_⟩
  | (refine' Ew.ixB (SqL.of ?ew1) (fun hb => ?_) (fun hb => ?_); (case ew1 => walk_at "ewlst")))
section
variable {P : Program} {w : World} {K : PySem.W.Frag} {mg : Str → Option Value} {base : Heap}
abbrev mx (i j : Int) : Int := if j > i then j else i
abbrev Bd (x : Int) : Prop := -1000000 ≤ x ∧ x ≤ 1000000
inductive sp_spot_of : List V → Hp → VK → XK → Prop
  | mk {H : Hp} {Q : VK} {E : XK} {g x y : Int} (g0 : 1 ≤ g) (g1 : g ≤ 1000) (k : ∀ p, H p = none → Q (.ref p) (upd H p (.tup [.int (g * (x + y)), .int (g * (x - y))]))) : sp_spot_of [.int g, .int x, .int y] H Q E
theorem ok_spot_of (T : Tx K mg) : FnOk P w K mg base CX0 1 T.a_spot_of T.d_spot_of ["grain", "x", "y"] sp_spot_of := by
  refine T.F_spot_of.ok sc_spot_of (fun vs H Q E h => by cases h; rfl) (fun cdv A outer s H vs Q E hr h => ?_)
  obtain @⟨_, _, _, g, x, y, g0, g1, k⟩ := h
  refine ⟨_, (pss_one (ps_ret (pe_tup (pa_cons (pe_op op_mul (pv 0) (pe_op op_add (pv 1) (pv 2))) (pa_cons (pe_op op_mul (pv 0) (pe_op op_sub (pv 1) (pv 2))) pa_nil))))), ?_⟩
  repeat walk_at "ew"
  exact k _ (by assumption)
inductive sp_far : List V → Hp → VK → XK → Prop
  | mk {H : Hp} {Q : VK} {E : XK} {a b : Addr} {x y x' y' : Int} (h1 : H a = some (.tup [.int x, .int y])) (h2 : H b = some (.tup [.int x', .int y'])) (k : Q (.int (mx (ab (x - x')) (ab (y - y')))) H) : sp_far [.ref a, .ref b] H Q E
theorem ok_far (T : Tx K mg) : FnOk P w K mg base CX0 1 T.a_far T.d_far ["spot", "other"] sp_far := by
  refine T.F_far.ok sc_far (fun vs H Q E h => by cases h; rfl) (fun cdv A outer s H vs Q E hr h => ?_)
  obtain @⟨_, _, _, a, b, x, y, x', y', h1, h2, k⟩ := h
  refine ⟨_, (pss_one (ps_ret (pe_callB (call_max2 rfl) (by rfl) T.n_max (by decide +kernel) (pa_cons (pe_callB call_abs (by rfl) T.n_abs (by decide +kernel) (pa_cons (pe_op op_sub (pe_ix (r := rIxT K) ix_tup (pv 0) pe_int (fun _ _ => rfl)) (pe_ix (r := rIxT K) ix_tup (pv 1) pe_int (fun _ _ => rfl))) pa_nil)) (pa_cons (pe_callB call_abs (by rfl) T.n_abs (by decide +kernel) (pa_cons (pe_op op_sub (pe_ix (r := rIxT K) ix_tup (pv 0) pe_int (fun _ _ => rfl)) (pe_ix (r := rIxT K) ix_tup (pv 1) pe_int (fun _ _ => rfl))) pa_nil)) pa_nil))))), ?_⟩
  repeat walk_at "ew"
  exact k
local macro_rules | `(tactic| walk_at "ewcall") => `(tactic| first
  | (refine' sp__law_draw.mk ?ew1 ?ew2 ?ew3 ?_; (case ew1 => walk_at "ewdeck"); (case ew2 => omega); (case ew3 => omega)))
inductive sp__law_wide_draw : List V → Hp → VK → XK → Prop
  | mk {H : Hp} {Q : VK} {E : XK} {dk c : Addr} {m : Int} (hD : Deck H dk c) (m0 : 0 < m) (k : ∀ H' r, 0 ≤ r → r < m → Deck H' dk c → Evo [dk, c] H H' → Q (.int r) H') : sp__law_wide_draw [.ref dk, .int m] H Q E
theorem ok__law_wide_draw (T : Tx K mg) : FnOk P w K mg base CX0 2 T.a__law_wide_draw T.d__law_wide_draw ["_law_deck_here", "_law_many"] sp__law_wide_draw := by
  refine T.F__law_wide_draw.ok sc__law_wide_draw (fun vs H Q E h => by cases h; rfl) (fun cdv A outer s H vs Q E hr h => ?_)
  obtain @⟨_, _, _, dk, c, m, hD, m0, k⟩ := h
  refine ⟨_, (pss_cons (ps_set (i := 2) sc__law_wide_draw.nd rfl (Or.inl rfl) (pe_call (ok__law_draw T) (hr.mono (by decide)) rfl T.g__law_draw T.F__law_draw.kp T.b__law_draw .nil pass0 (pa_cons (pv 0) (pa_cons (pe_op (Ew.op_powC 10 7 10000000) pe_int pe_int) pa_nil))))
      (pss_one (ps_ret (pe_op op_mod (pe_op op_add (pe_op op_mul (pv 2) (pe_op (Ew.op_powC 10 6 1000000) pe_int pe_int)) (pe_call (ok__law_draw T) (hr.mono (by decide)) rfl T.g__law_draw T.F__law_draw.kp T.b__law_draw .nil pass0 (pa_cons (pv 0) (pa_cons (pe_op (Ew.op_powC 10 6 1000000) pe_int pe_int) pa_nil)))) (pv 1))))), ?_⟩
  repeat walk_at "ew"
  intro H1 r r0 r1 hD1 e1
  repeat walk_at "ew"
  intro H2 q q0 q1 hD2 e2
  repeat walk_at "ew"
  exact k _ _ (Int.emod_nonneg _ (by omega)) (Int.emod_lt_of_pos _ m0) hD2 (e1.trans e2)
inductive sp__law_number : List V → Hp → VK → XK → Prop
  | mk {H : Hp} {Q : VK} {E : XK} {dk c : Addr} {m : Int} (hD : Deck H dk c) (k : ∀ H' r, Bd r → Deck H' dk c → Evo [dk, c] H H' → Q (.int r) H') : sp__law_number [.ref dk, .int m] H Q E
theorem ok__law_number (T : Tx K mg) : FnOk P w K mg base CX0 2 T.a__law_number T.d__law_number ["_law_deck_here", "_law_way"] sp__law_number := by
  refine T.F__law_number.ok sc__law_number (fun vs H Q E h => by cases h; rfl) (fun cdv A outer s H vs Q E hr h => ?_)
  obtain @⟨_, _, _, dk, c, m, hD, k⟩ := h
  refine ⟨_, (pss_cons (ps_if (pt_cmpR Ew.op_eqI (pv 1) pe_int (nomark _)) (pss_one (ps_ret (pe_call (ok__law_draw T) (hr.mono (by decide)) rfl T.g__law_draw T.F__law_draw.kp T.b__law_draw .nil pass0 (pa_cons (pv 0) (pa_cons pe_int pa_nil))))) pss_nil)
      (pss_cons (ps_if (pt_cmpR Ew.op_eqI (pv 1) pe_int (nomark _)) (pss_one (ps_ret (pe_op op_sub (pe_op (Ew.op_powC 10 6 1000000) pe_int pe_int) (pe_call (ok__law_draw T) (hr.mono (by decide)) rfl T.g__law_draw T.F__law_draw.kp T.b__law_draw .nil pass0 (pa_cons (pv 0) (pa_cons pe_int pa_nil)))))) pss_nil)
      (pss_cons (ps_if (pt_cmpR Ew.op_eqI (pv 1) pe_int (nomark _)) (pss_one (ps_ret (pe_op op_sub (pe_call (ok__law_draw T) (hr.mono (by decide)) rfl T.g__law_draw T.F__law_draw.kp T.b__law_draw .nil pass0 (pa_cons (pv 0) (pa_cons pe_int pa_nil))) (pe_op (Ew.op_powC 10 6 1000000) pe_int pe_int)))) pss_nil)
      (pss_one (ps_ret (pe_op op_sub (pe_call (ok__law_draw T) (hr.mono (by decide)) rfl T.g__law_draw T.F__law_draw.kp T.b__law_draw .nil pass0 (pa_cons (pv 0) (pa_cons (pe_op op_add (pe_op op_mul pe_int (pe_op (Ew.op_powC 10 6 1000000) pe_int pe_int)) pe_int) pa_nil))) (pe_op (Ew.op_powC 10 6 1000000) pe_int pe_int))))))), ?_⟩
  repeat walk_at "ew"
  refine iteD (fun _ => ?_) (fun _ => ?_)
  · repeat walk_at "ew"
    intro H1 r r0 r1 hD1 e1
    exact k _ _ ⟨by omega, by omega⟩ hD1 e1
  repeat walk_at "ew"
  refine iteD (fun _ => ?_) (fun _ => ?_)
  · repeat walk_at "ew"
    intro H1 r r0 r1 hD1 e1
    repeat walk_at "ew"
    exact k _ _ ⟨by omega, by omega⟩ hD1 e1
  repeat walk_at "ew"
  refine iteD (fun _ => ?_) (fun _ => ?_)
  all_goals
    repeat walk_at "ew"
    intro H1 r r0 r1 hD1 e1
    repeat walk_at "ew"
    exact k _ _ ⟨by omega, by omega⟩ hD1 e1
inductive sp__law_place : List V → Hp → VK → XK → Prop
  | mk {H : Hp} {Q : VK} {E : XK} {dk c : Addr} (hD : Deck H dk c) (k : ∀ H' p x y, H' p = some (.tup [.int x, .int y]) → Bd x → Bd y → Deck H' dk c → Evo [dk, c] H H' → Q (.ref p) H') : sp__law_place [.ref dk] H Q E
local macro_rules | `(tactic| walk_at "ewcall") => `(tactic| first
  | (refine' sp__law_number.mk ?ew1 ?_; (case ew1 => walk_at "ewdeck"))
  | (refine' sp__law_draw.mk ?ew1 ?ew2 ?ew3 ?_; (case ew1 => walk_at "ewdeck"); (case ew2 => omega); (case ew3 => omega)))
theorem ok__law_place (T : Tx K mg) : FnOk P w K mg base CX0 3 T.a__law_place T.d__law_place ["_law_deck_here"] sp__law_place := by
  refine T.F__law_place.ok sc__law_place (fun vs H Q E h => by cases h; rfl) (fun cdv A outer s H vs Q E hr h => ?_)
  obtain @⟨_, _, _, dk, c, hD, k⟩ := h
  refine ⟨_, (pss_cons (ps_set (i := 1) sc__law_place.nd rfl (Or.inl rfl) (pe_ix (r := rIxL K) ix_list (pe_lst (pa_cons pe_int (pa_cons pe_int pa_nil))) (pe_callTy call_int1 (by rfl) T.n_int (by decide +kernel) (pa_cons (pe_cmpR Ew.op_eqI (pe_call (ok__law_draw T) (hr.mono (by decide)) rfl T.g__law_draw T.F__law_draw.kp T.b__law_draw .nil pass0 (pa_cons (pv 0) (pa_cons pe_int pa_nil))) pe_int (nomark _)) pa_nil)) (fun _ _ => rfl)))
      (pss_cons (ps_set (i := 2) sc__law_place.nd rfl (Or.inl rfl) (pe_call (ok__law_number T) (hr.mono (by decide)) rfl T.g__law_number T.F__law_number.kp T.b__law_number .nil pass0 (pa_cons (pv 0) (pa_cons (pe_call (ok__law_draw T) (hr.mono (by decide)) rfl T.g__law_draw T.F__law_draw.kp T.b__law_draw .nil pass0 (pa_cons (pv 0) (pa_cons (pv 1) pa_nil))) pa_nil))))
      (pss_one (ps_ret (pe_tup (pa_cons (pv 2) (pa_cons (pe_call (ok__law_number T) (hr.mono (by decide)) rfl T.g__law_number T.F__law_number.kp T.b__law_number .nil pass0 (pa_cons (pv 0) (pa_cons (pe_call (ok__law_draw T) (hr.mono (by decide)) rfl T.g__law_draw T.F__law_draw.kp T.b__law_draw .nil pass0 (pa_cons (pv 0) (pa_cons (pv 1) pa_nil))) pa_nil))) pa_nil))))))), ?_⟩
  repeat walk_at "ew"
  rename_i p hp
  intro H1 r r0 r1 hD1 e1
  repeat walk_at "ew"
  all_goals
    repeat walk_at "ew"
    intro H2 a a0 a1 hD2 e2
    repeat walk_at "ew"
    intro H3 x bx hD3 e3
    repeat walk_at "ew"
    intro H4 b b0 b1 hD4 e4
    repeat walk_at "ew"
    intro H5 y bY hD5 e5
    repeat walk_at "ew"
    rename_i q hq
    exact k _ _ _ _ upd_same bx bY (hD5.new hq) (((((((Evo.refl _ H).new hp).trans e1).trans e2).trans e3).trans e4 |>.trans e5).new hq)
end
end
section
local macro_rules | `(tactic| walk_at "ewc") => `(tactic| first
  | (show (0 : Int) < _; omega)
  | (show (0 : Int) < _; decide)
  | (refine ⟨?_, ?_⟩ <;> omega)
  | exact Or.inl ⟨by omega, by omega⟩
  | exact Or.inr ⟨by omega, by omega⟩)
local macro_rules | `(tactic| walk_at "ewar") => `(tactic| first
  | omega
  | (simp only [Ew.ab]; repeat' split
     all_goals omega))
local macro_rules | `(tactic| walk_at "ewtup") => `(tactic| first
  | assumption
  | exact upd_same
  | (refine' Ew.get_new ?ew1 ?ew2; (case ew1 => assumption); (case ew2 => walk_at "ewtup"))
  | (refine' Ew.getI_mut ?ew1 ?ew2 rfl; (case ew1 => walk_at "ewlst"); (case ew2 => walk_at "ewtup"))
  | (refine' Ew.getI_mutD ?ew1 ?ew2 rfl; (case ew1 => assumption); (case ew2 => walk_at "ewtup"))
  | (refine' Ew.Evo.getI ?ew1 ?ew2 rfl; (case ew1 => assumption); (case ew2 => walk_at "ewtup")))
local macro_rules | `(tactic| walk_at "ewlst") => `(tactic| first
  | assumption
  | exact upd_same
  | (refine' Ew.get_new ?ew1 ?ew2; (case ew1 => assumption); (case ew2 => walk_at "ewlst"))
  | (refine' Ew.get_ne ?ew1 ?ew2; (case ew1 => assumption); (case ew2 => walk_at "ewlst"))
  | (refine' Ew.Evo.get ?ew1 ?ew2 ?ew3; (case ew1 => assumption); (case ew2 => walk_at "ewoff"); (case ew3 => walk_at "ewlst")))
local macro_rules | `(tactic| walk_at "ewoff") => `(tactic| first
  | assumption
  | exact List.not_mem_nil
  | (refine' Ew.Deck.off' ?ew1 ?ew2; (case ew1 => assumption); (case ew2 => walk_at "ewdeck")))
local macro_rules | `(tactic| walk_at "ewdeck") => `(tactic| first
  | assumption
  | (refine' Ew.Deck.new ?ew1 ?ew2; (case ew2 => assumption); (case ew1 => walk_at "ewdeck"))
  | (refine' Ew.Deck.mut ?ew1 ?ew2; (case ew2 => walk_at "ewoff"); (case ew1 => walk_at "ewdeck"))
  | (refine' Ew.Deck.evo0 ?ew1 ?ew2; (case ew2 => assumption); (case ew1 => walk_at "ewdeck")))
local macro_rules | `(tactic| walk_at "ewevo") => `(tactic| first
  | assumption
  | exact Ew.Evo.refl _ _
  | (refine' Ew.Evo.new ?ew1 ?ew2; (case ew2 => assumption); (case ew1 => walk_at "ewevo"))
  | (refine' Ew.Evo.mut ?ew1 ?ew2; (case ew2 => assumption); (case ew1 => walk_at "ewevo"))
  | (refine' Ew.Evo.trans ?ew1 ?ew2; (case ew2 => assumption); (case ew1 => walk_at "ewevo"))
  | (refine' Ew.Evo.call0 ?ew1 ?ew2; (case ew2 => assumption); (case ew1 => walk_at "ewevo")))
local macro_rules | `(tactic| walk_at "ewlen") => `(tactic| first
  | exact Nat.le_of_ble_eq_true rfl
  | omega
  | (simp only [List.length_map, List.length_append, List.length_cons, List.length_nil]; omega))
local macro_rules | `(tactic| walk_at "ewcall") => `(tactic| fail)
local macro_rules | `(tactic| walk_at "ew") => `(tactic| first
  | walk_at "ewcall"
  | refine ⟨_, rfl, ?_⟩
  | refine iteT ?_
  | refine iteF ?_
  | refine ⟨_, _, rfl, rfl, ?_⟩
  | (refine' Ew.ixT (SqT.of ?ew1) ?ew2 ?_; (case ew1 => walk_at "ewtup"); (case ew2 => rfl))
  | (refine' Ew.ixL (SqL.of ?ew1) ?ew2 ?_; (case ew1 => walk_at "ewlst"); (case ew2 => rfl))
  | (refine' ⟨_, ?_, rfl, SqT.of ?ew1, ?ew2, ?_⟩; (case ew1 => walk_at "ewtup"); (case ew2 => rfl))
  | (refine' ⟨_, ?_, rfl, SqL.of ?ew1, ?ew2, ?_⟩; (case ew1 => walk_at "ewlst"); (case ew2 => rfl))
  | refine ⟨_, _, rfl, ?_⟩
  | (refine' ⟨_, ?_, rfl, Or.inr (SqT.of ?ew1), rfl, ?ew2, ?_⟩; (case ew1 => walk_at "ewtup"); (case ew2 => rfl))
  | refine Or.inr ⟨_, rfl, ?_⟩
  | (refine' Ew.ixQ ?ew1 ?ew2 ?_; (case ew1 => first | assumption | exact Or.inl (by walk_at "ewlst") | exact Or.inr (by walk_at "ewtup")); (case ew2 => rfl))
  | refine ⟨_, _, _, rfl, fun m hm h1 h2 h3 => ?_⟩
  | refine ⟨_, _, _, _, rfl, fun m hm h1 h2 h3 h4 => ?_⟩
  | refine ⟨_, _, _, _, _, rfl, fun m hm h1 h2 h3 h4 h5 => ?_⟩
  | (refine' ⟨_, ?_, ?_, rfl, SqL.of ?ew1, ?ew2, fun p hp => ?_⟩; (case ew1 => walk_at "ewlst"); (case ew2 => first | exact Ew.cut_lo2 | exact Ew.cut_hi2))
  | (refine' ⟨_, ?_, ?_, rfl, SqT.of ?ew1, ?ew2, ?ew3, fun p hp => ?_⟩; (case ew1 => walk_at "ewtup"); (case ew2 => first | exact Ew.cut_lo2 | exact Ew.cut_hi2); (case ew3 => exact Nat.lt_of_ble_eq_true rfl))
  | refine ⟨rfl, rfl, ?_⟩
  | refine ⟨rfl, ?_⟩
  | refine Ew.ii_ii ?_
  | refine Ew.ii_ib ?_
  | refine Ew.ii_bb ?_
  | (refine' Ew.ii_tt ?ew1 ?_; (case ew1 => walk_at "ewtup"))
  | refine ⟨Ew.sz (Nat.le_of_ble_eq_true rfl), fun p hp => ?_⟩
  | (refine' ⟨_, ?_, ?_, rfl, SqT.of ?ew1, fun p hp => ?_⟩; (case ew1 => walk_at "ewtup"))
  | (refine' ⟨Or.inl ⟨rfl, ?_, SqL.of ?ew1⟩, ?_⟩; (case ew1 => walk_at "ewlst"))
  | (refine' Ew.apd ?ew1 ?ew2 ?_; (case ew1 => walk_at "ewlst"); (case ew2 => walk_at "ewlen"))
  | (refine' ⟨?_, Ew.eqT ?ew1 ?ew2 ?ew3 ?ew4, ?_⟩; (case ew1 => walk_at "ewtup"); (case ew2 => walk_at "ewtup"); (case ew3 => rfl); (case ew4 => rfl))
  | (refine' Ew.lenT (SqT.of ?ew1) ?_; (case ew1 => walk_at "ewtup"))
  | (refine' Ew.lenL (SqL.of ?ew1) ?_; (case ew1 => walk_at "ewlst"))
  | refine ⟨by walk_at "ewc", ?_⟩
  | (refine' Ew.ixB (SqL.of ?ew1) (fun hb => ?_) (fun hb => ?_); (case ew1 => walk_at "ewlst")))
section
variable {P : Program} {w : World} {K : PySem.W.Frag} {mg : Str → Option Value} {base : Heap}
inductive sp__law_is_whole : List V → Hp → VK → XK → Prop
  | mk {H : Hp} {Q : VK} {E : XK} {a : Int} (k : Q (.bl true) H) : sp__law_is_whole [.int a] H Q E
theorem ok__law_is_whole (T : Tx K mg) : FnOk P w K mg base CX0 1 T.a__law_is_whole T.d__law_is_whole ["_law_thing"] sp__law_is_whole := by
  refine T.F__law_is_whole.ok sc__law_is_whole (fun vs H Q E h => by cases h; rfl) (fun cdv A outer s H vs Q E hr h => ?_)
  obtain @⟨_, _, _, a, k⟩ := h
  refine ⟨_, (pss_one (ps_ret (pe_and (pe_callB (r := rIsi K) call_isi (by rfl) T.n_isinstance (by decide +kernel) (pa_cons (pv 0) (pa_cons (pe_bltn (v := .ty "int") (by rfl) T.n_int (by decide +kernel) rfl) pa_nil))) (pe_one (pe_not (pe_callB (r := rIsi K) call_isi (by rfl) T.n_isinstance (by decide +kernel) (pa_cons (pv 0) (pa_cons (pe_bltn (v := .ty "bool") (by rfl) T.n_bool (by decide +kernel) rfl) pa_nil)))))))), ?_⟩
  repeat walk_at "ew"
  exact k
inductive sp__law_far : List V → Hp → VK → XK → Prop
  | mk {H : Hp} {Q : VK} {E : XK} {a b : Addr} {x y x' y' : Int} (h1 : Sq2 H a [.int x, .int y]) (h2 : Sq2 H b [.int x', .int y']) (k : Q (.int (mx (ab (x - x')) (ab (y - y')))) H) : sp__law_far [.ref a, .ref b] H Q E
theorem ok__law_far (T : Tx K mg) : FnOk P w K mg base CX0 1 T.a__law_far T.d__law_far ["_law_one", "_law_other"] sp__law_far := by
  refine T.F__law_far.ok sc__law_far (fun vs H Q E h => by cases h; rfl) (fun cdv A outer s H vs Q E hr h => ?_)
  obtain @⟨_, _, _, a, b, x, y, x', y', h1, h2, k⟩ := h
  refine ⟨_, (pss_one (ps_ret (pe_callB (Ew.call_max4 rfl) (by rfl) T.n_max (by decide +kernel) (pa_cons (pe_op op_sub (pe_ix (r := rIx K) ix_seq (pv 0) pe_int (fun _ _ => rfl)) (pe_ix (r := rIx K) ix_seq (pv 1) pe_int (fun _ _ => rfl))) (pa_cons (pe_op op_sub (pe_ix (r := rIx K) ix_seq (pv 1) pe_int (fun _ _ => rfl)) (pe_ix (r := rIx K) ix_seq (pv 0) pe_int (fun _ _ => rfl))) (pa_cons (pe_op op_sub (pe_ix (r := rIx K) ix_seq (pv 0) pe_int (fun _ _ => rfl)) (pe_ix (r := rIx K) ix_seq (pv 1) pe_int (fun _ _ => rfl))) (pa_cons (pe_op op_sub (pe_ix (r := rIx K) ix_seq (pv 1) pe_int (fun _ _ => rfl)) (pe_ix (r := rIx K) ix_seq (pv 0) pe_int (fun _ _ => rfl))) pa_nil))))))), ?_⟩
  repeat walk_at "ew"
  refine Qeq (Q := Q) (congrArg V.int ?_) k
  simp only [mx, ab]
  repeat' split
  all_goals omega
local macro_rules | `(tactic| walk_at "ewcall") => `(tactic| first
  | refine sp__law_is_whole.mk ?_
  | (refine' sp_far.mk ?ew1 ?ew2 ?_; (case ew1 => walk_at "ewtup"); (case ew2 => walk_at "ewtup")))
inductive sp__law_is_spot : List V → Hp → VK → XK → Prop
  | mk {H : Hp} {Q : VK} {E : XK} {a : Addr} {x y : Int} (h1 : H a = some (.tup [.int x, .int y])) (k : Q (.bl true) H) : sp__law_is_spot [.ref a] H Q E
theorem ok__law_is_spot (T : Tx K mg) : FnOk P w K mg base CX0 2 T.a__law_is_spot T.d__law_is_spot ["_law_thing"] sp__law_is_spot := by
  refine T.F__law_is_spot.ok sc__law_is_spot (fun vs H Q E h => by cases h; rfl) (fun cdv A outer s H vs Q E hr h => ?_)
  obtain @⟨_, _, _, a, x, y, h1, k⟩ := h
  refine ⟨_, (pss_one (ps_ret (pe_and (pe_callB (r := rIsi K) call_isi (by rfl) T.n_isinstance (by decide +kernel) (pa_cons (pv 0) (pa_cons (pe_bltn (v := .ty "tuple") (by rfl) T.n_tuple (by decide +kernel) rfl) pa_nil))) (pe_and (pe_cmpR Ew.op_eqI (pe_callB (r := Ew.rLen K) Ew.call_len (by rfl) T.n_len (by decide +kernel) (pa_cons (pv 0) pa_nil)) pe_int (nomark _)) (pe_and (pe_call (ok__law_is_whole T) (hr.mono (by decide)) rfl T.g__law_is_whole T.F__law_is_whole.kp T.b__law_is_whole .nil pass0 (pa_cons (pe_ix (r := rIxT K) ix_tup (pv 0) pe_int (fun _ _ => rfl)) pa_nil)) (pe_one (pe_call (ok__law_is_whole T) (hr.mono (by decide)) rfl T.g__law_is_whole T.F__law_is_whole.kp T.b__law_is_whole .nil pass0 (pa_cons (pe_ix (r := rIxT K) ix_tup (pv 0) pe_int (fun _ _ => rfl)) pa_nil)))))))), ?_⟩
  repeat walk_at "ew"
  exact k
inductive sp__law_far_right : List V → Hp → VK → XK → Prop
  | mk {H : Hp} {Q : VK} {E : XK} {a b : Addr} {x y x' y' d : Int} (h1 : H a = some (.tup [.int x, .int y])) (h2 : H b = some (.tup [.int x', .int y'])) (hd : d = mx (ab (x - x')) (ab (y - y'))) (k : ∀ H', Evo [] H H' → Q (.bl true) H') : sp__law_far_right [.ref a, .ref b, .int d] H Q E
set_option maxHeartbeats 1000000 in
theorem ok__law_far_right (T : Tx K mg) : FnOk P w K mg base CX0 2 T.a__law_far_right T.d__law_far_right ["_law_one", "_law_other", "_law_due"] sp__law_far_right := by
  refine T.F__law_far_right.ok sc__law_far_right (fun vs H Q E h => by cases h; rfl) (fun cdv A outer s H vs Q E hr h => ?_)
  obtain @⟨_, _, _, a, b, x, y, x', y', d, h1, h2, hd, k⟩ := h
  refine ⟨_, (pss_cons (ps_for PassesOwn.never rfl (pi_list (pe_lst (pa_cons (pe_tup (pa_cons (pv 0) (pa_cons (pv 1) pa_nil))) (pa_cons (pe_tup (pa_cons (pv 1) (pa_cons (pv 0) pa_nil))) pa_nil)))) (pg_tup (by rfl) (pgs_cons (pg_name (i := 3) sc__law_far_right.nd rfl (.inl rfl)) (pgs_cons (pg_name (i := 4) sc__law_far_right.nd rfl (.inl rfl)) pgs_nil)))
      (pss_cons (ps_set (i := 5) sc__law_far_right.nd rfl (Or.inl rfl) (pe_call (ok_far T) (hr.mono (by decide)) rfl T.g_far T.F_far.kp T.b_far .nil pass0 (pa_cons (pv 3) (pa_cons (pv 4) pa_nil))))
      (pss_one (ps_if (PW.pt (pw_or (pt_not (pt_val (pe_call (ok__law_is_whole T) (hr.mono (by decide)) rfl T.g__law_is_whole T.F__law_is_whole.kp T.b__law_is_whole .nil pass0 (pa_cons (pv 5) pa_nil)))) (pw_or1 (pt_cmpR Ew.op_neI (pv 5) (pv 2) (nomark _))))) (pss_one (ps_ret pe_bl)) pss_nil))))
      (pss_one (ps_ret (pe_and (pe_cmpR Ew.op_eqI (pe_call (ok_far T) (hr.mono (by decide)) rfl T.g_far T.F_far.kp T.b_far .nil pass0 (pa_cons (pv 0) (pa_cons (pv 0) pa_nil))) pe_int (nomark _)) (pe_one (pe_cmpR Ew.op_eqI (pe_call (ok_far T) (hr.mono (by decide)) rfl T.g_far T.F_far.kp T.b_far .nil pass0 (pa_cons (pv 1) (pa_cons (pv 1) pa_nil))) pe_int (nomark _))))))), ?_⟩
  repeat walk_at "ew"
  rename_i p hp q hq l hl
  refine ⟨⟨_, SqL.of upd_same⟩, for_list (K := K) (a := l) (xs := [.ref p, .ref q]) (fun i σ H' => ∃ u3 u4 u5, σ = [some (.ref a), some (.ref b), some (.int d), u3, u4, u5] ∧ H' l = some (.lst [.ref p, .ref q]) ∧ H' p = some (.tup [.ref a, .ref b]) ∧ H' q = some (.tup [.ref b, .ref a]) ∧ Evo [] H H') ?_ ?_ ?_ ?_⟩
  · exact ⟨_, _, _, rfl, upd_same, by walk_at "ewtup", by walk_at "ewtup", by walk_at "ewevo"⟩
  · rintro i σ H' _ ⟨_, _, _, rfl, g, _⟩
    exact SqL.of g
  · rintro i z σ H' hz ⟨u3, u4, u5, rfl, g1, g2, g3, gE⟩
    have ha := gE.tupE h1
    have hb := gE.tupE h2
    match i, hz with
    | 0, hz =>
      cases hz
      repeat walk_at "ew"
      refine iteN (fun h => absurd hd.symm h) (fun _ => ?_)
      exact ⟨_, _, _, rfl, g1, g2, g3, gE⟩
    | 1, hz =>
      cases hz
      repeat walk_at "ew"
      refine iteN (fun h => absurd (by rw [hd]; simp only [mx, ab]; repeat' split
                                       all_goals omega) h) (fun _ => ?_)
      exact ⟨_, _, _, rfl, g1, g2, g3, gE⟩
  · rintro σ H' ⟨u3, u4, u5, rfl, g1, g2, g3, gE⟩
    have ha := gE.tupE h1
    have hb := gE.tupE h2
    repeat walk_at "ew"
    refine iteD (fun _ => ?_) (fun h => absurd (by simp only [mx, ab]; repeat' split
                                                   all_goals omega) h)
    repeat walk_at "ew"
    refine Qeq (Q := Q) (congrArg V.bl ?_) (k _ gE)
    refine (decide_eq_true ?_).symm
    simp only [mx, ab]
    repeat' split
    all_goals omega
end
end
section
local macro_rules | `(tactic| walk_at "ewc") => `(tactic| first
  | (show (0 : Int) < _; omega)
  | (show (0 : Int) < _; decide)
  | (refine ⟨?_, ?_⟩ <;> omega)
  | exact Or.inl ⟨by omega, by omega⟩
  | exact Or.inr ⟨by omega, by omega⟩)
local macro_rules | `(tactic| walk_at "ewar") => `(tactic| first
  | omega
  | (simp only [Ew.ab]; repeat' split
     all_goals omega))
local macro_rules | `(tactic| walk_at "ewtup") => `(tactic| first
  | assumption
  | exact upd_same
  | (refine' Ew.get_new ?ew1 ?ew2; (case ew1 => assumption); (case ew2 => walk_at "ewtup"))
  | (refine' Ew.getI_mut ?ew1 ?ew2 rfl; (case ew1 => walk_at "ewlst"); (case ew2 => walk_at "ewtup"))
  | (refine' Ew.getI_mutD ?ew1 ?ew2 rfl; (case ew1 => assumption); (case ew2 => walk_at "ewtup"))
  | (refine' Ew.Evo.getI ?ew1 ?ew2 rfl; (case ew1 => assumption); (case ew2 => walk_at "ewtup")))
local macro_rules | `(tactic| walk_at "ewlst") => `(tactic| first
  | assumption
  | exact upd_same
  | (refine' Ew.get_new ?ew1 ?ew2; (case ew1 => assumption); (case ew2 => walk_at "ewlst"))
  | (refine' Ew.get_ne ?ew1 ?ew2; (case ew1 => assumption); (case ew2 => walk_at "ewlst"))
  | (refine' Ew.Evo.get ?ew1 ?ew2 ?ew3; (case ew1 => assumption); (case ew2 => walk_at "ewoff"); (case ew3 => walk_at "ewlst")))
local macro_rules | `(tactic| walk_at "ewoff") => `(tactic| first
  | assumption
  | exact List.not_mem_nil
  | (refine' Ew.Deck.off' ?ew1 ?ew2; (case ew1 => assumption); (case ew2 => walk_at "ewdeck")))
local macro_rules | `(tactic| walk_at "ewdeck") => `(tactic| first
  | assumption
  | (refine' Ew.Deck.new ?ew1 ?ew2; (case ew2 => assumption); (case ew1 => walk_at "ewdeck"))
  | (refine' Ew.Deck.mut ?ew1 ?ew2; (case ew2 => walk_at "ewoff"); (case ew1 => walk_at "ewdeck"))
  | (refine' Ew.Deck.evo0 ?ew1 ?ew2; (case ew2 => assumption); (case ew1 => walk_at "ewdeck")))
local macro_rules | `(tactic| walk_at "ewevo") => `(tactic| first
  | assumption
  | exact Ew.Evo.refl _ _
  | (refine' Ew.Evo.new ?ew1 ?ew2; (case ew2 => assumption); (case ew1 => walk_at "ewevo"))
  | (refine' Ew.Evo.mut ?ew1 ?ew2; (case ew2 => assumption); (case ew1 => walk_at "ewevo"))
  | (refine' Ew.Evo.trans ?ew1 ?ew2; (case ew2 => assumption); (case ew1 => walk_at "ewevo"))
  | (refine' Ew.Evo.call0 ?ew1 ?ew2; (case ew2 => assumption); (case ew1 => walk_at "ewevo")))
local macro_rules | `(tactic| walk_at "ewlen") => `(tactic| first
  | exact Nat.le_of_ble_eq_true rfl
  | omega
  | (simp only [List.length_map, List.length_append, List.length_cons, List.length_nil]; omega))
local macro_rules | `(tactic| walk_at "ewcall") => `(tactic| fail)
local macro_rules | `(tactic| walk_at "ew") => `(tactic| first
  | walk_at "ewcall"
  | refine ⟨_, rfl, ?_⟩
  | refine iteT ?_
  | refine iteF ?_
  | refine ⟨_, _, rfl, rfl, ?_⟩
  | (refine' Ew.ixT (SqT.of ?ew1) ?ew2 ?_; (case ew1 => walk_at "ewtup"); (case ew2 => rfl))
  | (refine' Ew.ixL (SqL.of ?ew1) ?ew2 ?_; (case ew1 => walk_at "ewlst"); (case ew2 => rfl))
  | (refine' ⟨_, ?_, rfl, SqT.of ?ew1, ?ew2, ?_⟩; (case ew1 => walk_at "ewtup"); (case ew2 => rfl))
  | (refine' ⟨_, ?_, rfl, SqL.of ?ew1, ?ew2, ?_⟩; (case ew1 => walk_at "ewlst"); (case ew2 => rfl))
  | refine ⟨_, _, rfl, ?_⟩
  | (refine' ⟨_, ?_, rfl, Or.inr (SqT.of ?ew1), rfl, ?ew2, ?_⟩; (case ew1 => walk_at "ewtup"); (case ew2 => rfl))
  | refine Or.inr ⟨_, rfl, ?_⟩
  | (refine' Ew.ixQ ?ew1 ?ew2 ?_; (case ew1 => first | assumption | exact Or.inl (by walk_at "ewlst") | exact Or.inr (by walk_at "ewtup")); (case ew2 => rfl))
  | refine ⟨_, _, _, rfl, fun m hm h1 h2 h3 => ?_⟩
  | refine ⟨_, _, _, _, rfl, fun m hm h1 h2 h3 h4 => ?_⟩
  | refine ⟨_, _, _, _, _, rfl, fun m hm h1 h2 h3 h4 h5 => ?_⟩
  | (refine' ⟨_, ?_, ?_, rfl, SqL.of ?ew1, ?ew2, fun p hp => ?_⟩; (case ew1 => walk_at "ewlst"); (case ew2 => first | exact Ew.cut_lo2 | exact Ew.cut_hi2))
  | (refine' ⟨_, ?_, ?_, rfl, SqT.of ?ew1, ?ew2, ?ew3, fun p hp => ?_⟩; (case ew1 => walk_at "ewtup"); (case ew2 => first | exact Ew.cut_lo2 | exact Ew.cut_hi2); (case ew3 => exact Nat.lt_of_ble_eq_true rfl))
  | refine ⟨rfl, rfl, ?_⟩
  | refine ⟨rfl, ?_⟩
  | refine Ew.ii_ii ?_
  | refine Ew.ii_ib ?_
  | refine Ew.ii_bb ?_
  | (refine' Ew.ii_tt ?ew1 ?_; (case ew1 => walk_at "ewtup"))
  | refine ⟨Ew.sz (Nat.le_of_ble_eq_true rfl), fun p hp => ?_⟩
  | (refine' ⟨_, ?_, ?_, rfl, SqT.of ?ew1, fun p hp => ?_⟩; (case ew1 => walk_at "ewtup"))
  | (refine' ⟨Or.inl ⟨rfl, ?_, SqL.of ?ew1⟩, ?_⟩; (case ew1 => walk_at "ewlst"))
  | (refine' Ew.apd ?ew1 ?ew2 ?_; (case ew1 => walk_at "ewlst"); (case ew2 => walk_at "ewlen"))
  | (refine' ⟨?_, Ew.eqT ?ew1 ?ew2 ?ew3 ?ew4, ?_⟩; (case ew1 => walk_at "ewtup"); (case ew2 => walk_at "ewtup"); (case ew3 => rfl); (case ew4 => rfl))
  | (refine' Ew.lenT (SqT.of ?ew1) ?_; (case ew1 => walk_at "ewtup"))
  | (refine' Ew.lenL (SqL.of ?ew1) ?_; (case ew1 => walk_at "ewlst"))
  | refine ⟨by walk_at "ewc", ?_⟩
  | (refine' Ew.ixB (SqL.of ?ew1) (fun hb => ?_) (fun hb => ?_); (case ew1 => walk_at "ewlst")))
theorem far_spots {g x y x' y' : Int} (hg : 1 ≤ g) : g * (ab (x - x') + ab (y - y')) = mx (ab (g * (x + y) - g * (x' + y'))) (ab (g * (x - y) - g * (x' - y'))) := by
  have e1 : g * (x + y) - g * (x' + y') = g * (x - x') + g * (y - y') := by
    rw [← Int.mul_sub, ← Int.mul_add]; congr 1; omega
  have e2 : g * (x - y) - g * (x' - y') = g * (x - x') - g * (y - y') := by
    rw [← Int.mul_sub, ← Int.mul_sub]; congr 1; omega
  rw [e1, e2, Int.mul_add]
  have pos : ∀ z : Int, (0 ≤ z ∧ 0 ≤ g * z ∧ g * ab z = g * z) ∨ (z < 0 ∧ g * z ≤ 0 ∧ g * ab z = -(g * z)) := by
    intro z
    by_cases h : z < 0
    · right
      refine ⟨h, ?_, ?_⟩
      · have := Int.mul_nonneg (show 0 ≤ g by omega) (show 0 ≤ -z by omega)
        rw [Int.mul_neg] at this
        omega
      · simp only [ab, h, if_true]
        rw [Int.mul_neg]
    · left
      refine ⟨by omega, Int.mul_nonneg (by omega) (by omega), ?_⟩
      simp only [ab, h, if_false]
  rcases pos (x - x') with ⟨_, a1, a2⟩ | ⟨_, a1, a2⟩ <;> rcases pos (y - y') with ⟨_, b1, b2⟩ | ⟨_, b1, b2⟩ <;> rw [a2, b2] <;> generalize g * (x - x') = p at * <;> generalize g * (y - y') = q at * <;> simp only [mx, ab] <;> (repeat' split) <;> omega
theorem due_spot (g x y : Int) : [g * (x + y), g * (x - y)] = [g * x + g * y, g * x - g * y] := by rw [Int.mul_add, Int.mul_sub]
section
variable {P : Program} {w : World} {K : PySem.W.Frag} {mg : Str → Option Value} {base : Heap}
local macro_rules | `(tactic| walk_at "ewcall") => `(tactic| first
  | (refine' sp__law_draw.mk ?ew1 ?ew2 ?ew3 ?_; (case ew1 => walk_at "ewdeck"); (case ew2 => omega); (case ew3 => omega))
  | (refine' sp__law_wide_draw.mk ?ew1 ?ew2 ?_; (case ew1 => walk_at "ewdeck"); (case ew2 => omega))
  | (refine' sp__law_place.mk ?ew1 ?_; (case ew1 => walk_at "ewdeck"))
  | (refine' sp_spot_of.mk ?ew1 ?ew2 ?_; (case ew1 => omega); (case ew2 => omega))
  | (refine' sp__law_is_spot.mk ?ew1 ?_; (case ew1 => walk_at "ewtup")))
def sp_law (K : PySem.W.Frag) : Sp := fun vs H Q _ => ∃ (a : Addr) (ns : List Int), vs = [.ref a] ∧ SqL K H a (ns.map V.int) ∧ ns.length ≤ 63 ∧ ∀ H', Q (.bl true) H'
set_option maxHeartbeats 4000000 in
theorem ok_law (T : Tx K mg) : FnOk P w K mg base CX0 4 T.a_law T.d_law ["_law_script"] (sp_law K) := by
  refine T.F_law.ok sc_law (fun vs H Q E h => ?_) (fun cdv A outer s H vs Q E hr h => ?_)
  · obtain ⟨a, ns, rfl, _⟩ := h
    rfl
  obtain ⟨a, ns, rfl, hS, hn, k⟩ := h
  refine ⟨_, (pss_cons (ps_set (i := 1) sc_law.nd rfl (Or.inr rfl) (pe_call (ok__law_deck T) (hr.mono (by decide)) rfl T.g__law_deck T.F__law_deck.kp T.b__law_deck .nil pass0 (pa_cons (pv 0) pa_nil)))
      (pss_cons (ps_for PassesOwn.never rfl (pi_range1 (by rfl) T.n_range (pa_cons (pe_op op_add pe_int (pe_call (ok__law_draw T) (hr.mono (by decide)) rfl T.g__law_draw T.F__law_draw.kp T.b__law_draw .nil pass0 (pa_cons (pv 1) (pa_cons pe_int pa_nil)))) pa_nil)) (pg_name (i := 2) sc_law.nd rfl (.inl rfl))
      (pss_cons (ps_set (i := 3) sc_law.nd rfl (Or.inl rfl) (pe_cmpR Ew.op_eqI (pe_call (ok__law_draw T) (hr.mono (by decide)) rfl T.g__law_draw T.F__law_draw.kp T.b__law_draw .nil pass0 (pa_cons (pv 1) (pa_cons pe_int pa_nil))) pe_int (nomark _)))
      (pss_cons (ps_set (i := 4) sc_law.nd rfl (Or.inl rfl) (pe_ix (r := rIxL K) ix_list (pe_lst (pa_cons pe_int (pa_cons pe_int (pa_cons pe_int (pa_cons pe_int pa_nil))))) (pe_call (ok__law_draw T) (hr.mono (by decide)) rfl T.g__law_draw T.F__law_draw.kp T.b__law_draw .nil pass0 (pa_cons (pv 1) (pa_cons pe_int pa_nil))) (fun _ _ => rfl)))
      (C8.pss_cut (ps_if (pt_cmpR Ew.op_eqI (pv 4) pe_int (nomark _)) (pss_one (ps_set (i := 4) sc_law.nd rfl (Or.inl rfl) (pe_op op_add pe_int (pe_call (ok__law_draw T) (hr.mono (by decide)) rfl T.g__law_draw T.F__law_draw.kp T.b__law_draw .nil pass0 (pa_cons (pv 1) (pa_cons pe_int pa_nil)))))) pss_nil)
      (pss_cons (ps_set (i := 5) sc_law.nd rfl (Or.inl rfl) (pe_call (ok__law_place T) (hr.mono (by decide)) rfl T.g__law_place T.F__law_place.kp T.b__law_place .nil pass0 (pa_cons (pv 1) pa_nil)))
      (pss_cons (ps_set (i := 6) sc_law.nd rfl (Or.inl rfl) (pe_call (ok__law_place T) (hr.mono (by decide)) rfl T.g__law_place T.F__law_place.kp T.b__law_place .nil pass0 (pa_cons (pv 1) pa_nil)))
      (C8.pss_cut (ps_if (pt_val (pv 3)) (pss_one (ps_set (i := 6) sc_law.nd rfl (Or.inl rfl) (pv 5))) pss_nil)
      (pss_cons (ps_set (i := 7) sc_law.nd rfl (Or.inl rfl) (pe_lst pa_nil))
      (pss_cons (ps_for PassesOwn.never rfl (pi_list (pe_lst (pa_cons (pv 5) (pa_cons (pv 6) pa_nil)))) (pg_tup (by rfl) (pgs_cons (pg_name (i := 8) sc_law.nd rfl (.inl rfl)) (pgs_cons (pg_name (i := 9) sc_law.nd rfl (.inl rfl)) pgs_nil)))
      (pss_cons (ps_set (i := 10) sc_law.nd rfl (Or.inl rfl) (pe_call (ok_spot_of T) (hr.mono (by decide)) rfl T.g_spot_of T.F_spot_of.kp T.b_spot_of .nil pass0 (pa_cons (pv 4) (pa_cons (pv 8) (pa_cons (pv 9) pa_nil)))))
      (pss_cons (ps_set (i := 11) sc_law.nd rfl (Or.inl rfl) (pe_tup (pa_cons (pe_op op_add (pe_op op_mul (pv 4) (pv 8)) (pe_op op_mul (pv 4) (pv 9))) (pa_cons (pe_op op_sub (pe_op op_mul (pv 4) (pv 8)) (pe_op op_mul (pv 4) (pv 9))) pa_nil))))
      (pss_cons (ps_if (PW.pt (pw_or (pt_not (pt_val (pe_call (ok__law_is_spot T) (hr.mono (by decide)) rfl T.g__law_is_spot T.F__law_is_spot.kp T.b__law_is_spot .nil pass0 (pa_cons (pv 10) pa_nil)))) (pw_or1 (pt_cmpR (r := Ew.rNeX K) (Ew.op_neX hr.units) (pv 10) (pv 11) (nomark _))))) (pss_one (ps_ret pe_bl)) pss_nil)
      (pss_cons (ps_if (pt_cmpR (r := Ew.rNeX K) (Ew.op_neX hr.units) (pe_call (ok_spot_of T) (hr.mono (by decide)) rfl T.g_spot_of T.F_spot_of.kp T.b_spot_of .nil pass0 (pa_cons (pv 4) (pa_cons (pv 8) (pa_cons (pv 9) pa_nil)))) (pv 10) (nomark _)) (pss_one (ps_ret pe_bl)) pss_nil)
      (pss_one (ps_expr (pe_bm PySem.F.plainAttrs_list PySem.F.slot_list_append PySem.F.type_list_append mt_append (pv 7) (pa_cons (pv 10) pa_nil)))))))))
      (pss_cons (ps_set (i := 12) sc_law.nd rfl (Or.inl rfl) (pe_op op_add (pe_callB call_abs (by rfl) T.n_abs (by decide +kernel) (pa_cons (pe_op op_sub (pe_ix (r := rIxT K) ix_tup (pv 5) pe_int (fun _ _ => rfl)) (pe_ix (r := rIxT K) ix_tup (pv 6) pe_int (fun _ _ => rfl))) pa_nil)) (pe_callB call_abs (by rfl) T.n_abs (by decide +kernel) (pa_cons (pe_op op_sub (pe_ix (r := rIxT K) ix_tup (pv 5) pe_int (fun _ _ => rfl)) (pe_ix (r := rIxT K) ix_tup (pv 6) pe_int (fun _ _ => rfl))) pa_nil))))
      (pss_cons (ps_if (pt_not (pt_val (pe_call (ok__law_far_right T) (hr.mono (by decide)) rfl T.g__law_far_right T.F__law_far_right.kp T.b__law_far_right .nil pass0 (pa_cons (pe_ix (r := rIxL K) ix_list (pv 7) pe_int (fun _ _ => rfl)) (pa_cons (pe_ix (r := rIxL K) ix_list (pv 7) pe_int (fun _ _ => rfl)) (pa_cons (pe_op op_mul (pv 4) (pv 12)) pa_nil)))))) (pss_one (ps_ret pe_bl)) pss_nil)
      (pss_cons (ps_setLc (i := 13) (own := [("_law_k", 14)]) (g := gName 14) rfl sc_law.nd rfl rfl (sw_true rfl rfl rfl (by decide +kernel)) (pi_range1 (by rfl) T.n_range (pa_cons pe_int pa_nil)) (blkOk_by (N := N_law) (sc := defScope s_law) (by decide +kernel)) (fun _ _ _ _ _ => (pg_name (i := 14) sc_law.nd rfl (.inl rfl))) (fun _ _ _ _ _ => pts_nil) (fun _ _ _ _ _ => (pe_op op_sub (pe_call (ok__law_wide_draw T) (hr.mono (by decide)) rfl T.g__law_wide_draw T.F__law_wide_draw.kp T.b__law_wide_draw .nil pass0 (pa_cons (pv 1) (pa_cons (pe_op op_add (pe_op op_mul pe_int (pe_op (Ew.op_powC 10 12 1000000000000) pe_int pe_int)) pe_int) pa_nil))) (pe_op (Ew.op_powC 10 12 1000000000000) pe_int pe_int))))
      (pss_cons (ps_if (pt_not (pt_val (pe_call (ok__law_far_right T) (hr.mono (by decide)) rfl T.g__law_far_right T.F__law_far_right.kp T.b__law_far_right .nil pass0 (pa_cons (pe_tup (pa_cons (pe_ix (r := rIxL K) ix_list (pv 13) pe_int (fun _ _ => rfl)) (pa_cons (pe_ix (r := rIxL K) ix_list (pv 13) pe_int (fun _ _ => rfl)) pa_nil))) (pa_cons (pe_tup (pa_cons (pe_ix (r := rIxL K) ix_list (pv 13) pe_int (fun _ _ => rfl)) (pa_cons (pe_ix (r := rIxL K) ix_list (pv 13) pe_int (fun _ _ => rfl)) pa_nil))) (pa_cons (pe_call (ok__law_far T) (hr.mono (by decide)) rfl T.g__law_far T.F__law_far.kp T.b__law_far .nil pass0 (pa_cons (pe_slice (r := Ew.rSlE K) Ew.sl_listE (pv 13) po_none (po_some pe_int)) (pa_cons (pe_slice (r := Ew.rSlE K) Ew.sl_listE (pv 13) (po_some pe_int) po_none) pa_nil))) pa_nil)))))) (pss_one (ps_ret pe_bl)) pss_nil)
      (pss_one (ps_if (pt_not (pt_val (pe_call (ok__law_far_right T) (hr.mono (by decide)) rfl T.g__law_far_right T.F__law_far_right.kp T.b__law_far_right .nil pass0 (pa_cons (pe_ix (r := rIxL K) ix_list (pv 7) pe_int (fun _ _ => rfl)) (pa_cons (pe_tup (pa_cons (pe_ix (r := rIxL K) ix_list (pv 13) pe_int (fun _ _ => rfl)) (pa_cons (pe_ix (r := rIxL K) ix_list (pv 13) pe_int (fun _ _ => rfl)) pa_nil))) (pa_cons (pe_call (ok__law_far T) (hr.mono (by decide)) rfl T.g__law_far T.F__law_far.kp T.b__law_far .nil pass0 (pa_cons (pe_ix (r := rIxL K) ix_list (pv 7) pe_int (fun _ _ => rfl)) (pa_cons (pe_slice (r := Ew.rSlE K) Ew.sl_listE (pv 13) (po_some pe_int) po_none) pa_nil))) pa_nil)))))) (pss_one (ps_ret pe_bl)) pss_nil)))))))))))))))
      (pss_one (ps_ret pe_bl)))), ?_⟩
  refine ⟨_, rfl, sp__law_deck.mk hS hn (fun H1 dk c hD1 _ _ _ => ?_)⟩
  repeat walk_at "ew"
  intro H2 r r0 r1 hD2 _
  repeat walk_at "ew"
  refine ⟨by omega, by omega, for_range (n := (1 + r).toNat) (fun i σ H' => ∃ u2 u3 u4 u5 u6 u7 u8 u9 u10 u11 u12 u13 u14, σ = [some (.ref a), some (.ref dk), u2, u3, u4, u5, u6, u7, u8, u9, u10, u11, u12, u13, u14] ∧ Deck H' dk c)
    ⟨_, _, _, _, _, _, _, _, _, _, _, _, _, rfl, hD2⟩ ?_ ?_⟩
  · rintro i σ H3 hi ⟨u2, u3, u4, u5, u6, u7, u8, u9, u10, u11, u12, u13, u14, rfl, hD3⟩
    repeat walk_at "ew"
    intro H4 q q0 q1 hD4 _
    repeat walk_at "ew"
    rename_i l4 hl4
    intro H5 z z0 z1 hD5 e5
    refine ixI (SqL.of (by walk_at "ewlst")) (by rfl) z0 (by exact z1) (fun g hg => ?_)
    simp only [List.mem_cons, List.not_mem_nil, or_false] at hg
    -- if grain == 0
    refine ⟨fun σ H' => ∃ g : Int, 1 ≤ g ∧ g ≤ 1000 ∧ σ = [some (.ref a), some (.ref dk), some (.int (0 + i)), some (.bl (decide (q = 3))), some (.int g), u5, u6, u7, u8, u9, u10, u11, u12, u13, u14] ∧ Deck H' dk c, ?_, ?_⟩
    · repeat walk_at "ew"
      refine iteD (fun _ => ?_) (fun h => ?_)
      · repeat walk_at "ew"
        intro H6 z6 z60 z61 hD6 _
        repeat walk_at "ew"
        exact ⟨_, by omega, by omega, rfl, hD6⟩
      · exact ⟨g, by omega, by omega, rfl, hD5⟩
    rintro σ H6 ⟨g, g0, g1, rfl, hD6⟩
    repeat walk_at "ew"
    intro H7 p1 x y hp1 bx bY hD7 _
    repeat walk_at "ew"
    intro H8 p2 x' y' hp2 bx' bY' hD8 e8
    have hp1' := e8.tupE hp1
    -- if alike
    refine ⟨fun σ H' => ∃ p2 x' y', H' = H8 ∧ H8 p2 = some (.tup [.int x', .int y']) ∧ σ = [some (.ref a), some (.ref dk), some (.int (0 + i)), some (.bl (decide (q = 3))), some (.int g), some (.ref p1), some (.ref p2), u7, u8, u9, u10, u11, u12, u13, u14], ?_, ?_⟩
    · repeat walk_at "ew"
      refine iteD (fun _ => ?_) (fun _ => ?_)
      · repeat walk_at "ew"
        exact ⟨_, _, _, rfl, hp1', rfl⟩
      · exact ⟨_, _, _, rfl, hp2, rfl⟩
    clear hp2
    rintro σ H9 ⟨p2, x', y', rfl, hp2, rfl⟩
    clear e8 hD7
    repeat walk_at "ew"
    rename_i l hl l0 hl0
    have ol := hD8.off hl
    have nl : l0 ≠ l := fun e => by rw [e, upd_same] at hl0; cases hl0
    refine ⟨⟨_, SqL.of upd_same⟩, for_list (K := K) (a := l0) (xs := [.ref p1, .ref p2]) (fun j σ H' => ∃ v8 v9 v10 v11, σ = [some (.ref a), some (.ref dk), some (.int (0 + i)), some (.bl (decide (q = 3))), some (.int g), some (.ref p1), some (.ref p2), some (.ref l), v8, v9, v10, v11, u12, u13, u14] ∧
      Deck H' dk c ∧ H' l0 = some (.lst [.ref p1, .ref p2]) ∧ H' p1 = some (.tup [.int x, .int y]) ∧ H' p2 = some (.tup [.int x', .int y']) ∧
      match j with
      | 0 => H' l = some (.lst [])
      | 1 => ∃ s1, H' l = some (.lst [.ref s1]) ∧ H' s1 = some (.tup [.int (g * (x + y)), .int (g * (x - y))])
      | _ => ∃ s1 s2, H' l = some (.lst [.ref s1, .ref s2]) ∧ H' s1 = some (.tup [.int (g * (x + y)), .int (g * (x - y))]) ∧ H' s2 = some (.tup [.int (g * (x' + y')), .int (g * (x' - y'))])) ?_ ?_ ?_ ?_⟩
    · exact ⟨_, _, _, _, rfl, by walk_at "ewdeck", upd_same, by walk_at "ewtup", by walk_at "ewtup", get_new hl0 upd_same⟩
    · rintro j σ H' _ ⟨_, _, _, _, rfl, _, g1, _⟩
      exact SqL.of g1
    · rintro j zz σ H' hz ⟨v8, v9, v10, v11, rfl, gD, gl0, gp1, gp2, hm⟩
      match j, hz, hm with
      | 0, hz, hm =>
        cases hz
        have hm' : H' l = some (.lst []) := hm
        repeat walk_at "ew"
        intro s1 hs1
        repeat walk_at "ew"
        rename_i d1 hd1
        repeat walk_at "ew"
        refine iteN (fun h => absurd (due_spot _ _ _) h) (fun _ => ?_)
        repeat walk_at "ew"
        intro s2 hs2
        repeat walk_at "ew"
        refine iteN (fun h => absurd (by rfl) h) (fun _ => ?_)
        repeat walk_at "ew"
        exact ⟨_, _, _, _, rfl, by walk_at "ewdeck", by walk_at "ewlst", by walk_at "ewtup", by walk_at "ewtup", s1, upd_same, by walk_at "ewtup"⟩
      | 1, hz, hm =>
        cases hz
        obtain ⟨s0, hm', hs0⟩ := hm
        repeat walk_at "ew"
        intro s1 hs1
        repeat walk_at "ew"
        rename_i d1 hd1
        repeat walk_at "ew"
        refine iteN (fun h => absurd (due_spot _ _ _) h) (fun _ => ?_)
        repeat walk_at "ew"
        intro s2 hs2
        repeat walk_at "ew"
        refine iteN (fun h => absurd (by rfl) h) (fun _ => ?_)
        repeat walk_at "ew"
        exact ⟨_, _, _, _, rfl, by walk_at "ewdeck", by walk_at "ewlst", by walk_at "ewtup", by walk_at "ewtup", s0, s1, upd_same, by walk_at "ewtup", by walk_at "ewtup"⟩
    · rintro σ H' ⟨v8, v9, v10, v11, rfl, gD, gl0, gp1, gp2, s1, s2, g5, g6, g7⟩
      clear hl hl0
      repeat walk_at "ew"
      refine sp__law_far_right.mk (by walk_at "ewtup") (by walk_at "ewtup") (far_spots g0) (fun H10 e10 => ?_)
      have hD10 : Deck H10 dk c := gD.evo0 e10
      repeat walk_at "ew"
      have g5' := e10.get List.not_mem_nil g5
      have g6' := e10.tupE g6
      clear g5 g6 g7 gl0 gp1 gp2 e10 gD hp1' hp2
      refine ⟨by decide, by decide, fun D hDn => lc_range (lo := 0) (n := 4) (fun j H' => ∃ ws : List Int, ws.length = j ∧ H' D = some (.lst (ws.map V.int)) ∧ Deck H' dk c ∧ H' l = some (.lst [.ref s1, .ref s2]) ∧ H' s1 = some (.tup [.int (g * (x + y)), .int (g * (x - y))])) ?_ ?_ ?_⟩
      · exact ⟨[], rfl, upd_same, hD10.new hDn, get_new hDn g5', get_new hDn g6'⟩
      · rintro j H11 hj ⟨ws, hw, hD11, hDk, hl11, hs11⟩
        have oD := hD10.off hDn
        have nlD : l ≠ D := ne_of_none g5' hDn
        repeat walk_at "ew"
        intro H12 z12 z120 z121 hD12 e12
        repeat walk_at "ew"
        have hDD : H12 D = some (.lst (ws.map V.int)) := by walk_at "ewlst"
        refine ⟨_, hDD, szl (by rw [List.length_map]; omega), ws ++ [_], by rw [List.length_append, hw]; rfl, by rw [upd_same, List.map_append]; rfl, by walk_at "ewdeck", by walk_at "ewlst", by walk_at "ewtup"⟩
      · rintro H11 ⟨ws, hw, hD11, hDk, hl11, hs11⟩
        match ws, hw with
        | [w1, w2, w3, w4], _ =>
          have hD11' : H11 D = some (.lst [.int w1, .int w2, .int w3, .int w4]) := hD11
          clear hD11
          repeat walk_at "ew"
          rename_i t1 ht1 t2 ht2 t3 ht3 t4 ht4
          refine sp__law_far.mk (Or.inl (by walk_at "ewlst")) (Or.inl (by walk_at "ewlst")) ?_
          repeat walk_at "ew"
          refine sp__law_far_right.mk (by walk_at "ewtup") (by walk_at "ewtup") rfl (fun H12 e12 => ?_)
          have hl12 : H12 l = some (.lst [.ref s1, .ref s2]) := e12.get List.not_mem_nil (by walk_at "ewlst")
          have hs12 : H12 s1 = some (.tup [.int (g * (x + y)), .int (g * (x - y))]) := by walk_at "ewtup"
          have hDk12 : Deck H12 dk c := by walk_at "ewdeck"
          have hw12 : H12 D = some (.lst [.int w1, .int w2, .int w3, .int w4]) := e12.get List.not_mem_nil (by walk_at "ewlst")
          clear ht1 ht2 ht3 ht4 e12
          repeat walk_at "ew"
          refine sp__law_far.mk (Or.inr (by walk_at "ewtup")) (Or.inl (by walk_at "ewlst")) ?_
          repeat walk_at "ew"
          refine sp__law_far_right.mk (by walk_at "ewtup") (by walk_at "ewtup") rfl (fun H13 e13 => ?_)
          repeat walk_at "ew"
          exact ⟨_, _, _, _, _, _, _, _, _, _, _, _, _, rfl, by walk_at "ewdeck"⟩
  · rintro σ H3 ⟨u2, u3, u4, u5, u6, u7, u8, u9, u10, u11, u12, u13, u14, rfl, hD3⟩
    exact k _
end
end
theorem all_mk {l : PySem.W.OpenLaw} {w : World} {K : PySem.W.Frag} {h : Heap} {mg : Str → Option Value} {fa : Addr} (X : K.In h) (G : h.Ns mainGlobals mg) (hfa : mg "law" = some (.ref fa))
    {f0 f1 f2 f3 f4 f5 f6 f7 f8 f9 f10 f11 : Addr}
    {od0 an0 od1 an1 od2 an2 od3 an3 od4 an4 od5 an5 od6 an6 od7 an7 od8 an8 od9 an9 od10 an10 od11 an11 : Option Addr} {sl0 sl1 sl2 sl3 sl4 sl5 sl6 sl7 sl8 sl9 sl10 sl11 : Array (Option Value)} {oc0 kV0 dc0 pm0 cd0 ct0 oc1 kV1 dc1 pm1 cd1 ct1 oc2 kV2 dc2 pm2 cd2 ct2 oc3 kV3 dc3 pm3 cd3 ct3 oc4 kV4 dc4 pm4 cd4 ct4 oc5 kV5 dc5 pm5 cd5 ct5 oc6 kV6 dc6 pm6 cd6 ct6 oc7 kV7 dc7 pm7 cd7 ct7 oc8 kV8 dc8 pm8 cd8 ct8 oc9 kV9 dc9 pm9 cd9 ct9 oc10 kV10 dc10 pm10 cd10 ct10 oc11 kV11 dc11 pm11 cd11 ct11 : Value}
    (a0 : PySem.W.nsIn K mainGlobals "spot_of" = some (some (.ref f0))) (l0 : K.lookup f0 = some ⟨oc0, od0, .func (PySem.W.fnOf "spot_of" "spot_of" (defArgs s_spot_of) (defBody s_spot_of) (defScope s_spot_of) .none kV0 dc0 pm0 an0 cd0 ct0), sl0⟩) (c0 : PySem.W.codeIn K cd0 "spot_of" = true) (k0 : PySem.W.keepIn K (.ref f0) = true)
    (a1 : PySem.W.nsIn K mainGlobals "far" = some (some (.ref f1))) (l1 : K.lookup f1 = some ⟨oc1, od1, .func (PySem.W.fnOf "far" "far" (defArgs s_far) (defBody s_far) (defScope s_far) .none kV1 dc1 pm1 an1 cd1 ct1), sl1⟩) (c1 : PySem.W.codeIn K cd1 "far" = true) (k1 : PySem.W.keepIn K (.ref f1) = true)
    (a2 : PySem.W.nsIn K mainGlobals "_law_deck" = some (some (.ref f2))) (l2 : K.lookup f2 = some ⟨oc2, od2, .func (PySem.W.fnOf "_law_deck" "_law_deck" (defArgs s__law_deck) (defBody s__law_deck) (defScope s__law_deck) .none kV2 dc2 pm2 an2 cd2 ct2), sl2⟩) (c2 : PySem.W.codeIn K cd2 "_law_deck" = true) (k2 : PySem.W.keepIn K (.ref f2) = true)
    (a3 : PySem.W.nsIn K mainGlobals "_law_draw" = some (some (.ref f3))) (l3 : K.lookup f3 = some ⟨oc3, od3, .func (PySem.W.fnOf "_law_draw" "_law_draw" (defArgs s__law_draw) (defBody s__law_draw) (defScope s__law_draw) .none kV3 dc3 pm3 an3 cd3 ct3), sl3⟩) (c3 : PySem.W.codeIn K cd3 "_law_draw" = true) (k3 : PySem.W.keepIn K (.ref f3) = true)
    (a4 : PySem.W.nsIn K mainGlobals "_law_wide_draw" = some (some (.ref f4))) (l4 : K.lookup f4 = some ⟨oc4, od4, .func (PySem.W.fnOf "_law_wide_draw" "_law_wide_draw" (defArgs s__law_wide_draw) (defBody s__law_wide_draw) (defScope s__law_wide_draw) .none kV4 dc4 pm4 an4 cd4 ct4), sl4⟩) (c4 : PySem.W.codeIn K cd4 "_law_wide_draw" = true) (k4 : PySem.W.keepIn K (.ref f4) = true)
    (a5 : PySem.W.nsIn K mainGlobals "_law_number" = some (some (.ref f5))) (l5 : K.lookup f5 = some ⟨oc5, od5, .func (PySem.W.fnOf "_law_number" "_law_number" (defArgs s__law_number) (defBody s__law_number) (defScope s__law_number) .none kV5 dc5 pm5 an5 cd5 ct5), sl5⟩) (c5 : PySem.W.codeIn K cd5 "_law_number" = true) (k5 : PySem.W.keepIn K (.ref f5) = true)
    (a6 : PySem.W.nsIn K mainGlobals "_law_place" = some (some (.ref f6))) (l6 : K.lookup f6 = some ⟨oc6, od6, .func (PySem.W.fnOf "_law_place" "_law_place" (defArgs s__law_place) (defBody s__law_place) (defScope s__law_place) .none kV6 dc6 pm6 an6 cd6 ct6), sl6⟩) (c6 : PySem.W.codeIn K cd6 "_law_place" = true) (k6 : PySem.W.keepIn K (.ref f6) = true)
    (a7 : PySem.W.nsIn K mainGlobals "_law_is_whole" = some (some (.ref f7))) (l7 : K.lookup f7 = some ⟨oc7, od7, .func (PySem.W.fnOf "_law_is_whole" "_law_is_whole" (defArgs s__law_is_whole) (defBody s__law_is_whole) (defScope s__law_is_whole) .none kV7 dc7 pm7 an7 cd7 ct7), sl7⟩) (c7 : PySem.W.codeIn K cd7 "_law_is_whole" = true) (k7 : PySem.W.keepIn K (.ref f7) = true)
    (a8 : PySem.W.nsIn K mainGlobals "_law_is_spot" = some (some (.ref f8))) (l8 : K.lookup f8 = some ⟨oc8, od8, .func (PySem.W.fnOf "_law_is_spot" "_law_is_spot" (defArgs s__law_is_spot) (defBody s__law_is_spot) (defScope s__law_is_spot) .none kV8 dc8 pm8 an8 cd8 ct8), sl8⟩) (c8 : PySem.W.codeIn K cd8 "_law_is_spot" = true) (k8 : PySem.W.keepIn K (.ref f8) = true)
    (a9 : PySem.W.nsIn K mainGlobals "_law_far" = some (some (.ref f9))) (l9 : K.lookup f9 = some ⟨oc9, od9, .func (PySem.W.fnOf "_law_far" "_law_far" (defArgs s__law_far) (defBody s__law_far) (defScope s__law_far) .none kV9 dc9 pm9 an9 cd9 ct9), sl9⟩) (c9 : PySem.W.codeIn K cd9 "_law_far" = true) (k9 : PySem.W.keepIn K (.ref f9) = true)
    (a10 : PySem.W.nsIn K mainGlobals "_law_far_right" = some (some (.ref f10))) (l10 : K.lookup f10 = some ⟨oc10, od10, .func (PySem.W.fnOf "_law_far_right" "_law_far_right" (defArgs s__law_far_right) (defBody s__law_far_right) (defScope s__law_far_right) .none kV10 dc10 pm10 an10 cd10 ct10), sl10⟩) (c10 : PySem.W.codeIn K cd10 "_law_far_right" = true) (k10 : PySem.W.keepIn K (.ref f10) = true)
    (a11 : PySem.W.nsIn K mainGlobals "law" = some (some (.ref f11))) (l11 : K.lookup f11 = some ⟨oc11, od11, .func (PySem.W.fnOf "law" "law" (defArgs s_law) (defBody s_law) (defScope s_law) .none kV11 dc11 pm11 an11 cd11 ct11), sl11⟩) (c11 : PySem.W.codeIn K cd11 "law" = true) (k11 : PySem.W.keepIn K (.ref f11) = true)
    (z_max : PySem.W.nsIn K mainGlobals "max" = some none)
    (z_abs : PySem.W.nsIn K mainGlobals "abs" = some none)
    (z_list : PySem.W.nsIn K mainGlobals "list" = some none)
    (z_len : PySem.W.nsIn K mainGlobals "len" = some none)
    (z_int : PySem.W.nsIn K mainGlobals "int" = some none)
    (z_isinstance : PySem.W.nsIn K mainGlobals "isinstance" = some none)
    (z_bool : PySem.W.nsIn K mainGlobals "bool" = some none)
    (z_tuple : PySem.W.nsIn K mainGlobals "tuple" = some none)
    (z_range : PySem.W.nsIn K mainGlobals "range" = some none)
    : ∃ fd : FuncData, (∀ (s : Shared) (v : Value), BindsTo s fd ⟨[v], []⟩ [("_law_script", v)]) ∧ ∀ base : Heap, K.In base → base.Ns mainGlobals mg → FnOk l.prog w K mg base CX0 4 fa fd ["_law_script"] (sp_law K) := by
  have e := hfa.symm.trans (PySem.W.mg_of X G a11)
  cases e
  have F0 := fun_mk (st := s_spot_of) l0 c0 k0
  have F1 := fun_mk (st := s_far) l1 c1 k1
  have F2 := fun_mk (st := s__law_deck) l2 c2 k2
  have F3 := fun_mk (st := s__law_draw) l3 c3 k3
  have F4 := fun_mk (st := s__law_wide_draw) l4 c4 k4
  have F5 := fun_mk (st := s__law_number) l5 c5 k5
  have F6 := fun_mk (st := s__law_place) l6 c6 k6
  have F7 := fun_mk (st := s__law_is_whole) l7 c7 k7
  have F8 := fun_mk (st := s__law_is_spot) l8 c8 k8
  have F9 := fun_mk (st := s__law_far) l9 c9 k9
  have F10 := fun_mk (st := s__law_far_right) l10 c10 k10
  have F11 := fun_mk (st := s_law) l11 c11 k11
  have b0 := F0.binds (ps := ["grain", "x", "y"]) fun _ _ _ _ _ _ us hl => match us, hl with | [_, _, _], _ => rfl
  have b1 := F1.binds (ps := ["spot", "other"]) fun _ _ _ _ _ _ us hl => match us, hl with | [_, _], _ => rfl
  have b2 := F2.binds (ps := ["_law_script"]) fun _ _ _ _ _ _ us hl => match us, hl with | [_], _ => rfl
  have b3 := F3.binds (ps := ["_law_deck_here", "_law_many"]) fun _ _ _ _ _ _ us hl => match us, hl with | [_, _], _ => rfl
  have b4 := F4.binds (ps := ["_law_deck_here", "_law_many"]) fun _ _ _ _ _ _ us hl => match us, hl with | [_, _], _ => rfl
  have b5 := F5.binds (ps := ["_law_deck_here", "_law_way"]) fun _ _ _ _ _ _ us hl => match us, hl with | [_, _], _ => rfl
  have b6 := F6.binds (ps := ["_law_deck_here"]) fun _ _ _ _ _ _ us hl => match us, hl with | [_], _ => rfl
  have b7 := F7.binds (ps := ["_law_thing"]) fun _ _ _ _ _ _ us hl => match us, hl with | [_], _ => rfl
  have b8 := F8.binds (ps := ["_law_thing"]) fun _ _ _ _ _ _ us hl => match us, hl with | [_], _ => rfl
  have b9 := F9.binds (ps := ["_law_one", "_law_other"]) fun _ _ _ _ _ _ us hl => match us, hl with | [_, _], _ => rfl
  have b10 := F10.binds (ps := ["_law_one", "_law_other", "_law_due"]) fun _ _ _ _ _ _ us hl => match us, hl with | [_, _, _], _ => rfl
  have b11 := F11.binds (ps := ["_law_script"]) fun _ _ _ _ _ _ us hl => match us, hl with | [_], _ => rfl
  let T : Tx K mg := ⟨_, _, F0, b0, PySem.W.mg_of X G a0, _, _, F1, b1, PySem.W.mg_of X G a1, _, _, F2, b2, PySem.W.mg_of X G a2, _, _, F3, b3, PySem.W.mg_of X G a3, _, _, F4, b4, PySem.W.mg_of X G a4, _, _, F5, b5, PySem.W.mg_of X G a5, _, _, F6, b6, PySem.W.mg_of X G a6, _, _, F7, b7, PySem.W.mg_of X G a7, _, _, F8, b8, PySem.W.mg_of X G a8, _, _, F9, b9, PySem.W.mg_of X G a9, _, _, F10, b10, PySem.W.mg_of X G a10, _, _, F11, b11, PySem.W.mg_of X G a11, PySem.W.mg_none_of X G z_max, PySem.W.mg_none_of X G z_abs, PySem.W.mg_none_of X G z_list, PySem.W.mg_none_of X G z_len, PySem.W.mg_none_of X G z_int, PySem.W.mg_none_of X G z_isinstance, PySem.W.mg_none_of X G z_bool, PySem.W.mg_none_of X G z_tuple, PySem.W.mg_none_of X G z_range⟩
  exact ⟨PySem.W.fnOf "law" "law" (defArgs s_law) (defBody s_law) (defScope s_law) .none kV11 dc11 pm11 an11 cd11 ct11, fun s v => .of_eq rfl, fun base _ _ => ok_law T⟩
theorem walk {l : PySem.W.OpenLaw} {q : Program} {loose : List Str} {XP : (Str → Option Value) → Heap → Prop} {YP : World → Heap → Prop} {d : DefRec} {K : Params → PySem.W.Frag} (hn : l.most = some 63) (hdf : d.params.defaults = [])
    (hY : ∀ (w : World) (h : Heap), YP w h → (K w.params).In h)
    (F : ∀ (w : World) (mg : Str → Option Value) (fa : Addr) (h : Heap), (K w.params).In h → h.Ns mainGlobals mg → mg d.name = some (.ref fa) →
      ∃ fd : FuncData, (∀ (s : Shared) (u : Value), BindsTo s fd ⟨[u], []⟩ [("_law_script", u)]) ∧ ∀ base : Heap, (K w.params).In base → base.Ns mainGlobals mg → FnOk l.prog w (K w.params) mg base CX0 4 fa fd ["_law_script"] (sp_law (K w.params))) :
    PySem.W.WalkO q loose XP YP l.row.toRowW d [] (fun f vs => PySem.call f vs) :=
  L2.walk_of (n := 63) (k := 4) (x := "_law_script") (CX := fun _ => CX0) (sp := fun w => sp_law (K w.params)) hn (by decide) hdf ⟨rfl, by decide, by decide⟩ hY F (fun _ _ a ns hl _ hS => ⟨a, ns, rfl, hS, hl, fun _ => rfl⟩) fun _ _ _ _ _ z => z
end Ew
open PySem PySem.W PyProof.Rows
set_option maxRecDepth 100000 in
set_option maxHeartbeats 0 in
theorem PySem.Challenge.cw_evenwires_k10_spots_of_places_holds : PySem.Challenge.rw_evenwires_k10_spots_of_places.Holds := by
  w_on; o_law; k_head; (case hw => w_witness2)
  k_fill
  refine Ew.walk (l := PySem.Challenge.rw_evenwires_k10_spots_of_places) rfl rfl (fun w h Y => PySem.W.kIn_of Y) ?F
  case F =>
    intro w mg fa h KX G hmg
    refine' Ew.all_mk KX G hmg ?a0 ?l0 ?c0 ?k0 ?a1 ?l1 ?c1 ?k1 ?a2 ?l2 ?c2 ?k2 ?a3 ?l3 ?c3 ?k3 ?a4 ?l4 ?c4 ?k4 ?a5 ?l5 ?c5 ?k5 ?a6 ?l6 ?c6 ?k6 ?a7 ?l7 ?c7 ?k7 ?a8 ?l8 ?c8 ?k8 ?a9 ?l9 ?c9 ?k9 ?a10 ?l10 ?c10 ?k10 ?a11 ?l11 ?c11 ?k11 ?z_max ?z_abs ?z_list ?z_len ?z_int ?z_isinstance ?z_bool ?z_tuple ?z_range
    (case a0 => k_is)
    (case l0 => k_is)
    (case c0 => k_is)
    (case k0 => k_is)
    (case a1 => k_is)
    (case l1 => k_is)
    (case c1 => k_is)
    (case k1 => k_is)
    (case a2 => k_is)
    (case l2 => k_is)
    (case c2 => k_is)
    (case k2 => k_is)
    (case a3 => k_is)
    (case l3 => k_is)
    (case c3 => k_is)
    (case k3 => k_is)
    (case a4 => k_is)
    (case l4 => k_is)
    (case c4 => k_is)
    (case k4 => k_is)
    (case a5 => k_is)
    (case l5 => k_is)
    (case c5 => k_is)
    (case k5 => k_is)
    (case a6 => k_is)
    (case l6 => k_is)
    (case c6 => k_is)
    (case k6 => k_is)
    (case a7 => k_is)
    (case l7 => k_is)
    (case c7 => k_is)
    (case k7 => k_is)
    (case a8 => k_is)
    (case l8 => k_is)
    (case c8 => k_is)
    (case k8 => k_is)
    (case a9 => k_is)
    (case l9 => k_is)
    (case c9 => k_is)
    (case k9 => k_is)
    (case a10 => k_is)
    (case l10 => k_is)
    (case c10 => k_is)
    (case k10 => k_is)
    (case a11 => k_is)
    (case l11 => k_is)
    (case c11 => k_is)
    (case k11 => k_is)
    (case z_max => k_is)
    (case z_abs => k_is)
    (case z_list => k_is)
    (case z_len => k_is)
    (case z_int => k_is)
    (case z_isinstance => k_is)
    (case z_bool => k_is)
    (case z_tuple => k_is)
    (case z_range => k_is)

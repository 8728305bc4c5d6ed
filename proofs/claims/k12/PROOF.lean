import PyProof.Rows.All
import Wide.All
import OpenK.AllK
import Wide.FinOn
import HandS.ForMost
import HandS.IsInst
import HandS.Style
import HandS.Wide
import HandS.NoneIn
import HandS.Codes
import PySem.Challenge.RW_evenwires_k12_boxes_met
set_option Elab.async false
set_option linter.all false
set_option maxRecDepth 100000
namespace Ew
open PySem PySem.Spec PyProof.Rows L2

/-- what may have happened between two heaps: only what stands in S is changed; tuples and locked things stay -/
structure Evo (S : List Addr) (H H' : Hp) : Prop where
  old : ∀ a o, H a = some o → a ∉ S → H' a = some o
  tup : ∀ a xs, H a = some (.tup xs) → H' a = some (.tup xs)
  frz : ∀ a o u, H a = some (.frz o u) → H' a = some (.frz o u)
section
variable {K : PySem.W.Frag} {S S' : List Addr} {H H1 H2 H' : Hp} {a p q : Addr} {o x y : HO} {xs ys : List V}
theorem get_new (hp : H p = none) (h : H a = some x) : upd H p o a = some x := by rw [upd_ne (ne_of_none h hp)]; exact h
theorem get_ne (hn : a ≠ p) (h : H a = some x) : upd H p o a = some x := by rw [upd_ne hn]; exact h
theorem Evo.refl (S : List Addr) (H : Hp) : Evo S H H := ⟨fun _ _ h _ => h, fun _ _ h => h, fun _ _ _ h => h⟩
theorem Evo.trans (e : Evo S H H1) (f : Evo S H1 H2) : Evo S H H2 := ⟨fun a o h n => f.old a o (e.old a o h n) n, fun a xs h => f.tup a xs (e.tup a xs h), fun a o u h => f.frz a o u (e.frz a o u h)⟩
/-- a new thing -/
theorem Evo.new (e : Evo S H H1) (hp : H1 p = none) : Evo S H (upd H1 p o) :=
  ⟨fun a u h n => get_new hp (e.old a u h n), fun a ys h => get_new hp (e.tup a ys h), fun a u v h => get_new hp (e.frz a u v h)⟩
/-- a thing that was not there at the beginning is changed -/
theorem Evo.mut (e : Evo S H H1) (hp : H p = none) : Evo S H (upd H1 p o) :=
  ⟨fun a u h n => get_ne (ne_of_none h hp) (e.old a u h n), fun a ys h => get_ne (ne_of_none h hp) (e.tup a ys h), fun a u v h => get_ne (ne_of_none h hp) (e.frz a u v h)⟩
/-- a thing of S is changed -/
theorem Evo.set (e : Evo S H H1) (hp : p ∈ S) (hm : ∀ ys, H p ≠ some (.tup ys)) (hf : ∀ u v, H p ≠ some (.frz u v)) : Evo S H (upd H1 p o) :=
  ⟨fun a u h n => get_ne (fun z => n (z ▸ hp)) (e.old a u h n), fun a ys h => get_ne (fun z => hm ys (z ▸ h)) (e.tup a ys h), fun a u v h => get_ne (fun z => hf u v (z ▸ h)) (e.frz a u v h)⟩
/-- a callee's changes -/
theorem Evo.call (e : Evo S H H1) (f : Evo S' H1 H2) (h : ∀ s ∈ S', s ∈ S ∨ H s = none) : Evo S H H2 :=
  ⟨fun a o ha n => f.old a o (e.old a o ha n) fun m => (h a m).elim n (fun z => nomatch (ha.symm.trans z)), fun a xs h => f.tup a xs (e.tup a xs h), fun a o u h => f.frz a o u (e.frz a o u h)⟩
theorem Evo.call0 (e : Evo S H H1) (f : Evo [] H1 H2) : Evo S H H2 := e.call f fun _ h => by cases h
theorem Evo.get (e : Evo S H H') (hn : a ∉ S) (h : H a = some x) : H' a = some x := e.old a x h hn
theorem Evo.sqT (e : Evo S H H') (h : SqT K H a xs) : SqT K H' a xs := by
  rcases h with (h | ⟨o, h⟩) | h
  · exact .inl (.inl (e.tup _ _ h))
  · exact .inl (.inr ⟨o, e.frz _ _ _ h⟩)
  · exact .inr h
theorem Evo.fresh (e : Evo [] H H') (h : H' p = none) : H p = none := by
  cases q : H p with
  | none => rfl
  | some o =>
    rw [e.old p o q (by intro z; cases z)] at h
    cases h
theorem sqT_new (hp : H p = none) (h : SqT K H a xs) : SqT K (upd H p o) a xs := ((Evo.refl [] H).new hp).sqT h
theorem sqT_mut (hm : H p = some (.lst ys)) (h : SqT K H a xs) : SqT K (upd H p o) a xs := by
  rcases h with (h | ⟨o, h⟩) | h
  · exact .inl (.inl (get_ne (ne_of h hm (by intro z; cases z)) h))
  · exact .inl (.inr ⟨o, get_ne (ne_of h hm (by intro z; cases z)) h⟩)
  · exact .inr h
theorem sqT_mutD {kvs : List (Key × V)} (hm : H p = some (.dK kvs)) (h : SqT K H a xs) : SqT K (upd H p o) a xs := by
  rcases h with (h | ⟨o, h⟩) | h
  · exact .inl (.inl (get_ne (ne_of h hm (by intro z; cases z)) h))
  · exact .inl (.inr ⟨o, get_ne (ne_of h hm (by intro z; cases z)) h⟩)
  · exact .inr h
end
theorem sz {n : Nat} (h : n ≤ 100000) : n ≤ sizeLine := Nat.le_trans h (by decide)
theorem szl {n : Nat} (h : n < 100000) : n < sizeLine := Nat.lt_of_lt_of_le h (by decide)
section
variable {H : Hp} {a : Addr} {kvs kvs' : List (Key × V)} {s : Str} {v : V}
theorem dget (h : H a = some (.dK kvs)) (e : valV kvs (.inr s) = some v) : DGet H a (.str s) (some v) := e ▸ DGet.k (k := Sum.inr s) h
theorem dput (h : H a = some (.dK kvs)) (hl : kvs.length ≤ 1000) (e : putK kvs (.inr s) v = kvs') : DPut H a (.str s) v (upd H a (.dK kvs')) := e ▸ DPut.k (k := Sum.inr s) h (small1000 hl)
end
/-- a test by its answer -/
theorem iteD {c : Prop} [Decidable c] {A B : Prop} (h1 : c → A) (h2 : ¬ c → B) : if decide c = true then A else B := by
  by_cases h : c
  · rw [if_pos (decide_eq_true h)]; exact h1 h
  · rw [if_neg (by rw [decide_eq_false h]; exact Bool.false_ne_true)]; exact h2 h
theorem iteN {c : Prop} [Decidable c] {A B : Prop} (h1 : ¬ c → A) (h2 : c → B) : if (!decide c) = true then A else B := by
  by_cases h : c
  · rw [if_neg (by rw [decide_eq_true h]; exact Bool.false_ne_true)]; exact h2 h
  · rw [if_pos (by rw [decide_eq_false h]; rfl)]; exact h1 h
theorem iteB {b : Bool} {A B : Prop} (h1 : b = true → A) (h2 : b = false → B) : if b = true then A else B := by
  cases b with
  | true => exact h1 rfl
  | false => exact h2 rfl
end Ew
namespace Ew
open PySem PySem.Spec PyProof.Rows L2
/-! readings by lemmas: what is asked, in the form that it has when it is asked -/
section
variable {K : PySem.W.Frag} {H : Hp} {a b p : Addr} {xs ys : List V} {i : Int} {v x y : V} {R : V → Prop} {kvs kvs' : List (Key × V)} {s : Str}
theorem ixT (h : SqT K H p xs) (e : atI xs i = some v) (k : R v) : ∃ p' xs' i' v', V.ref p = .ref p' ∧ V.int i = .int i' ∧ SqT K H p' xs' ∧ atI xs' i' = some v' ∧ R v' := ⟨p, xs, i, v, rfl, rfl, h, e, k⟩
theorem ixL (h : SqL K H p xs) (e : atI xs i = some v) (k : R v) : ∃ p' xs' i' v', V.ref p = .ref p' ∧ V.int i = .int i' ∧ SqL K H p' xs' ∧ atI xs' i' = some v' ∧ R v' := ⟨p, xs, i, v, rfl, rfl, h, e, k⟩
theorem dgetE (h : H a = some (.dK kvs)) (e : valV kvs (.inr s) = some v) (k : R v) : ∃ a' v', V.ref a = .ref a' ∧ DGet H a' (.str s) (some v') ∧ R v' := ⟨a, v, rfl, dget h e, k⟩
theorem dputE {R : Hp → Prop} (h : H a = some (.dK kvs)) (e : putK kvs (.inr s) v = kvs') (k : R (upd H a (.dK kvs'))) (hl : kvs.length ≤ 1000) : ∃ a' H4, V.ref a = .ref a' ∧ DPut H a' (.str s) v H4 ∧ R H4 := ⟨a, _, rfl, dput h hl e, k⟩
theorem lenT {R : List V → Prop} (h : SqT K H p xs) (k : R xs) : ∃ p' ys, [V.ref p] = [.ref p'] ∧ (SqL K H p' ys ∨ SqT K H p' ys) ∧ R ys := ⟨p, xs, rfl, .inr h, k⟩
theorem lenL {R : List V → Prop} (h : SqL K H p xs) (k : R xs) : ∃ p' ys, [V.ref p] = [.ref p'] ∧ (SqL K H p' ys ∨ SqT K H p' ys) ∧ R ys := ⟨p, xs, rfl, .inl h, k⟩
theorem iib {R : Bool → Prop} {x : V} {n : String} {t : Value} {r : Bool} (ht : TyOf K H x t) (hb : PySem.W.kitOne K t (.type n) = some r) (k : R r) : ∃ (x' c : V) (t u : Value) (b : Bool), [x, V.ty n] = [x', c] ∧ ClsV c u ∧ TyX K H x' t ∧ PySem.W.kitOne K t u = some b ∧ R b :=
  ⟨x, .ty n, t, .type n, r, rfl, .ty n, .base ht, hb, k⟩
theorem lt2 {b : Bool} {r : V} : ∀ {i : Int}, 0 ≤ i → i < 2 → i = 0 ∨ i = 1 := by intro i h1 h2; omega
end
theorem apd {H : Hp} {l : Addr} {xs : List V} {y : V} {R : Addr → List V → V → Prop} (h : H l = some (.lst xs)) (hl : xs.length ≤ 1000) (k : R l xs y) : ∃ l' xs' y', V.ref l = .ref l' ∧ [y] = [y'] ∧ H l' = some (.lst xs') ∧ xs'.length < sizeLine ∧ R l' xs' y' :=
  ⟨l, xs, y, rfl, rfl, h, small1000 hl, k⟩
end Ew
namespace Ew
open PySem PySem.Spec PyProof.Rows L2
theorem tup_mut {H : Hp} {a p : Addr} {o : HO} {xs ys : List V} (hm : H p = some (.lst ys)) (h : H a = some (.tup xs)) : upd H p o a = some (.tup xs) := get_ne (ne_of h hm (by intro z; cases z)) h
theorem tup_mutD {H : Hp} {a p : Addr} {o : HO} {xs : List V} {kvs : List (Key × V)} (hm : H p = some (.dK kvs)) (h : H a = some (.tup xs)) : upd H p o a = some (.tup xs) := get_ne (ne_of h hm (by intro z; cases z)) h
theorem Evo.tupE {S : List Addr} {H H' : Hp} {a : Addr} {xs : List V} (e : Evo S H H') (h : H a = some (.tup xs)) : H' a = some (.tup xs) := e.tup a xs h
/-- a written power -/
theorem op_powC {X : Cx} (b e r : Int) (hc : CPow b e := by exact ⟨by decide, by decide, by decide⟩) (hr : b ^ e.toNat = r := by rfl) : OpR X (binaryOp .Pow) (fun x y H Q => x = .int b ∧ y = .int e ∧ Q (.int r) H) :=
  fun pins s σ H x y v u Q I rx ry h => op_pow pins s σ H x y v u Q I rx ry ⟨b, e, h.1, h.2.1, hc, by show Q (.int (b ^ e.toNat)) H; rw [hr]; exact h.2.2⟩
end Ew
namespace Ew
open PySem PySem.Spec PyProof.Rows L2
/-! data that are rows of whole numbers -/
def intsOf : List V → Option (List Int)
  | [] => some []
  | .int i :: r => match intsOf r with
    | some z => some (i :: z)
    | none => none
  | _ => none
theorem intsOf_map : ∀ {vs : List V} {xs : List Int}, intsOf vs = some xs → vs = xs.map V.int
  | [], _, h => by cases h; rfl
  | .int i :: r, xs, h => by
    unfold intsOf at h
    cases e : intsOf r with
    | none => rw [e] at h; cases h
    | some z =>
      rw [e] at h
      cases h
      rw [intsOf_map e]
      rfl
  | .non :: _, _, h => by cases h
  | .bl _ :: _, _, h => by cases h
  | .str _ :: _, _, h => by cases h
  | .byt _ :: _, _, h => by cases h
  | .flt _ :: _, _, h => by cases h
  | .ref _ :: _, _, h => by cases h
  | .ty _ :: _, _, h => by cases h
theorem intsOf_of : ∀ xs : List Int, intsOf (xs.map V.int) = some xs
  | [] => rfl
  | x :: r => by
    show (match intsOf (r.map V.int) with | some z => some (x :: z) | none => none) = _
    rw [intsOf_of r]
theorem dpInts {K : PySem.W.Frag} {H : Hp} : ∀ xs : List Int, DpAll K H (xs.map V.int) (xs.map PyData.int)
  | [] => .nil
  | x :: r => .cons (.int x) (dpInts r)
theorem canInts : ∀ xs : List Int, PyData.canLayAll0 (xs.map PyData.int) = true
  | [] => by simp [PyData.canLayAll0]
  | x :: r => by
    show PyData.canLayAll0 (PyData.int x :: r.map PyData.int) = true
    simp [PyData.canLayAll0, PyData.canLay0, canInts r]
theorem depInts : ∀ xs : List Int, PyData.depthAll (xs.map PyData.int) ≤ 1
  | [] => by simp [PyData.depthAll]
  | x :: r => by
    show PyData.depthAll (PyData.int x :: r.map PyData.int) ≤ 1
    have h := depInts r
    simp [PyData.depthAll, PyData.depth]
    omega
theorem shInts (xs : List Int) : SeqAt.shaped (.tuple (xs.map PyData.int)) = true := by
  have h := depInts xs
  simp [SeqAt.shaped, PyData.canLay0, canInts xs, PyData.depth]
  omega
theorem shIntsL (xs : List Int) : SeqAt.shaped (.list (xs.map PyData.int)) = true := by
  have h := depInts xs
  simp [SeqAt.shaped, PyData.canLay0, canInts xs, PyData.depth]
  omega
theorem eqvAllInts : ∀ xs ys : List Int, PyData.eqvAll (xs.map PyData.int) (ys.map PyData.int) = decide (xs = ys)
  | [], [] => by simp [PyData.eqvAll]
  | [], y :: _ => by simp [PyData.eqvAll]
  | x :: _, [] => by simp [PyData.eqvAll]
  | x :: r, y :: q => by
    show PyData.eqvAll (PyData.int x :: r.map PyData.int) (PyData.int y :: q.map PyData.int) = _
    have e : PyData.eqvAll (PyData.int x :: r.map PyData.int) (PyData.int y :: q.map PyData.int) = ((x == y) && PyData.eqvAll (r.map PyData.int) (q.map PyData.int)) := by simp [PyData.eqvAll, PyData.eqv]
    rw [e, eqvAllInts r q]
    by_cases h : x = y
    · by_cases h2 : r = q
      · simp [h, h2]
      · simp [h, h2]
    · simp [h]
theorem eqvT (xs ys : List Int) : PyData.eqv (.tuple (xs.map PyData.int)) (.tuple (ys.map PyData.int)) = decide (xs = ys) := by
  rw [← eqvAllInts]; simp [PyData.eqv]
theorem eqvL (xs ys : List Int) : PyData.eqv (.list (xs.map PyData.int)) (.list (ys.map PyData.int)) = decide (xs = ys) := by
  rw [← eqvAllInts]; simp [PyData.eqv]
section
variable {K : PySem.W.Frag} {H : Hp} {a b p : Addr} {vs us : List V} {xs ys : List Int} {R : V → Prop}
/-- == of data: its answer -/
def EqR (K : PySem.W.Frag) (H : Hp) (x y : V) (c : Bool) : Prop := ∃ d e, Dp K H x d ∧ Dp K H y e ∧ SeqAt.shaped d = true ∧ SeqAt.shaped e = true ∧ PyData.eqv d e = c
def rEqX (K : PySem.W.Frag) : R2 := fun x y H Q => ∃ c, EqR K H x y c ∧ Q (.bl c) H
def rNeX (K : PySem.W.Frag) : R2 := fun x y H Q => ∃ c, EqR K H x y c ∧ Q (.bl (!c)) H
theorem op_eqX {X : Cx} (hu : X.A.units + 64 < cLine) : OpR X (compareOp .Eq) (rEqX X.K) := fun pins s σ H x y v u Q I rx ry ⟨c, ⟨d, e, h1, h2, h3, h4, h5⟩, q⟩ =>
  op_eqD hu pins s σ H x y v u Q I rx ry ⟨d, e, h1, h2, h3, h4, h5 ▸ q⟩
theorem op_neX {X : Cx} (hu : X.A.units + 64 < cLine) : OpR X (compareOp .NotEq) (rNeX X.K) := fun pins s σ H x y v u Q I rx ry ⟨c, ⟨d, e, h1, h2, h3, h4, h5⟩, q⟩ =>
  op_neD hu pins s σ H x y v u Q I rx ry ⟨d, e, h1, h2, h3, h4, h5 ▸ q⟩
theorem eqT (h1 : H a = some (.tup vs)) (h2 : H b = some (.tup us)) (e1 : intsOf vs = some xs) (e2 : intsOf us = some ys) : EqR K H (.ref a) (.ref b) (decide (xs = ys)) := by
  have q1 := intsOf_map e1; have q2 := intsOf_map e2; subst q1 q2
  exact ⟨_, _, .tup (SqT.of h1) (dpInts xs), .tup (SqT.of h2) (dpInts ys), shInts _, shInts _, eqvT _ _⟩
theorem eqL (h1 : H a = some (.lst vs)) (h2 : H b = some (.lst us)) (e1 : intsOf vs = some xs) (e2 : intsOf us = some ys) : EqR K H (.ref a) (.ref b) (decide (xs = ys)) := by
  have q1 := intsOf_map e1; have q2 := intsOf_map e2; subst q1 q2
  exact ⟨_, _, .lst (SqL.of h1) (dpInts xs), .lst (SqL.of h2) (dpInts ys), shIntsL _, shIntsL _, eqvL _ _⟩
end
theorem sqL_new {K : PySem.W.Frag} {H : Hp} {a p : Addr} {o : HO} {xs : List V} (hp : H p = none) (h : SqL K H a xs) : SqL K (upd H p o) a xs := by
  rcases h with (h | ⟨o, h⟩) | h
  · exact .inl (.inl (get_new hp h))
  · exact .inl (.inr ⟨o, get_new hp h⟩)
  · exact .inr h
theorem cut63 {xs : List V} (h : xs.length ≤ 63) : cutV xs none (some 63) = xs := by
  unfold cutV
  rw [show HT.sIx xs.length xs.length (some 63) = min 63 xs.length from HT.sIx_nat xs.length xs.length 63, HT.sIx_none, List.drop_zero, Nat.sub_zero]
  exact List.take_of_length_le (by omega)
end Ew
namespace Ew
open PySem PySem.Spec PyProof.Rows L2
/-! == of whole numbers, of truths -/
theorem decV {i j : Int} : decide (V.int i = V.int j) = decide (i = j) := by
  by_cases h : i = j
  · subst h; simp
  · rw [decide_eq_false h, decide_eq_false fun e => h (V.int.inj e)]
theorem decB {i j : Bool} : decide (V.bl i = V.bl j) = decide (i = j) := by
  by_cases h : i = j
  · subst h; simp
  · rw [decide_eq_false h, decide_eq_false fun e => h (V.bl.inj e)]
section
variable {X : Cx}
theorem op_eqI : OpR X (compareOp .Eq) (fun x y H Q => ∃ i j, x = .int i ∧ y = .int j ∧ Q (.bl (decide (i = j))) H) := fun pins s σ H x y v u Q I rx ry ⟨i, j, h1, h2, q⟩ =>
  op_eq pins s σ H x y v u Q I rx ry ⟨by rw [h1, h2]; rfl, by rw [h1, h2, decV]; exact q⟩
theorem op_neI : OpR X (compareOp .NotEq) (fun x y H Q => ∃ i j, x = .int i ∧ y = .int j ∧ Q (.bl (!decide (i = j))) H) := fun pins s σ H x y v u Q I rx ry ⟨i, j, h1, h2, q⟩ =>
  op_ne pins s σ H x y v u Q I rx ry ⟨by rw [h1, h2]; rfl, by rw [h1, h2, decV]; exact q⟩
theorem op_eqB : OpR X (compareOp .Eq) (fun x y H Q => ∃ i j, x = .bl i ∧ y = .bl j ∧ Q (.bl (decide (i = j))) H) := fun pins s σ H x y v u Q I rx ry ⟨i, j, h1, h2, q⟩ =>
  op_eq pins s σ H x y v u Q I rx ry ⟨by rw [h1, h2]; rfl, by rw [h1, h2, decB]; exact q⟩
theorem op_neB : OpR X (compareOp .NotEq) (fun x y H Q => ∃ i j, x = .bl i ∧ y = .bl j ∧ Q (.bl (!decide (i = j))) H) := fun pins s σ H x y v u Q I rx ry ⟨i, j, h1, h2, q⟩ =>
  op_ne pins s σ H x y v u Q I rx ry ⟨by rw [h1, h2]; rfl, by rw [h1, h2, decB]; exact q⟩
end
end Ew
namespace Ew
open PySem PySem.Spec PyProof.Rows L2
theorem Qeq {Q : VK} {H : Hp} {v v' : V} (e : v = v') (k : Q v H) : Q v' H := e ▸ k
section
variable {K : PySem.W.Frag} {H : Hp} {R : Bool → Prop}
theorem ii_ii {a : Int} (k : R true) : ∃ (x' c : V) (t u : Value) (b : Bool), [V.int a, V.ty "int"] = [x', c] ∧ ClsV c u ∧ TyX K H x' t ∧ PySem.W.kitOne K t u = some b ∧ R b := iib (.int _) (kit_ty (by decide +kernel)) k
theorem ii_ib {a : Int} (k : R false) : ∃ (x' c : V) (t u : Value) (b : Bool), [V.int a, V.ty "bool"] = [x', c] ∧ ClsV c u ∧ TyX K H x' t ∧ PySem.W.kitOne K t u = some b ∧ R b := iib (.int _) (kit_ty (by decide +kernel)) k
theorem ii_it {a : Int} (k : R false) : ∃ (x' c : V) (t u : Value) (b : Bool), [V.int a, V.ty "tuple"] = [x', c] ∧ ClsV c u ∧ TyX K H x' t ∧ PySem.W.kitOne K t u = some b ∧ R b := iib (.int _) (kit_ty (by decide +kernel)) k
theorem ii_bb {a : Bool} (k : R true) : ∃ (x' c : V) (t u : Value) (b : Bool), [V.bl a, V.ty "bool"] = [x', c] ∧ ClsV c u ∧ TyX K H x' t ∧ PySem.W.kitOne K t u = some b ∧ R b := iib (.bl _) (kit_ty (by decide +kernel)) k
theorem ii_bi {a : Bool} (k : R true) : ∃ (x' c : V) (t u : Value) (b : Bool), [V.bl a, V.ty "int"] = [x', c] ∧ ClsV c u ∧ TyX K H x' t ∧ PySem.W.kitOne K t u = some b ∧ R b := iib (.bl _) (kit_ty (by decide +kernel)) k
theorem ii_tt {a : Addr} {xs : List V} (h : H a = some (.tup xs)) (k : R true) : ∃ (x' c : V) (t u : Value) (b : Bool), [V.ref a, V.ty "tuple"] = [x', c] ∧ ClsV c u ∧ TyX K H x' t ∧ PySem.W.kitOne K t u = some b ∧ R b := iib (.tup h) (kit_ty (by decide +kernel)) k
end
end Ew
namespace Ew
open PySem PySem.Spec PyProof.Rows L2
def rLen (K : PySem.W.Frag) : List V → Hp → VK → Prop := fun xs H Q => ∃ p ys, xs = [.ref p] ∧ (SqL K H p ys ∨ SqT K H p ys) ∧ Q (.int ys.length) H
theorem call_len {X : Cx} : CallR X (.builtin "len") (rLen X.K) := call_len_seq
def rTupleOf (K : PySem.W.Frag) : List V → Hp → VK → Prop := fun xs H Q => ∃ p ys, xs = [.ref p] ∧ ((SqL K H p ys ∧ ∀ l, H l = none → Q (.ref l) (upd H l (.tup ys))) ∨ (SqT K H p ys ∧ Q (.ref p) H))
theorem call_tuple {X : Cx} : CallR X (.type "tuple") (rTupleOf X.K) := call_tuple_of
end Ew
namespace Ew
open PySem PySem.Spec PyProof.Rows L2
/-- [a, b][int(test)] -/
theorem ixB {K : PySem.W.Frag} {H : Hp} {p : Addr} {a0 a1 : V} {b : Bool} {R : V → Prop} (h : SqL K H p [a0, a1]) (k0 : b = false → R a0) (k1 : b = true → R a1) :
    ∃ p' xs' i' v', V.ref p = .ref p' ∧ V.int (if b = true then 1 else 0) = .int i' ∧ SqL K H p' xs' ∧ atI xs' i' = some v' ∧ R v' := by
  cases b with
  | false => exact ⟨p, _, 0, a0, rfl, rfl, h, rfl, k0 rfl⟩
  | true => exact ⟨p, _, 1, a1, rfl, rfl, h, rfl, k1 rfl⟩
theorem inI {x : Int} {xs : List Int} : inV (.int x) (xs.map V.int) = decide (x ∈ xs) := by
  induction xs with
  | nil => rfl
  | cons y r ih =>
    have e : inV (.int x) ((y :: r).map V.int) = (eqV (.int y) (.int x) || inV (.int x) (r.map V.int)) := rfl
    rw [e, ih]
    have e2 : eqV (.int y) (.int x) = decide (y = x) := by
      show (y == x) = _
      by_cases h : y = x
      · simp [h]
      · simp [h]
    rw [e2]
    by_cases h : y = x
    · simp [h]
    · have h' : ¬ x = y := fun e => h e.symm
      simp [h, h']
end Ew
namespace Ew
abbrev ab (x : Int) : Int := if x < 0 then -x else x
end Ew
namespace Ew
open PySem PySem.Spec PyProof.Rows L2
def isImm : HO → Bool
  | .tup _ => true
  | _ => false
theorem Evo.getI {S : List Addr} {H H' : Hp} {a : Addr} {x : HO} (e : Evo S H H') (h : H a = some x) (hx : isImm x = true) : H' a = some x := by
  cases x with
  | tup xs => exact e.tup a xs h
  | _ => cases hx
theorem getI_mut {H : Hp} {a p : Addr} {o x : HO} {ys : List V} (hm : H p = some (.lst ys)) (h : H a = some x) (hx : isImm x = true) : upd H p o a = some x :=
  get_ne (ne_of h hm (by intro z; rw [z] at hx; cases hx)) h
theorem getI_mutD {H : Hp} {a p : Addr} {o x : HO} {kvs : List (Key × V)} (hm : H p = some (.dK kvs)) (h : H a = some x) (hx : isImm x = true) : upd H p o a = some x :=
  get_ne (ne_of h hm (by intro z; rw [z] at hx; cases hx)) h
end Ew
namespace Ew
open PySem PySem.Spec PyProof.Rows L2
/-! lists of rows of whole numbers -/
inductive RowsAt (H : Hp) : List V → List (List Int) → Prop
  | nil : RowsAt H [] []
  | cons {a : Addr} {vs : List V} {r : List Int} {rs : List (List Int)} : H a = some (.tup (r.map V.int)) → RowsAt H vs rs → RowsAt H (.ref a :: vs) (r :: rs)
theorem RowsAt.mono {H H' : Hp} (f : ∀ a xs, H a = some (.tup xs) → H' a = some (.tup xs)) : ∀ {vs : List V} {rs : List (List Int)}, RowsAt H vs rs → RowsAt H' vs rs
  | _, _, .nil => .nil
  | _, _, .cons h t => .cons (f _ _ h) (RowsAt.mono f t)
theorem RowsAt.evo {S : List Addr} {H H' : Hp} {vs : List V} {rs : List (List Int)} (e : Evo S H H') (h : RowsAt H vs rs) : RowsAt H' vs rs := h.mono e.tup
theorem RowsAt.new {H : Hp} {p : Addr} {o : HO} {vs : List V} {rs : List (List Int)} (h : RowsAt H vs rs) (hp : H p = none) : RowsAt (upd H p o) vs rs := h.mono fun _ _ q => get_new hp q
theorem RowsAt.mut {H : Hp} {p : Addr} {o : HO} {ys vs : List V} {rs : List (List Int)} (h : RowsAt H vs rs) (hp : H p = some (.lst ys)) : RowsAt (upd H p o) vs rs := h.mono fun _ _ q => tup_mut hp q
theorem RowsAt.length {H : Hp} : ∀ {vs : List V} {rs : List (List Int)}, RowsAt H vs rs → vs.length = rs.length
  | _, _, .nil => rfl
  | _, _, .cons _ t => congrArg Nat.succ (RowsAt.length t)
theorem RowsAt.snoc {H : Hp} {a : Addr} {r : List Int} (h : H a = some (.tup (r.map V.int))) : ∀ {vs : List V} {rs : List (List Int)}, RowsAt H vs rs → RowsAt H (vs ++ [.ref a]) (rs ++ [r])
  | _, _, .nil => .cons h .nil
  | _, _, .cons q t => .cons q (RowsAt.snoc h t)
theorem RowsAt.get {H : Hp} : ∀ {vs : List V} {rs : List (List Int)} {i : Nat} {r : List Int}, RowsAt H vs rs → rs[i]? = some r → ∃ a, vs[i]? = some (.ref a) ∧ H a = some (.tup (r.map V.int))
  | _, _, _, _, .nil, e => by cases e
  | _, _, 0, _, .cons q _, e => by cases e; exact ⟨_, rfl, q⟩
  | _, _, i + 1, _, .cons _ t, e => RowsAt.get (i := i) t e
theorem RowsAt.dp {K : PySem.W.Frag} {H : Hp} : ∀ {vs : List V} {rs : List (List Int)}, RowsAt H vs rs → DpAll K H vs (rs.map fun r => .tuple (r.map PyData.int))
  | _, _, .nil => .nil
  | _, _, .cons h t => .cons (.tup (SqT.of h) (dpInts _)) (RowsAt.dp t)
theorem canRows : ∀ rs : List (List Int), PyData.canLayAll0 (rs.map fun r => .tuple (r.map PyData.int)) = true
  | [] => by simp [PyData.canLayAll0]
  | r :: q => by
    show PyData.canLayAll0 (PyData.tuple (r.map PyData.int) :: q.map fun r => .tuple (r.map PyData.int)) = true
    have h := canRows q
    simp only [PyData.canLayAll0, PyData.canLay0, canInts r, h]
    rfl
theorem depRows : ∀ rs : List (List Int), PyData.depthAll (rs.map fun r => .tuple (r.map PyData.int)) ≤ 2
  | [] => by simp [PyData.depthAll]
  | r :: q => by
    show PyData.depthAll (PyData.tuple (r.map PyData.int) :: q.map fun r => .tuple (r.map PyData.int)) ≤ 2
    have h := depRows q
    have h2 := depInts r
    simp only [PyData.depthAll, PyData.depth]
    omega
theorem shRows (rs : List (List Int)) : SeqAt.shaped (.list (rs.map fun r => .tuple (r.map PyData.int))) = true := by
  have h := depRows rs
  have h2 := canRows rs
  simp [SeqAt.shaped, PyData.canLay0, h2, PyData.depth]
  omega
theorem shRowsT (rs : List (List Int)) : SeqAt.shaped (.tuple (rs.map fun r => .tuple (r.map PyData.int))) = true := by
  have h := depRows rs
  have h2 := canRows rs
  simp [SeqAt.shaped, PyData.canLay0, h2, PyData.depth]
  omega
theorem eqNil {K : PySem.W.Frag} {H : Hp} {l e : Addr} {vs : List V} {rs : List (List Int)} (h : H l = some (.lst vs)) (hr : RowsAt H vs rs) (he : H e = some (.lst [])) : EqR K H (.ref l) (.ref e) (decide (rs = [])) := by
  refine ⟨_, _, .lst (SqL.of h) hr.dp, .lst (SqL.of he) .nil, shRows rs, shRows [], ?_⟩
  cases rs with
  | nil => simp [PyData.eqv, PyData.eqvAll]
  | cons r q => simp [PyData.eqv, PyData.eqvAll]
end Ew
namespace Ew
open PySem PySem.Spec PyProof.Rows L2
theorem RowsAt.last {H : Hp} : ∀ {vs : List V} {rs : List (List Int)}, RowsAt H vs rs → rs ≠ [] → ∃ vs' q rs' r, vs = vs' ++ [.ref q] ∧ rs = rs' ++ [r] ∧ H q = some (.tup (r.map V.int))
  | _, _, .nil, h => absurd rfl h
  | _, _, @RowsAt.cons _ a vs r rs h t, _ => by
    cases rs with
    | nil =>
      cases t
      exact ⟨[], a, [], r, rfl, rfl, h⟩
    | cons r1 rs1 =>
      obtain ⟨vs', q, rs', r', e1, e2, hq⟩ := RowsAt.last t (by intro z; cases z)
      exact ⟨.ref a :: vs', q, r :: rs', r', by rw [e1]; rfl, by rw [e2]; rfl, hq⟩
end Ew
namespace Ew
open PySem PySem.Spec PyProof.Rows L2
/-- an item of a written row of whole numbers, at any place within it -/
theorem ixI {K : PySem.W.Frag} {H : Hp} {p : Addr} {vs : List V} {ns : List Int} {i : Int} {R : V → Prop} (h : SqL K H p vs) (e : intsOf vs = some ns) (h0 : 0 ≤ i) (h1 : i < ns.length) (k : ∀ z, z ∈ ns → R (.int z)) :
    ∃ p' xs' i' v', V.ref p = .ref p' ∧ V.int i = .int i' ∧ SqL K H p' xs' ∧ atI xs' i' = some v' ∧ R v' := by
  have q := intsOf_map e
  subst q
  have hi : i.toNat < ns.length := by omega
  refine ⟨p, _, i, .int ns[i.toNat], rfl, rfl, h, ?_, k _ (List.getElem_mem hi)⟩
  exact at_of (j := i.toNat) (by omega) (by rw [List.getElem?_map, List.getElem?_eq_getElem hi]; rfl)
/-- a list or a tuple -/
def Sq2 (H : Hp) (a : Addr) (vs : List V) : Prop := H a = some (.lst vs) ∨ H a = some (.tup vs)
theorem ixQ {K : PySem.W.Frag} {H : Hp} {p : Addr} {xs : List V} {i : Int} {v : V} {R : V → Prop} {Z : Prop} (h : Sq2 H p xs) (e : atI xs i = some v) (k : R v) :
    (∃ p' xs' i' v', V.ref p = .ref p' ∧ V.int i = .int i' ∧ SqL K H p' xs' ∧ atI xs' i' = some v' ∧ R v') ∨ (∃ p' xs' i' v', V.ref p = .ref p' ∧ V.int i = .int i' ∧ SqT K H p' xs' ∧ atI xs' i' = some v' ∧ R v') ∨ Z := by
  rcases h with h | h
  · exact .inl (ixL (SqL.of h) e k)
  · exact .inr (.inl (ixT (SqT.of h) e k))
end Ew
namespace Ew
open PySem PySem.Spec PyProof.Rows L2
/-! slices, by what they come to -/
def rSlE (K : PySem.W.Frag) : V → Option Int → Option Int → Hp → VK → Prop := fun x lo hi H Q => ∃ a xs ys, x = .ref a ∧ SqL K H a xs ∧ cutV xs lo hi = ys ∧ ∀ p, H p = none → Q (.ref p) (upd H p (.lst ys))
theorem sl_listE {X : Cx} : SlR X (rSlE X.K) := fun pins s σ H x v vl vu lo hi sl Q I rx hs pl pu ⟨a, xs, ys, h1, h2, h3, h4⟩ =>
  sl_list pins s σ H x v vl vu lo hi sl Q I rx hs pl pu ⟨a, xs, h1, h2, fun p hp => h3 ▸ h4 p hp⟩
def rSlTE (K : PySem.W.Frag) : V → Option Int → Option Int → Hp → VK → Prop := fun x lo hi H Q => ∃ a xs ys, x = .ref a ∧ SqT K H a xs ∧ cutV xs lo hi = ys ∧ ys.length < xs.length ∧ ∀ p, H p = none → Q (.ref p) (upd H p (.tup ys))
theorem sl_tupE {X : Cx} : SlR X (rSlTE X.K) := fun pins s σ H x v vl vu lo hi sl Q I rx hs pl pu ⟨a, xs, ys, h1, h2, h3, h5, h4⟩ =>
  sl_tup pins s σ H x v vl vu lo hi sl Q I rx hs pl pu ⟨a, xs, h1, h2, fun ⟨e1, e2⟩ => by
    have e3 : cutV xs lo hi = xs := by unfold cutV; rw [e1, e2]; simp
    rw [← h3, e3] at h5
    exact Nat.lt_irrefl _ h5, fun p hp => h3 ▸ h4 p hp⟩
section
variable {a b c d : V}
theorem cut_lo2 : cutV [a, b, c, d] none (some 2) = [a, b] := rfl
theorem cut_hi2 : cutV [a, b, c, d] (some 2) none = [c, d] := rfl
end
end Ew

namespace Ew
open PySem PySem.Spec PyProof.Rows L2
section
variable {prog : Program} {w : World} {A : Around} {E : Value → Shared → Prop} {s : Shared}
/-- what max asks of the tuple of its arguments -/
def Askmax (prog : Program) (w : World) (A : Around) (Q : Value → Shared → Prop) (it : Value) (s₂ : Shared) : Prop := ∃ I fp wr n P St bt, it = .ref I ∧ Walks prog w A.in1 I fp wr n P St ∧ St 0 s₂.heap ∧ (∀ b ∈ fp, b < s₂.heap.objs.size) ∧ 0 < n ∧ CmpOf prog w A.in1 .Gt P bt ∧
  ∀ v h' tk, P (argBest bt (n - 1)) v → (∀ b o, b ∉ wr → s₂.heap.get? b = some o → h'.get? b = some o) → Q v { s₂ with heap := h', toks := tk }
theorem ask_max {xs : Array (Int × Tok)} {Q : Value → Shared → Prop} {c : Sem Value} (hh : A.handled = none) (hne : 0 < xs.size)
    (hc : wpAny (model prog w) A.in1 (pyIter (.ref s.heap.objs.size)) (Askmax prog w A Q) E { s with heap := s.heap.push { cls := .type "tuple", data := .seq (intItems xs) } } → wpAny (model prog w) A c Q E s)
    (h : ∀ h' tk M t', (∀ d o, s.heap.get? d = some o → h'.get? d = some o) → M ∈ xs.toList.map (·.1) → (∀ a, a ∈ xs.toList.map (·.1) → a ≤ M) → Q (.int M t') { s with heap := h', toks := tk }) : wpAny (model prog w) A c Q E s := by
  have hT : (s.heap.push { cls := .type "tuple", data := .seq (intItems xs) }).IsTuple s.heap.objs.size (intItems xs) := ⟨_, Heap.get?_push_size _ rfl, rfl, 0, rfl⟩
  have hsz : (s.heap.push { cls := .type "tuple", data := .seq (intItems xs) }).objs.size = s.heap.objs.size + 1 := Heap.size_push ..
  have hln : (intItems xs).size = xs.size := by simp [intItems]
  refine hc (wpAny_pyIter_tuple hT ?_)
  refine ⟨_, [_, s.heap.objs.size], [_], _, _, _, _, rfl, Walks.tuple (A := A.in1) hh _ s.heap.objs.size (by rw [hsz]; exact Nat.ne_of_lt (Nat.lt_succ_self _)) (intItems xs),
    ⟨⟨_, Heap.get?_push_size _ rfl, rfl, rfl⟩, hT.push _⟩, fun d hd => ?_, by rw [hln]; exact hne, CmpOf.ints_gt (numAt xs) (fun _ _ => intItems_at), fun v h' tk hP hk => ?_⟩
  · show d < ((s.heap.push _).push _).objs.size
    rw [Heap.size_push, hsz]
    rcases List.mem_cons.mp hd with e | hd
    · rw [e, hsz]; exact Nat.lt_succ_self _
    · rw [List.mem_singleton.mp hd]; exact Nat.lt_succ_of_lt (Nat.lt_succ_self _)
  · have hold : ∀ d o, s.heap.get? d = some o → h'.get? d = some o := fun d o e => by
      refine hk d o (fun hm => ?_) (Heap.get?_push_of_some _ (Heap.get?_push_of_some _ e))
      have := Heap.lt_size e
      rw [List.mem_singleton.mp hm, hsz] at this
      exact Nat.lt_irrefl _ (Nat.lt_of_succ_lt this)
    obtain ⟨t, rfl⟩ := intItems_at hP
    obtain ⟨h1, h2⟩ := argBest_gt (numAt xs) ((intItems xs).size - 1)
    refine h h' tk _ t hold ?_ fun a ha => ?_
    · rw [numAt_eq]; exact PySem.getD_mem (by rw [List.length_map, Array.length_toList]; omega)
    · obtain ⟨j, hj, rfl⟩ := PySem.mem_getD ha
      rw [List.length_map, Array.length_toList] at hj
      rw [← numAt_eq]; exact h2 j (by omega)
theorem args_max3 (a0 a1 a2 : Value) : argsOk "max" ⟨[a0, a1, a2], []⟩ := by unfold argsOk; kernel_rfl
theorem tree_max3 {a0 a1 a2 : Value} {Q : Value → Shared → Prop} (h : wpAny (model prog w) A.in1 (pyIter (.ref s.heap.objs.size)) (Askmax prog w A Q) E { s with heap := s.heap.push { cls := .type "tuple", data := .seq #[a0, a1, a2] } }) : wpAny (model prog w) A (call (.builtin "max") [a0, a1, a2]) Q E s := by
  have hname : (toString "max" ++ toString ".loop" : String) = "max.loop" := by decide
  refine call_function_tree F.kind_max F.plain_max F.entry_max (args_max3 _ _ _) ?_
  show wpAny _ A.in1 (Builtin.Builtins.bindParams "max" ["key", "default"] 0 ⟨[], []⟩ >>= _) _ _ s
  refine wpAny_bind (wpAny_of_eq (show Builtin.Builtins.bindParams "max" ["key", "default"] 0 ⟨[], []⟩ = pure [none, none] from rfl) ?_)
  show wpAny _ A.in1 (newTuple [a0, a1, a2] >>= _) _ _ s
  refine wpAny_bind (wpAny_newObj_type ?_)
  refine wpAny_bind (wpAny_mono h (fun it s₂ h₂ => ?_) fun _ _ e => e)
  obtain ⟨I, fp, wr, n, P, St, bt, rfl, W, hst, hfp, hn, hcmp, hQ⟩ := h₂
  refine wpAny_bind (wpAny_newObj_type ?_)
  have hSf : s₂.heap.objs.size ∉ fp := fun hm => Nat.lt_irrefl _ (hfp _ hm)
  rw [hname]
  refine wpAny_pure ⟨plainId_quiet F.plain_max_loop _, codeAny_max_loop_first W bt hcmp s₂.heap.objs.size hSf hn (W.frame _ _ _ hst fun b _ o e => Heap.get?_push_of_some _ e) (Heap.get?_push_size _ rfl) fun v h' tk hP hk => ?_⟩
  exact hQ v h' tk hP fun b o hbw e => hk b o hbw (Nat.ne_of_lt (Heap.lt_size e)) (Heap.get?_push_of_some _ e)
theorem args_max4 (a0 a1 a2 a3 : Value) : argsOk "max" ⟨[a0, a1, a2, a3], []⟩ := by unfold argsOk; kernel_rfl
theorem tree_max4 {a0 a1 a2 a3 : Value} {Q : Value → Shared → Prop} (h : wpAny (model prog w) A.in1 (pyIter (.ref s.heap.objs.size)) (Askmax prog w A Q) E { s with heap := s.heap.push { cls := .type "tuple", data := .seq #[a0, a1, a2, a3] } }) : wpAny (model prog w) A (call (.builtin "max") [a0, a1, a2, a3]) Q E s := by
  have hname : (toString "max" ++ toString ".loop" : String) = "max.loop" := by decide
  refine call_function_tree F.kind_max F.plain_max F.entry_max (args_max4 _ _ _ _) ?_
  show wpAny _ A.in1 (Builtin.Builtins.bindParams "max" ["key", "default"] 0 ⟨[], []⟩ >>= _) _ _ s
  refine wpAny_bind (wpAny_of_eq (show Builtin.Builtins.bindParams "max" ["key", "default"] 0 ⟨[], []⟩ = pure [none, none] from rfl) ?_)
  show wpAny _ A.in1 (newTuple [a0, a1, a2, a3] >>= _) _ _ s
  refine wpAny_bind (wpAny_newObj_type ?_)
  refine wpAny_bind (wpAny_mono h (fun it s₂ h₂ => ?_) fun _ _ e => e)
  obtain ⟨I, fp, wr, n, P, St, bt, rfl, W, hst, hfp, hn, hcmp, hQ⟩ := h₂
  refine wpAny_bind (wpAny_newObj_type ?_)
  have hSf : s₂.heap.objs.size ∉ fp := fun hm => Nat.lt_irrefl _ (hfp _ hm)
  rw [hname]
  refine wpAny_pure ⟨plainId_quiet F.plain_max_loop _, codeAny_max_loop_first W bt hcmp s₂.heap.objs.size hSf hn (W.frame _ _ _ hst fun b _ o e => Heap.get?_push_of_some _ e) (Heap.get?_push_size _ rfl) fun v h' tk hP hk => ?_⟩
  exact hQ v h' tk hP fun b o hbw e => hk b o hbw (Nat.ne_of_lt (Heap.lt_size e)) (Heap.get?_push_of_some _ e)
theorem args_max5 (a0 a1 a2 a3 a4 : Value) : argsOk "max" ⟨[a0, a1, a2, a3, a4], []⟩ := by unfold argsOk; kernel_rfl
theorem tree_max5 {a0 a1 a2 a3 a4 : Value} {Q : Value → Shared → Prop} (h : wpAny (model prog w) A.in1 (pyIter (.ref s.heap.objs.size)) (Askmax prog w A Q) E { s with heap := s.heap.push { cls := .type "tuple", data := .seq #[a0, a1, a2, a3, a4] } }) : wpAny (model prog w) A (call (.builtin "max") [a0, a1, a2, a3, a4]) Q E s := by
  have hname : (toString "max" ++ toString ".loop" : String) = "max.loop" := by decide
  refine call_function_tree F.kind_max F.plain_max F.entry_max (args_max5 _ _ _ _ _) ?_
  show wpAny _ A.in1 (Builtin.Builtins.bindParams "max" ["key", "default"] 0 ⟨[], []⟩ >>= _) _ _ s
  refine wpAny_bind (wpAny_of_eq (show Builtin.Builtins.bindParams "max" ["key", "default"] 0 ⟨[], []⟩ = pure [none, none] from rfl) ?_)
  show wpAny _ A.in1 (newTuple [a0, a1, a2, a3, a4] >>= _) _ _ s
  refine wpAny_bind (wpAny_newObj_type ?_)
  refine wpAny_bind (wpAny_mono h (fun it s₂ h₂ => ?_) fun _ _ e => e)
  obtain ⟨I, fp, wr, n, P, St, bt, rfl, W, hst, hfp, hn, hcmp, hQ⟩ := h₂
  refine wpAny_bind (wpAny_newObj_type ?_)
  have hSf : s₂.heap.objs.size ∉ fp := fun hm => Nat.lt_irrefl _ (hfp _ hm)
  rw [hname]
  refine wpAny_pure ⟨plainId_quiet F.plain_max_loop _, codeAny_max_loop_first W bt hcmp s₂.heap.objs.size hSf hn (W.frame _ _ _ hst fun b _ o e => Heap.get?_push_of_some _ e) (Heap.get?_push_size _ rfl) fun v h' tk hP hk => ?_⟩
  exact hQ v h' tk hP fun b o hbw e => hk b o hbw (Nat.ne_of_lt (Heap.lt_size e)) (Heap.get?_push_of_some _ e)
end
section
variable {X : Cx}
theorem call_max3 (hc : X.calm = true) : CallR X (.builtin "max") (fun xs H Q => ∃ a0 a1 a2 : Int, xs = [.int a0, .int a1, .int a2] ∧ ∀ m, (m = a0 ∨ m = a1 ∨ m = a2) → a0 ≤ m → a1 ≤ m → a2 ≤ m → Q (.int m) H) := by
  intro pins s σ H xs us Q I r h
  obtain ⟨a0, a1, a2, rfl, q⟩ := h
  cases r with | cons q0 r0 =>
  obtain ⟨t0, rfl⟩ := q0
  cases r0 with | cons q1 r1 =>
  obtain ⟨t1, rfl⟩ := q1
  cases r1 with | cons q2 r2 =>
  obtain ⟨t2, rfl⟩ := q2
  cases r2
  refine ask_max (xs := #[(a0, t0), (a1, t1), (a2, t2)]) (I.ok.hd hc) (by simp) (fun h => tree_max3 (by simpa [intItems] using h)) fun h' tk M t' hk hm hle => ⟨.int M, H, I.kept hk, ⟨_, rfl⟩, q M ?_ (hle _ (by simp)) (hle _ (by simp)) (hle _ (by simp))⟩
  · simpa using hm
theorem call_max4 (hc : X.calm = true) : CallR X (.builtin "max") (fun xs H Q => ∃ a0 a1 a2 a3 : Int, xs = [.int a0, .int a1, .int a2, .int a3] ∧ ∀ m, (m = a0 ∨ m = a1 ∨ m = a2 ∨ m = a3) → a0 ≤ m → a1 ≤ m → a2 ≤ m → a3 ≤ m → Q (.int m) H) := by
  intro pins s σ H xs us Q I r h
  obtain ⟨a0, a1, a2, a3, rfl, q⟩ := h
  cases r with | cons q0 r0 =>
  obtain ⟨t0, rfl⟩ := q0
  cases r0 with | cons q1 r1 =>
  obtain ⟨t1, rfl⟩ := q1
  cases r1 with | cons q2 r2 =>
  obtain ⟨t2, rfl⟩ := q2
  cases r2 with | cons q3 r3 =>
  obtain ⟨t3, rfl⟩ := q3
  cases r3
  refine ask_max (xs := #[(a0, t0), (a1, t1), (a2, t2), (a3, t3)]) (I.ok.hd hc) (by simp) (fun h => tree_max4 (by simpa [intItems] using h)) fun h' tk M t' hk hm hle => ⟨.int M, H, I.kept hk, ⟨_, rfl⟩, q M ?_ (hle _ (by simp)) (hle _ (by simp)) (hle _ (by simp)) (hle _ (by simp))⟩
  · simpa using hm
theorem call_max5 (hc : X.calm = true) : CallR X (.builtin "max") (fun xs H Q => ∃ a0 a1 a2 a3 a4 : Int, xs = [.int a0, .int a1, .int a2, .int a3, .int a4] ∧ ∀ m, (m = a0 ∨ m = a1 ∨ m = a2 ∨ m = a3 ∨ m = a4) → a0 ≤ m → a1 ≤ m → a2 ≤ m → a3 ≤ m → a4 ≤ m → Q (.int m) H) := by
  intro pins s σ H xs us Q I r h
  obtain ⟨a0, a1, a2, a3, a4, rfl, q⟩ := h
  cases r with | cons q0 r0 =>
  obtain ⟨t0, rfl⟩ := q0
  cases r0 with | cons q1 r1 =>
  obtain ⟨t1, rfl⟩ := q1
  cases r1 with | cons q2 r2 =>
  obtain ⟨t2, rfl⟩ := q2
  cases r2 with | cons q3 r3 =>
  obtain ⟨t3, rfl⟩ := q3
  cases r3 with | cons q4 r4 =>
  obtain ⟨t4, rfl⟩ := q4
  cases r4
  refine ask_max (xs := #[(a0, t0), (a1, t1), (a2, t2), (a3, t3), (a4, t4)]) (I.ok.hd hc) (by simp) (fun h => tree_max5 (by simpa [intItems] using h)) fun h' tk M t' hk hm hle => ⟨.int M, H, I.kept hk, ⟨_, rfl⟩, q M ?_ (hle _ (by simp)) (hle _ (by simp)) (hle _ (by simp)) (hle _ (by simp)) (hle _ (by simp))⟩
  · simpa using hm
end
section
variable {prog : Program} {w : World} {A : Around} {E : Value → Shared → Prop} {s : Shared}
/-- what min asks of the tuple of its arguments -/
def Askmin (prog : Program) (w : World) (A : Around) (Q : Value → Shared → Prop) (it : Value) (s₂ : Shared) : Prop := ∃ I fp wr n P St bt, it = .ref I ∧ Walks prog w A.in1 I fp wr n P St ∧ St 0 s₂.heap ∧ (∀ b ∈ fp, b < s₂.heap.objs.size) ∧ 0 < n ∧ CmpOf prog w A.in1 .Lt P bt ∧
  ∀ v h' tk, P (argBest bt (n - 1)) v → (∀ b o, b ∉ wr → s₂.heap.get? b = some o → h'.get? b = some o) → Q v { s₂ with heap := h', toks := tk }
theorem ask_min {xs : Array (Int × Tok)} {Q : Value → Shared → Prop} {c : Sem Value} (hh : A.handled = none) (hne : 0 < xs.size)
    (hc : wpAny (model prog w) A.in1 (pyIter (.ref s.heap.objs.size)) (Askmin prog w A Q) E { s with heap := s.heap.push { cls := .type "tuple", data := .seq (intItems xs) } } → wpAny (model prog w) A c Q E s)
    (h : ∀ h' tk M t', (∀ d o, s.heap.get? d = some o → h'.get? d = some o) → M ∈ xs.toList.map (·.1) → (∀ a, a ∈ xs.toList.map (·.1) → M ≤ a) → Q (.int M t') { s with heap := h', toks := tk }) : wpAny (model prog w) A c Q E s := by
  have hT : (s.heap.push { cls := .type "tuple", data := .seq (intItems xs) }).IsTuple s.heap.objs.size (intItems xs) := ⟨_, Heap.get?_push_size _ rfl, rfl, 0, rfl⟩
  have hsz : (s.heap.push { cls := .type "tuple", data := .seq (intItems xs) }).objs.size = s.heap.objs.size + 1 := Heap.size_push ..
  have hln : (intItems xs).size = xs.size := by simp [intItems]
  refine hc (wpAny_pyIter_tuple hT ?_)
  refine ⟨_, [_, s.heap.objs.size], [_], _, _, _, _, rfl, Walks.tuple (A := A.in1) hh _ s.heap.objs.size (by rw [hsz]; exact Nat.ne_of_lt (Nat.lt_succ_self _)) (intItems xs),
    ⟨⟨_, Heap.get?_push_size _ rfl, rfl, rfl⟩, hT.push _⟩, fun d hd => ?_, by rw [hln]; exact hne, CmpOf.ints_lt (numAt xs) (fun _ _ => intItems_at), fun v h' tk hP hk => ?_⟩
  · show d < ((s.heap.push _).push _).objs.size
    rw [Heap.size_push, hsz]
    rcases List.mem_cons.mp hd with e | hd
    · rw [e, hsz]; exact Nat.lt_succ_self _
    · rw [List.mem_singleton.mp hd]; exact Nat.lt_succ_of_lt (Nat.lt_succ_self _)
  · have hold : ∀ d o, s.heap.get? d = some o → h'.get? d = some o := fun d o e => by
      refine hk d o (fun hm => ?_) (Heap.get?_push_of_some _ (Heap.get?_push_of_some _ e))
      have := Heap.lt_size e
      rw [List.mem_singleton.mp hm, hsz] at this
      exact Nat.lt_irrefl _ (Nat.lt_of_succ_lt this)
    obtain ⟨t, rfl⟩ := intItems_at hP
    obtain ⟨h1, h2⟩ := argBest_lt (numAt xs) ((intItems xs).size - 1)
    refine h h' tk _ t hold ?_ fun a ha => ?_
    · rw [numAt_eq]; exact PySem.getD_mem (by rw [List.length_map, Array.length_toList]; omega)
    · obtain ⟨j, hj, rfl⟩ := PySem.mem_getD ha
      rw [List.length_map, Array.length_toList] at hj
      rw [← numAt_eq]; exact h2 j (by omega)
theorem args_min3 (a0 a1 a2 : Value) : argsOk "min" ⟨[a0, a1, a2], []⟩ := by unfold argsOk; kernel_rfl
theorem tree_min3 {a0 a1 a2 : Value} {Q : Value → Shared → Prop} (h : wpAny (model prog w) A.in1 (pyIter (.ref s.heap.objs.size)) (Askmin prog w A Q) E { s with heap := s.heap.push { cls := .type "tuple", data := .seq #[a0, a1, a2] } }) : wpAny (model prog w) A (call (.builtin "min") [a0, a1, a2]) Q E s := by
  have hname : (toString "min" ++ toString ".loop" : String) = "min.loop" := by decide
  refine call_function_tree F.kind_min F.plain_min F.entry_min (args_min3 _ _ _) ?_
  show wpAny _ A.in1 (Builtin.Builtins.bindParams "min" ["key", "default"] 0 ⟨[], []⟩ >>= _) _ _ s
  refine wpAny_bind (wpAny_of_eq (show Builtin.Builtins.bindParams "min" ["key", "default"] 0 ⟨[], []⟩ = pure [none, none] from rfl) ?_)
  show wpAny _ A.in1 (newTuple [a0, a1, a2] >>= _) _ _ s
  refine wpAny_bind (wpAny_newObj_type ?_)
  refine wpAny_bind (wpAny_mono h (fun it s₂ h₂ => ?_) fun _ _ e => e)
  obtain ⟨I, fp, wr, n, P, St, bt, rfl, W, hst, hfp, hn, hcmp, hQ⟩ := h₂
  refine wpAny_bind (wpAny_newObj_type ?_)
  have hSf : s₂.heap.objs.size ∉ fp := fun hm => Nat.lt_irrefl _ (hfp _ hm)
  rw [hname]
  refine wpAny_pure ⟨plainId_quiet F.plain_min_loop _, codeAny_min_loop_first W bt hcmp s₂.heap.objs.size hSf hn (W.frame _ _ _ hst fun b _ o e => Heap.get?_push_of_some _ e) (Heap.get?_push_size _ rfl) fun v h' tk hP hk => ?_⟩
  exact hQ v h' tk hP fun b o hbw e => hk b o hbw (Nat.ne_of_lt (Heap.lt_size e)) (Heap.get?_push_of_some _ e)
theorem args_min4 (a0 a1 a2 a3 : Value) : argsOk "min" ⟨[a0, a1, a2, a3], []⟩ := by unfold argsOk; kernel_rfl
theorem tree_min4 {a0 a1 a2 a3 : Value} {Q : Value → Shared → Prop} (h : wpAny (model prog w) A.in1 (pyIter (.ref s.heap.objs.size)) (Askmin prog w A Q) E { s with heap := s.heap.push { cls := .type "tuple", data := .seq #[a0, a1, a2, a3] } }) : wpAny (model prog w) A (call (.builtin "min") [a0, a1, a2, a3]) Q E s := by
  have hname : (toString "min" ++ toString ".loop" : String) = "min.loop" := by decide
  refine call_function_tree F.kind_min F.plain_min F.entry_min (args_min4 _ _ _ _) ?_
  show wpAny _ A.in1 (Builtin.Builtins.bindParams "min" ["key", "default"] 0 ⟨[], []⟩ >>= _) _ _ s
  refine wpAny_bind (wpAny_of_eq (show Builtin.Builtins.bindParams "min" ["key", "default"] 0 ⟨[], []⟩ = pure [none, none] from rfl) ?_)
  show wpAny _ A.in1 (newTuple [a0, a1, a2, a3] >>= _) _ _ s
  refine wpAny_bind (wpAny_newObj_type ?_)
  refine wpAny_bind (wpAny_mono h (fun it s₂ h₂ => ?_) fun _ _ e => e)
  obtain ⟨I, fp, wr, n, P, St, bt, rfl, W, hst, hfp, hn, hcmp, hQ⟩ := h₂
  refine wpAny_bind (wpAny_newObj_type ?_)
  have hSf : s₂.heap.objs.size ∉ fp := fun hm => Nat.lt_irrefl _ (hfp _ hm)
  rw [hname]
  refine wpAny_pure ⟨plainId_quiet F.plain_min_loop _, codeAny_min_loop_first W bt hcmp s₂.heap.objs.size hSf hn (W.frame _ _ _ hst fun b _ o e => Heap.get?_push_of_some _ e) (Heap.get?_push_size _ rfl) fun v h' tk hP hk => ?_⟩
  exact hQ v h' tk hP fun b o hbw e => hk b o hbw (Nat.ne_of_lt (Heap.lt_size e)) (Heap.get?_push_of_some _ e)
theorem args_min5 (a0 a1 a2 a3 a4 : Value) : argsOk "min" ⟨[a0, a1, a2, a3, a4], []⟩ := by unfold argsOk; kernel_rfl
theorem tree_min5 {a0 a1 a2 a3 a4 : Value} {Q : Value → Shared → Prop} (h : wpAny (model prog w) A.in1 (pyIter (.ref s.heap.objs.size)) (Askmin prog w A Q) E { s with heap := s.heap.push { cls := .type "tuple", data := .seq #[a0, a1, a2, a3, a4] } }) : wpAny (model prog w) A (call (.builtin "min") [a0, a1, a2, a3, a4]) Q E s := by
  have hname : (toString "min" ++ toString ".loop" : String) = "min.loop" := by decide
  refine call_function_tree F.kind_min F.plain_min F.entry_min (args_min5 _ _ _ _ _) ?_
  show wpAny _ A.in1 (Builtin.Builtins.bindParams "min" ["key", "default"] 0 ⟨[], []⟩ >>= _) _ _ s
  refine wpAny_bind (wpAny_of_eq (show Builtin.Builtins.bindParams "min" ["key", "default"] 0 ⟨[], []⟩ = pure [none, none] from rfl) ?_)
  show wpAny _ A.in1 (newTuple [a0, a1, a2, a3, a4] >>= _) _ _ s
  refine wpAny_bind (wpAny_newObj_type ?_)
  refine wpAny_bind (wpAny_mono h (fun it s₂ h₂ => ?_) fun _ _ e => e)
  obtain ⟨I, fp, wr, n, P, St, bt, rfl, W, hst, hfp, hn, hcmp, hQ⟩ := h₂
  refine wpAny_bind (wpAny_newObj_type ?_)
  have hSf : s₂.heap.objs.size ∉ fp := fun hm => Nat.lt_irrefl _ (hfp _ hm)
  rw [hname]
  refine wpAny_pure ⟨plainId_quiet F.plain_min_loop _, codeAny_min_loop_first W bt hcmp s₂.heap.objs.size hSf hn (W.frame _ _ _ hst fun b _ o e => Heap.get?_push_of_some _ e) (Heap.get?_push_size _ rfl) fun v h' tk hP hk => ?_⟩
  exact hQ v h' tk hP fun b o hbw e => hk b o hbw (Nat.ne_of_lt (Heap.lt_size e)) (Heap.get?_push_of_some _ e)
end
section
variable {X : Cx}
theorem call_min3 (hc : X.calm = true) : CallR X (.builtin "min") (fun xs H Q => ∃ a0 a1 a2 : Int, xs = [.int a0, .int a1, .int a2] ∧ ∀ m, (m = a0 ∨ m = a1 ∨ m = a2) → m ≤ a0 → m ≤ a1 → m ≤ a2 → Q (.int m) H) := by
  intro pins s σ H xs us Q I r h
  obtain ⟨a0, a1, a2, rfl, q⟩ := h
  cases r with | cons q0 r0 =>
  obtain ⟨t0, rfl⟩ := q0
  cases r0 with | cons q1 r1 =>
  obtain ⟨t1, rfl⟩ := q1
  cases r1 with | cons q2 r2 =>
  obtain ⟨t2, rfl⟩ := q2
  cases r2
  refine ask_min (xs := #[(a0, t0), (a1, t1), (a2, t2)]) (I.ok.hd hc) (by simp) (fun h => tree_min3 (by simpa [intItems] using h)) fun h' tk M t' hk hm hle => ⟨.int M, H, I.kept hk, ⟨_, rfl⟩, q M ?_ (hle _ (by simp)) (hle _ (by simp)) (hle _ (by simp))⟩
  · simpa using hm
theorem call_min4 (hc : X.calm = true) : CallR X (.builtin "min") (fun xs H Q => ∃ a0 a1 a2 a3 : Int, xs = [.int a0, .int a1, .int a2, .int a3] ∧ ∀ m, (m = a0 ∨ m = a1 ∨ m = a2 ∨ m = a3) → m ≤ a0 → m ≤ a1 → m ≤ a2 → m ≤ a3 → Q (.int m) H) := by
  intro pins s σ H xs us Q I r h
  obtain ⟨a0, a1, a2, a3, rfl, q⟩ := h
  cases r with | cons q0 r0 =>
  obtain ⟨t0, rfl⟩ := q0
  cases r0 with | cons q1 r1 =>
  obtain ⟨t1, rfl⟩ := q1
  cases r1 with | cons q2 r2 =>
  obtain ⟨t2, rfl⟩ := q2
  cases r2 with | cons q3 r3 =>
  obtain ⟨t3, rfl⟩ := q3
  cases r3
  refine ask_min (xs := #[(a0, t0), (a1, t1), (a2, t2), (a3, t3)]) (I.ok.hd hc) (by simp) (fun h => tree_min4 (by simpa [intItems] using h)) fun h' tk M t' hk hm hle => ⟨.int M, H, I.kept hk, ⟨_, rfl⟩, q M ?_ (hle _ (by simp)) (hle _ (by simp)) (hle _ (by simp)) (hle _ (by simp))⟩
  · simpa using hm
theorem call_min5 (hc : X.calm = true) : CallR X (.builtin "min") (fun xs H Q => ∃ a0 a1 a2 a3 a4 : Int, xs = [.int a0, .int a1, .int a2, .int a3, .int a4] ∧ ∀ m, (m = a0 ∨ m = a1 ∨ m = a2 ∨ m = a3 ∨ m = a4) → m ≤ a0 → m ≤ a1 → m ≤ a2 → m ≤ a3 → m ≤ a4 → Q (.int m) H) := by
  intro pins s σ H xs us Q I r h
  obtain ⟨a0, a1, a2, a3, a4, rfl, q⟩ := h
  cases r with | cons q0 r0 =>
  obtain ⟨t0, rfl⟩ := q0
  cases r0 with | cons q1 r1 =>
  obtain ⟨t1, rfl⟩ := q1
  cases r1 with | cons q2 r2 =>
  obtain ⟨t2, rfl⟩ := q2
  cases r2 with | cons q3 r3 =>
  obtain ⟨t3, rfl⟩ := q3
  cases r3 with | cons q4 r4 =>
  obtain ⟨t4, rfl⟩ := q4
  cases r4
  refine ask_min (xs := #[(a0, t0), (a1, t1), (a2, t2), (a3, t3), (a4, t4)]) (I.ok.hd hc) (by simp) (fun h => tree_min5 (by simpa [intItems] using h)) fun h' tk M t' hk hm hle => ⟨.int M, H, I.kept hk, ⟨_, rfl⟩, q M ?_ (hle _ (by simp)) (hle _ (by simp)) (hle _ (by simp)) (hle _ (by simp)) (hle _ (by simp))⟩
  · simpa using hm
end
end Ew
namespace Ew
open PySem PySem.Spec PyProof.Rows L2
/-- an item of a written row, by its place -/
theorem ixJ {K : PySem.W.Frag} {H : Hp} {p : Addr} {vs : List V} {ns : List Int} {i : Int} {R : V → Prop} (h : SqL K H p vs) (e : intsOf vs = some ns) (h0 : 0 ≤ i) (h1 : i < ns.length) (k : ∀ z, ns[i.toNat]? = some z → R (.int z)) :
    ∃ p' xs' i' v', V.ref p = .ref p' ∧ V.int i = .int i' ∧ SqL K H p' xs' ∧ atI xs' i' = some v' ∧ R v' := by
  have q := intsOf_map e
  subst q
  have hi : i.toNat < ns.length := by omega
  refine ⟨p, _, i, .int ns[i.toNat], rfl, rfl, h, ?_, k _ (List.getElem?_eq_getElem hi)⟩
  exact at_of (j := i.toNat) (by omega) (by rw [List.getElem?_map, List.getElem?_eq_getElem hi]; rfl)
theorem stretch_lists {i z1 z2 : Int} (h0 : 0 ≤ i) (h1 : i < 4) (e1 : ([-5, -1000000000000, 1000000000000, -1000000000000] : List Int)[i.toNat]? = some z1) (e2 : ([11, 2 * 1000000000000 + 1, 1, 1] : List Int)[i.toNat]? = some z2) :
    0 < z2 ∧ -1000000000000 ≤ z1 ∧ z1 + z2 ≤ 1000000000001 := by
  obtain rfl | rfl | rfl | rfl : i = 0 ∨ i = 1 ∨ i = 2 ∨ i = 3 := by omega
  all_goals
    cases e1
    cases e2
    decide
end Ew

namespace Ew
open PySem PySem.Spec PyProof.Rows L2
/-- an end: x, y, start, load -/
structure En where
  x : Int
  y : Int
  s : Int
  l : Int
def En.row (e : En) : List Int := [e.x, e.y, e.s, e.l]
/-- in the bounds -/
structure En.Ok (e : En) : Prop where
  x0 : -1000000 ≤ e.x
  x1 : e.x ≤ 1000000
  y0 : -1000000 ≤ e.y
  y1 : e.y ≤ 1000000
  s0 : 0 ≤ e.s
  s1 : e.s ≤ 1000000
  l0 : 0 ≤ e.l
  l1 : e.l ≤ 1000000
/-- ends, a tuple of tuples -/
def EndsAt (H : Hp) (a : Addr) (es : List En) : Prop := ∃ vs, H a = some (.tup vs) ∧ RowsAt H vs (es.map En.row)
theorem EndsAt.evo {S : List Addr} {H H' : Hp} {a : Addr} {es : List En} (e : Evo S H H') (h : EndsAt H a es) : EndsAt H' a es := by
  obtain ⟨vs, h1, h2⟩ := h
  exact ⟨vs, e.tupE h1, h2.evo e⟩
theorem EndsAt.new {H : Hp} {a p : Addr} {o : HO} {es : List En} (hp : H p = none) (h : EndsAt H a es) : EndsAt (upd H p o) a es := h.evo ((Evo.refl [] H).new hp)
theorem EndsAt.mut {H : Hp} {a p : Addr} {o : HO} {ys : List V} {es : List En} (hp : H p = some (.lst ys)) (h : EndsAt H a es) : EndsAt (upd H p o) a es := by
  obtain ⟨vs, h1, h2⟩ := h
  exact ⟨vs, tup_mut hp h1, h2.mut hp⟩
theorem RowsAt.at {H : Hp} {vs : List V} {es : List En} {i : Nat} {e : En} (h : RowsAt H vs (es.map En.row)) (he : es[i]? = some e) : ∃ a, vs[i]? = some (.ref a) ∧ H a = some (.tup [.int e.x, .int e.y, .int e.s, .int e.l]) :=
  h.get (r := e.row) (by rw [List.getElem?_map, he]; rfl)
section
variable {K : PySem.W.Frag} {H : Hp} {a p : Addr} {es : List En} {e : En} {i : Int} {vs : List V} {R : V → Prop}
/-- ends[i] -/
theorem ixE (h : EndsAt H a es) (h0 : 0 ≤ i) (he : es[i.toNat]? = some e) (k : ∀ q, H q = some (.tup [.int e.x, .int e.y, .int e.s, .int e.l]) → R (.ref q)) : ∃ p' xs' i' v', V.ref a = .ref p' ∧ V.int i = .int i' ∧ SqT K H p' xs' ∧ atI xs' i' = some v' ∧ R v' := by
  obtain ⟨vs, h1, h2⟩ := h
  obtain ⟨q, h3, h4⟩ := h2.at he
  exact ⟨a, vs, i, .ref q, rfl, rfl, SqT.of h1, at_of (j := i.toNat) (by omega) h3, k q h4⟩
/-- an item of a list of ends -/
theorem ixEL (h : H a = some (.lst vs)) (h2 : RowsAt H vs (es.map En.row)) (h0 : 0 ≤ i) (he : es[i.toNat]? = some e) (k : ∀ q, H q = some (.tup [.int e.x, .int e.y, .int e.s, .int e.l]) → R (.ref q)) : ∃ p' xs' i' v', V.ref a = .ref p' ∧ V.int i = .int i' ∧ SqL K H p' xs' ∧ atI xs' i' = some v' ∧ R v' := by
  obtain ⟨q, h3, h4⟩ := h2.at he
  exact ⟨a, vs, i, .ref q, rfl, rfl, SqL.of h, at_of (j := i.toNat) (by omega) h3, k q h4⟩
theorem lenE {R : List V → Prop} (h : EndsAt H a es) (k : ∀ vs : List V, vs.length = es.length → R vs) : ∃ p' ys, [V.ref a] = [.ref p'] ∧ (SqL K H p' ys ∨ SqT K H p' ys) ∧ R ys := by
  obtain ⟨vs, h1, h2⟩ := h
  exact ⟨a, vs, rfl, .inr (SqT.of h1), k vs (by rw [h2.length, List.length_map])⟩
theorem catE {b : Addr} {xs ys : List V} {R : Addr → List V → List V → Prop} {Z : Addr → Prop} (h1 : H a = some (.tup xs)) (h2 : H b = some (.tup ys)) (hx : xs ≠ []) (hy : ys ≠ []) (hl : xs.length + ys.length ≤ 1000) (k : ∀ p, H p = none → R p xs ys) :
    ∃ a' b' xs' ys', V.ref a = .ref a' ∧ V.ref b = .ref b' ∧ SqT K H a' xs' ∧ SqT K H b' ys' ∧ xs' ≠ [] ∧ xs'.length + ys'.length ≤ sizeLine ∧ (ys' = [] → Z a') ∧ (ys' ≠ [] → ∀ p, H p = none → R p xs' ys') :=
  ⟨a, b, xs, ys, rfl, rfl, SqT.of h1, SqT.of h2, hx, sz (by omega), fun e => absurd e hy, fun _ => k⟩
end
/-- what two ends want -/
def want (p q : En) : Int := p.s + q.s + (ab (p.x - q.x) + ab (p.y - q.y))
theorem want_comm (p q : En) : want p q = want q p := by
  simp only [want, ab]
  repeat' split
  all_goals omega
theorem want_self (p : En) : want p p = 2 * p.s := by
  simp only [want, ab]
  repeat' split
  all_goals omega
theorem want_tri (p q r : En) : want p q + 2 * r.s ≤ want p r + want r q := by
  simp only [want, ab]
  repeat' split
  all_goals omega
end Ew
namespace Ew
open PySem PySem.Spec PyProof.Rows L2
theorem itemI {vs : List V} {ns : List Int} {i : Nat} {z : V} (e : intsOf vs = some ns) (h : vs[i]? = some z) : ∃ n, z = .int n ∧ ns[i]? = some n := by
  have q := intsOf_map e
  subst q
  rw [List.getElem?_map] at h
  cases e2 : ns[i]? with
  | none => rw [e2] at h; cases h
  | some n => rw [e2] at h; exact ⟨n, (Option.some.inj h).symm, rfl⟩
theorem RowsAt.app {H : Hp} {us : List V} {qs : List (List Int)} (h2 : RowsAt H us qs) : ∀ {vs : List V} {rs : List (List Int)}, RowsAt H vs rs → RowsAt H (vs ++ us) (rs ++ qs)
  | _, _, .nil => h2
  | _, _, .cons q t => .cons q (RowsAt.app h2 t)
theorem RowsAt.item {H : Hp} : ∀ {vs : List V} {rs : List (List Int)} {i : Nat} {v : V}, RowsAt H vs rs → vs[i]? = some v → ∃ a r, v = .ref a ∧ r ∈ rs ∧ H a = some (.tup (r.map V.int))
  | _, _, _, _, .nil, e => by cases e
  | _, _, 0, _, .cons q _, e => by cases e; exact ⟨_, _, rfl, List.mem_cons_self, q⟩
  | _, _, i + 1, _, .cons _ t, e => by
    obtain ⟨a, r, h1, h2, h3⟩ := RowsAt.item (i := i) t e
    exact ⟨a, r, h1, List.mem_cons_of_mem _ h2, h3⟩
/-- rows of two -/
def Twos (rs : List (List Int)) : Prop := ∀ r ∈ rs, ∃ u v, r = [u, v]
theorem Twos.nil : Twos [] := fun _ h => by cases h
theorem Twos.snoc {rs : List (List Int)} {u v : Int} (h : Twos rs) : Twos (rs ++ [[u, v]]) := fun r hr => by
  rcases List.mem_append.mp hr with h' | h'
  · exact h r h'
  · exact ⟨u, v, List.mem_singleton.mp h'⟩
theorem Twos.app {rs qs : List (List Int)} (h : Twos rs) (h2 : Twos qs) : Twos (rs ++ qs) := fun r hr => (List.mem_append.mp hr).elim (h r) (h2 r)
theorem lcat {H : Hp} {a b : Addr} {xs zs : List V} {R : Addr → List V → List V → Prop} (h1 : H a = some (.lst xs)) (h2 : H b = some (.lst zs)) (hl : xs.length + zs.length ≤ 100000) (k : ∀ p, H p = none → R p xs zs) :
    ∃ l' b' xs' zs', V.ref a = .ref l' ∧ V.ref b = .ref b' ∧ H l' = some (.lst xs') ∧ H b' = some (.lst zs') ∧ xs'.length + zs'.length ≤ sizeLine ∧ ∀ p, H p = none → R p xs' zs' := ⟨a, b, xs, zs, rfl, rfl, h1, h2, sz hl, k⟩
end Ew

namespace Ew
open PySem PySem.Spec PyProof.Rows L2
section
def topS (i : Nat) : Stmt := PySem.Challenge.pw_evenwires_k12_boxes_met.main.body.getD i (.Pass ⟨0, 0, 0, 0⟩)
abbrev s_met : Stmt := topS 1
abbrev N_met : List Str := ["box", "other", "least_u", "greatest_u", "least_v", "greatest_v"]
theorem sc_met : FnScope N_met ["box", "other"] (defScope s_met) := ⟨rfl, rfl, rfl, by decide +kernel, rfl, by decide +kernel, by decide +kernel⟩
abbrev s_has : Stmt := topS 2
abbrev N_has : List Str := ["box", "spot"]
theorem sc_has : FnScope N_has ["box", "spot"] (defScope s_has) := ⟨rfl, rfl, rfl, by decide +kernel, rfl, by decide +kernel, by decide +kernel⟩
abbrev s__law_deck : Stmt := topS 4
abbrev N__law_deck : List Str := ["_law_script"]
theorem sc__law_deck : FnScope N__law_deck ["_law_script"] (defScope s__law_deck) := ⟨rfl, rfl, rfl, by decide +kernel, rfl, by decide +kernel, by decide +kernel⟩
abbrev s__law_draw : Stmt := topS 5
abbrev N__law_draw : List Str := ["_law_deck_here", "_law_many", "_law_digit", "_law_cell", "_law_seed", "_law_number"]
theorem sc__law_draw : FnScope N__law_draw ["_law_deck_here", "_law_many"] (defScope s__law_draw) := ⟨rfl, rfl, rfl, by decide +kernel, rfl, by decide +kernel, by decide +kernel⟩
abbrev s__law_wide_draw : Stmt := topS 6
abbrev N__law_wide_draw : List Str := ["_law_deck_here", "_law_many", "_law_high"]
theorem sc__law_wide_draw : FnScope N__law_wide_draw ["_law_deck_here", "_law_many"] (defScope s__law_wide_draw) := ⟨rfl, rfl, rfl, by decide +kernel, rfl, by decide +kernel, by decide +kernel⟩
abbrev s__law_is_whole : Stmt := topS 7
abbrev N__law_is_whole : List Str := ["_law_thing"]
theorem sc__law_is_whole : FnScope N__law_is_whole ["_law_thing"] (defScope s__law_is_whole) := ⟨rfl, rfl, rfl, by decide +kernel, rfl, by decide +kernel, by decide +kernel⟩
abbrev s__law_are_whole : Stmt := topS 8
abbrev N__law_are_whole : List Str := ["_law_thing", "_law_many", "_law_one"]
theorem sc__law_are_whole : FnScope N__law_are_whole ["_law_thing", "_law_many"] (defScope s__law_are_whole) := ⟨rfl, rfl, rfl, by decide +kernel, rfl, by decide +kernel, by decide +kernel⟩
abbrev s__law_stretch : Stmt := topS 9
abbrev N__law_stretch : List Str := ["_law_deck_here", "_law_way", "_law_low"]
theorem sc__law_stretch : FnScope N__law_stretch ["_law_deck_here", "_law_way"] (defScope s__law_stretch) := ⟨rfl, rfl, rfl, by decide +kernel, rfl, by decide +kernel, by decide +kernel⟩
abbrev s__law_box : Stmt := topS 10
abbrev N__law_box : List Str := ["_law_deck_here", "_law_ways", "_law_first"]
theorem sc__law_box : FnScope N__law_box ["_law_deck_here"] (defScope s__law_box) := ⟨rfl, rfl, rfl, by decide +kernel, rfl, by decide +kernel, by decide +kernel⟩
abbrev s__law_near : Stmt := topS 11
abbrev N__law_near : List Str := ["_law_deck_here", "_law_stretch_here", "_law_way", "_law_wide", "_law_low"]
theorem sc__law_near : FnScope N__law_near ["_law_deck_here", "_law_stretch_here"] (defScope s__law_near) := ⟨rfl, rfl, rfl, by decide +kernel, rfl, by decide +kernel, by decide +kernel⟩
abbrev s__law_second : Stmt := topS 12
abbrev N__law_second : List Str := ["_law_deck_here", "_law_box_here", "_law_way", "_law_other"]
theorem sc__law_second : FnScope N__law_second ["_law_deck_here", "_law_box_here"] (defScope s__law_second) := ⟨rfl, rfl, rfl, by decide +kernel, rfl, by decide +kernel, by decide +kernel⟩
abbrev s__law_both : Stmt := topS 13
abbrev N__law_both : List Str := ["_law_one", "_law_other", "_law_low", "_law_high", "_law_left", "_law_right"]
theorem sc__law_both : FnScope N__law_both ["_law_one", "_law_other"] (defScope s__law_both) := ⟨rfl, rfl, rfl, by decide +kernel, rfl, by decide +kernel, by decide +kernel⟩
abbrev s__law_met_right : Stmt := topS 14
abbrev N__law_met_right : List Str := ["_law_one", "_law_other", "_law_due", "_law_told"]
theorem sc__law_met_right : FnScope N__law_met_right ["_law_one", "_law_other"] (defScope s__law_met_right) := ⟨rfl, rfl, rfl, by decide +kernel, rfl, by decide +kernel, by decide +kernel⟩
abbrev s__law_has : Stmt := topS 15
abbrev N__law_has : List Str := ["_law_box_here", "_law_spot"]
theorem sc__law_has : FnScope N__law_has ["_law_box_here", "_law_spot"] (defScope s__law_has) := ⟨rfl, rfl, rfl, by decide +kernel, rfl, by decide +kernel, by decide +kernel⟩
abbrev s__law_spots_right : Stmt := topS 16
abbrev N__law_spots_right : List Str := ["_law_one", "_law_other", "_law_both_here", "_law_box_here", "_law_u", "_law_v", "_law_due"]
theorem sc__law_spots_right : FnScope N__law_spots_right ["_law_one", "_law_other"] (defScope s__law_spots_right) := ⟨rfl, rfl, rfl, by decide +kernel, rfl, by decide +kernel, by decide +kernel⟩
abbrev s__law_three : Stmt := topS 17
abbrev N__law_three : List Str := ["_law_one", "_law_other", "_law_third", "_law_both_here"]
theorem sc__law_three : FnScope N__law_three ["_law_one", "_law_other", "_law_third"] (defScope s__law_three) := ⟨rfl, rfl, rfl, by decide +kernel, rfl, by decide +kernel, by decide +kernel⟩
abbrev s_law : Stmt := topS 18
abbrev N_law : List Str := ["_law_script", "_law_deck_here", "_law_turn", "_law_one", "_law_other", "_law_third", "_law_here", "_law_there", "_law_due", "_law_row"]
theorem sc_law : FnScope N_law ["_law_script"] (defScope s_law) := ⟨rfl, rfl, rfl, by decide +kernel, rfl, by decide +kernel, by decide +kernel⟩
/-- what the top has left: the defs, and the built-ins that are not bound anew -/
structure Tx (K : PySem.W.Frag) (mg : Str → Option Value) where
  a_met : Addr
  d_met : FuncData
  F_met : Fun K "met" "met" s_met a_met d_met
  b_met : Binds K d_met ["box", "other"] []
  g_met : mg "met" = some (.ref a_met)
  a_has : Addr
  d_has : FuncData
  F_has : Fun K "has" "has" s_has a_has d_has
  b_has : Binds K d_has ["box", "spot"] []
  g_has : mg "has" = some (.ref a_has)
  a__law_deck : Addr
  d__law_deck : FuncData
  F__law_deck : Fun K "_law_deck" "_law_deck" s__law_deck a__law_deck d__law_deck
  b__law_deck : Binds K d__law_deck ["_law_script"] []
  g__law_deck : mg "_law_deck" = some (.ref a__law_deck)
  a__law_draw : Addr
  d__law_draw : FuncData
  F__law_draw : Fun K "_law_draw" "_law_draw" s__law_draw a__law_draw d__law_draw
  b__law_draw : Binds K d__law_draw ["_law_deck_here", "_law_many"] []
  g__law_draw : mg "_law_draw" = some (.ref a__law_draw)
  a__law_wide_draw : Addr
  d__law_wide_draw : FuncData
  F__law_wide_draw : Fun K "_law_wide_draw" "_law_wide_draw" s__law_wide_draw a__law_wide_draw d__law_wide_draw
  b__law_wide_draw : Binds K d__law_wide_draw ["_law_deck_here", "_law_many"] []
  g__law_wide_draw : mg "_law_wide_draw" = some (.ref a__law_wide_draw)
  a__law_is_whole : Addr
  d__law_is_whole : FuncData
  F__law_is_whole : Fun K "_law_is_whole" "_law_is_whole" s__law_is_whole a__law_is_whole d__law_is_whole
  b__law_is_whole : Binds K d__law_is_whole ["_law_thing"] []
  g__law_is_whole : mg "_law_is_whole" = some (.ref a__law_is_whole)
  a__law_are_whole : Addr
  d__law_are_whole : FuncData
  F__law_are_whole : Fun K "_law_are_whole" "_law_are_whole" s__law_are_whole a__law_are_whole d__law_are_whole
  b__law_are_whole : Binds K d__law_are_whole ["_law_thing", "_law_many"] []
  g__law_are_whole : mg "_law_are_whole" = some (.ref a__law_are_whole)
  a__law_stretch : Addr
  d__law_stretch : FuncData
  F__law_stretch : Fun K "_law_stretch" "_law_stretch" s__law_stretch a__law_stretch d__law_stretch
  b__law_stretch : Binds K d__law_stretch ["_law_deck_here", "_law_way"] []
  g__law_stretch : mg "_law_stretch" = some (.ref a__law_stretch)
  a__law_box : Addr
  d__law_box : FuncData
  F__law_box : Fun K "_law_box" "_law_box" s__law_box a__law_box d__law_box
  b__law_box : Binds K d__law_box ["_law_deck_here"] []
  g__law_box : mg "_law_box" = some (.ref a__law_box)
  a__law_near : Addr
  d__law_near : FuncData
  F__law_near : Fun K "_law_near" "_law_near" s__law_near a__law_near d__law_near
  b__law_near : Binds K d__law_near ["_law_deck_here", "_law_stretch_here"] []
  g__law_near : mg "_law_near" = some (.ref a__law_near)
  a__law_second : Addr
  d__law_second : FuncData
  F__law_second : Fun K "_law_second" "_law_second" s__law_second a__law_second d__law_second
  b__law_second : Binds K d__law_second ["_law_deck_here", "_law_box_here"] []
  g__law_second : mg "_law_second" = some (.ref a__law_second)
  a__law_both : Addr
  d__law_both : FuncData
  F__law_both : Fun K "_law_both" "_law_both" s__law_both a__law_both d__law_both
  b__law_both : Binds K d__law_both ["_law_one", "_law_other"] []
  g__law_both : mg "_law_both" = some (.ref a__law_both)
  a__law_met_right : Addr
  d__law_met_right : FuncData
  F__law_met_right : Fun K "_law_met_right" "_law_met_right" s__law_met_right a__law_met_right d__law_met_right
  b__law_met_right : Binds K d__law_met_right ["_law_one", "_law_other"] []
  g__law_met_right : mg "_law_met_right" = some (.ref a__law_met_right)
  a__law_has : Addr
  d__law_has : FuncData
  F__law_has : Fun K "_law_has" "_law_has" s__law_has a__law_has d__law_has
  b__law_has : Binds K d__law_has ["_law_box_here", "_law_spot"] []
  g__law_has : mg "_law_has" = some (.ref a__law_has)
  a__law_spots_right : Addr
  d__law_spots_right : FuncData
  F__law_spots_right : Fun K "_law_spots_right" "_law_spots_right" s__law_spots_right a__law_spots_right d__law_spots_right
  b__law_spots_right : Binds K d__law_spots_right ["_law_one", "_law_other"] []
  g__law_spots_right : mg "_law_spots_right" = some (.ref a__law_spots_right)
  a__law_three : Addr
  d__law_three : FuncData
  F__law_three : Fun K "_law_three" "_law_three" s__law_three a__law_three d__law_three
  b__law_three : Binds K d__law_three ["_law_one", "_law_other", "_law_third"] []
  g__law_three : mg "_law_three" = some (.ref a__law_three)
  a_law : Addr
  d_law : FuncData
  F_law : Fun K "law" "law" s_law a_law d_law
  b_law : Binds K d_law ["_law_script"] []
  g_law : mg "law" = some (.ref a_law)
  n_max : mg "max" = none
  n_min : mg "min" = none
  n_list : mg "list" = none
  n_len : mg "len" = none
  n_isinstance : mg "isinstance" = none
  n_bool : mg "bool" = none
  n_int : mg "int" = none
  n_tuple : mg "tuple" = none
  n_abs : mg "abs" = none
  n_range : mg "range" = none
local macro_rules | `(tactic| walk_at "ewc") => `(tactic| first
  | (show (0 : Int) < _; omega)
  | (show (0 : Int) < _; decide)
  | (refine ⟨?_, ?_⟩ <;> omega)
  | exact Or.inl ⟨by omega, by omega⟩
  | exact Or.inr ⟨by omega, by omega⟩)
def dkv (c : Addr) (a r s : Int) : List (Key × V) := [(.inr "cells", .ref c), (.inr "at", .int a), (.inr "rest", .int r), (.inr "seed", .int s)]
theorem dkv_pa {c : Addr} {a r s a' : Int} : putK (dkv c a r s) (.inr "at") (.int a') = dkv c a' r s := rfl
theorem dkv_pr {c : Addr} {a r s a' : Int} : putK (dkv c a r s) (.inr "rest") (.int a') = dkv c a a' s := rfl
theorem dkv_ps {c : Addr} {a r s a' : Int} : putK (dkv c a r s) (.inr "seed") (.int a') = dkv c a r a' := rfl
/-- a deck stands at dk, its cells at c -/
structure Deck (H : Hp) (dk c : Addr) : Prop where
  ex : ∃ (a r s : Int) (cs : List Int), H dk = some (.dK (dkv c a r s)) ∧ H c = some (.lst (cs.map V.int)) ∧ 0 ≤ a ∧ 0 ≤ s ∧ s < 4294967296
theorem Deck.new {H : Hp} {dk c p : Addr} {o : HO} (h : Deck H dk c) (hp : H p = none) : Deck (upd H p o) dk c := by
  obtain ⟨L, s, n, cs, h1, h2, h3⟩ := h
  exact ⟨L, s, n, cs, get_new hp h1, get_new hp h2, h3⟩
theorem Deck.mut {H : Hp} {dk c p : Addr} {o : HO} (h : Deck H dk c) (hp : p ∉ [dk, c]) : Deck (upd H p o) dk c := by
  obtain ⟨L, s, n, cs, h1, h2, h3⟩ := h
  exact ⟨L, s, n, cs, get_ne (fun e => hp (e ▸ List.mem_cons_self)) h1, get_ne (fun e => hp (e ▸ List.mem_cons_of_mem _ List.mem_cons_self)) h2, h3⟩
theorem Deck.off' {H : Hp} {dk c p : Addr} (hp : H p = none) (h : Deck H dk c) : p ∉ [dk, c] := by
  obtain ⟨L, s, n, cs, h1, h2, h3⟩ := h
  intro m
  rcases List.mem_cons.mp m with e | m
  · rw [e, h1] at hp; cases hp
  · rcases List.mem_cons.mp m with e | m
    · rw [e, h2] at hp; cases hp
    · cases m
theorem Deck.off {H : Hp} {dk c p : Addr} (h : Deck H dk c) (hp : H p = none) : p ∉ [dk, c] := Deck.off' hp h
theorem Deck.evo0 {H H' : Hp} {dk c : Addr} (h : Deck H dk c) (e : Evo [] H H') : Deck H' dk c := by
  obtain ⟨L, s, n, cs, h1, h2, h3⟩ := h
  exact ⟨L, s, n, cs, e.get List.not_mem_nil h1, e.get List.not_mem_nil h2, h3⟩
section
variable {P : Program} {w : World} {K : PySem.W.Frag} {mg : Str → Option Value} {base : Heap}
inductive sp__law_deck (K : PySem.W.Frag) : List V → Hp → VK → XK → Prop
  | mk {H : Hp} {Q : VK} {E : XK} {a : Addr} {ns : List Int} (hS : SqL K H a (ns.map V.int)) (hn : ns.length ≤ 63) (k : ∀ H' dk c, Deck H' dk c → H dk = none → H c = none → Evo [] H H' → Q (.ref dk) H') : sp__law_deck K [.ref a] H Q E
theorem ok__law_deck (T : Tx K mg) : FnOk P w K mg base CX0 1 T.a__law_deck T.d__law_deck ["_law_script"] (sp__law_deck K) := by
  refine T.F__law_deck.ok sc__law_deck (fun vs H Q E h => ?_) (fun cdv A outer s H vs Q E hr h => ?_)
  · cases h
    rfl
  · obtain @⟨_, _, _, a, ns, hS, hn, k⟩ := h
    have hlen : (ns.map V.int).length ≤ 63 := by rw [List.length_map]; exact hn
    refine ⟨_, (pss_one (ps_ret (pe_disp (pps_cons pe_str (pe_callTy call_list_of (by rfl) T.n_list (by decide +kernel) (pa_cons (pe_slice (r := Ew.rSlE K) Ew.sl_listE (pv 0) po_none (po_some pe_int)) pa_nil)) (pps_cons pe_str pe_int (pps_cons pe_str pe_int (pps_cons pe_str pe_int pps_nil)))) (by rfl) (by rfl) (fun z => by cases z) (by decide)))), ?_⟩
    intro dk hdk
    refine ⟨_, rfl, _, rfl, _, _, _, rfl, sqL_new hdk hS, cut63 hlen, fun q hq => ?_⟩
    refine ⟨_, _, rfl, .inl (SqL.of upd_same), fun c hc => ?_⟩
    have e0 : Evo [] H (upd H dk (.dK [])) := (Evo.refl [] H).new hdk
    have e1 := e0.new (o := .lst (ns.map V.int)) hq
    have e2 := e1.new (o := .lst (ns.map V.int)) hc
    refine ⟨get_new hc (get_new hq upd_same), [(.inr "cells", .ref c), (.inr "at", .int 0), (.inr "rest", .int 0), (.inr "seed", .int 31)], rfl, by show 4 ≤ 15; decide, ?_⟩
    have ncd : c ≠ dk := fun e => by rw [e, get_new hq upd_same] at hc; cases hc
    exact k _ dk c ⟨0, 0, 31, ns, upd_same, get_ne ncd upd_same, by decide, by decide, by decide⟩ hdk (e1.fresh hc) (e2.mut hdk)
inductive sp__law_draw : List V → Hp → VK → XK → Prop
  | mk {H : Hp} {Q : VK} {E : XK} {dk c : Addr} {m : Int} (hD : Deck H dk c) (m0 : 0 < m) (m1 : m < 1073741824) (k : ∀ H' r, 0 ≤ r → r < m → Deck H' dk c → Evo [dk, c] H H' → Q (.int r) H') : sp__law_draw [.ref dk, .int m] H Q E
set_option maxHeartbeats 1000000 in
theorem ok__law_draw (T : Tx K mg) : FnOk P w K mg base CX0 1 T.a__law_draw T.d__law_draw ["_law_deck_here", "_law_many"] sp__law_draw := by
  refine T.F__law_draw.ok sc__law_draw (fun vs H Q E h => ?_) (fun cdv A outer s H vs Q E hr h => ?_)
  · cases h
    rfl
  · obtain @⟨_, _, _, dk, c, m, ⟨a, r, s, cs, hd, hc, ha0, hs0, hs1⟩, m0, m1, k⟩ := h
    have hu := hu_of hr
    have ncd : c ≠ dk := ne_of hc hd (by intro z; cases z)
    have hmd : ∀ ys, H dk ≠ some (.tup ys) := fun ys e => by rw [hd] at e; cases e
    have hfd : ∀ u v, H dk ≠ some (.frz u v) := fun ys _ e => by rw [hd] at e; cases e
    have i1 : dk ∈ [dk, c] := List.mem_cons_self
    refine ⟨_, (pss_cons (ps_if (pt_cmpR op_gt (pe_dget hu (pv 0) pe_str (fun _ _ => rfl)) pe_int (nomark _)) (pss_cons (ps_set (i := 2) sc__law_draw.nd rfl (Or.inl rfl) (pe_op op_mod (pe_dget hu (pv 0) pe_str (fun _ _ => rfl)) (pv 1)))
      (pss_cons (ps_dput hu (pv 0) pe_str (pe_op op_fdiv (pe_dget hu (pv 0) pe_str (fun _ _ => rfl)) (pv 1)) rfl)
      (pss_one (ps_ret (pv 2))))) pss_nil)
      (pss_cons (ps_set (i := 3) sc__law_draw.nd rfl (Or.inl rfl) pe_int)
      (pss_cons (ps_if (pt_cmpR op_lt (pe_dget hu (pv 0) pe_str (fun _ _ => rfl)) (pe_callB (r := Ew.rLen K) Ew.call_len (by rfl) T.n_len (by decide +kernel) (pa_cons (pe_dget hu (pv 0) pe_str (fun _ _ => rfl)) pa_nil)) (nomark _)) (pss_one (ps_set (i := 3) sc__law_draw.nd rfl (Or.inl rfl) (pe_ix (r := rIxL K) ix_list (pe_dget hu (pv 0) pe_str (fun _ _ => rfl)) (pe_dget hu (pv 0) pe_str (fun _ _ => rfl)) (fun _ _ => rfl)))) pss_nil)
      (pss_cons (ps_dput hu (pv 0) pe_str (pe_op op_add (pe_dget hu (pv 0) pe_str (fun _ _ => rfl)) pe_int) rfl)
      (pss_cons (ps_set (i := 4) sc__law_draw.nd rfl (Or.inl rfl) (pe_op op_add (pe_op op_mul (pe_dget hu (pv 0) pe_str (fun _ _ => rfl)) pe_int) (pe_op op_mul pe_int (pe_dget hu (pv 0) pe_str (fun _ _ => rfl)))))
      (pss_cons (ps_dput hu (pv 0) pe_str (pe_op op_mod (pe_op op_add (pv 4) (pe_op op_mod (pv 3) pe_int)) pe_int) rfl)
      (pss_cons (ps_if (pt_cmpR op_ge (pv 3) (pe_op (Ew.op_powC 10 18 1000000000000000000) pe_int pe_int) (nomark _)) (pss_cons (ps_dput hu (pv 0) pe_str (pe_op op_fdiv (pv 3) (pv 1)) rfl)
      (pss_one (ps_ret (pe_op op_mod (pv 3) (pv 1))))) pss_nil)
      (pss_cons (ps_set (i := 5) sc__law_draw.nd rfl (Or.inl rfl) (pe_op op_mod (pe_op op_mul (pe_dget hu (pv 0) pe_str (fun _ _ => rfl)) (pe_op op_add (pe_op op_fdiv (pe_dget hu (pv 0) pe_str (fun _ _ => rfl)) pe_int) pe_int)) pe_int))
      (pss_one (ps_ret (pe_op op_mod (pe_op op_fdiv (pe_op op_mod (pe_op op_mul (pv 5) (pe_op op_add (pe_op op_fdiv (pv 5) pe_int) pe_int)) pe_int) pe_int) (pv 1)))))))))))), ?_⟩
    refine ⟨_, rfl, dgetE hd rfl ⟨_, _, rfl, rfl, _, rfl, iteD (fun hL => ?_) (fun hL => ?_)⟩⟩
    · refine ⟨_, rfl, dgetE hd rfl ⟨_, rfl, ⟨_, _, rfl, rfl, by walk_at "ewc", ?_⟩⟩⟩
      refine ⟨_, rfl, dgetE hd rfl ⟨_, rfl, ⟨_, _, rfl, rfl, by walk_at "ewc", ?_⟩⟩⟩
      refine ⟨_, rfl, dputE hd dkv_pr ?_ (by show 4 ≤ 1000; decide)⟩
      refine ⟨_, rfl, ?_⟩
      exact k _ _ (Int.emod_nonneg _ (by omega)) (Int.emod_lt_of_pos _ m0) ⟨_, _, _, _, upd_same, get_ne ncd hc, ha0, hs0, hs1⟩ ((Evo.refl _ H).set i1 hmd hfd)
    · refine ⟨_, rfl, dgetE hd rfl ⟨_, rfl, dgetE hd rfl ?_⟩⟩
      refine lenL (SqL.of hc) ⟨_, _, rfl, rfl, _, rfl, iteD (fun hlt => ?_) (fun hge => ?_)⟩
      · have hlt' : a.toNat < cs.length := by rw [List.length_map] at hlt; omega
        refine ⟨_, rfl, dgetE hd rfl ⟨_, rfl, dgetE hd rfl ?_⟩⟩
        refine ixL (SqL.of hc) (v := .int cs[a.toNat]) ?_ ?_
        · exact at_of (j := a.toNat) (by omega) (by rw [List.getElem?_map, List.getElem?_eq_getElem hlt']; rfl)
        generalize cs[a.toNat] = z
        refine ⟨_, rfl, dgetE hd rfl ⟨_, _, rfl, rfl, ?_⟩⟩
        refine ⟨_, rfl, dputE hd dkv_pa ?_ (by show 4 ≤ 1000; decide)⟩
        refine ⟨_, rfl, dgetE upd_same rfl ⟨_, _, rfl, rfl, by walk_at "ewc", ?_⟩⟩
        refine ⟨_, rfl, dgetE upd_same rfl ⟨_, _, rfl, rfl, by walk_at "ewc", ⟨_, _, rfl, rfl, ?_⟩⟩⟩
        refine ⟨_, rfl, _, rfl, ⟨_, _, rfl, rfl, by walk_at "ewc", ⟨_, _, rfl, rfl, ⟨_, _, rfl, rfl, by walk_at "ewc", ?_⟩⟩⟩⟩
        refine ⟨_, rfl, dputE upd_same dkv_ps ?_ (by show 4 ≤ 1000; decide)⟩
        have E3 : Evo [dk, c] H (upd (upd H dk (.dK (dkv c (a + 1) r s))) dk (.dK (dkv c (a + 1) r ((s * 48271 + 7919 * (a + 1) + z % 2147483629) % 2147483587)))) := ((Evo.refl _ H).set i1 hmd hfd).set i1 hmd hfd
        have hc3 : (upd (upd H dk (.dK (dkv c (a + 1) r s))) dk (.dK (dkv c (a + 1) r ((s * 48271 + 7919 * (a + 1) + z % 2147483629) % 2147483587)))) c = some (.lst (cs.map V.int)) := get_ne ncd (get_ne ncd hc)
        have s0 : 0 ≤ (s * 48271 + 7919 * (a + 1) + z % 2147483629) % 2147483587 := by omega
        have s1 : (s * 48271 + 7919 * (a + 1) + z % 2147483629) % 2147483587 < 2147483587 := by omega
        have hd3 : (upd (upd H dk (.dK (dkv c (a + 1) r s))) dk (.dK (dkv c (a + 1) r ((s * 48271 + 7919 * (a + 1) + z % 2147483629) % 2147483587)))) dk = some (.dK (dkv c (a + 1) r ((s * 48271 + 7919 * (a + 1) + z % 2147483629) % 2147483587))) := upd_same
        refine ⟨_, rfl, rfl, rfl, _, _, rfl, rfl, _, rfl, iteD (fun hz => ?_) (fun hz => ?_)⟩
        · refine ⟨_, rfl, _, rfl, ⟨_, _, rfl, rfl, by walk_at "ewc", ?_⟩⟩
          refine ⟨_, rfl, dputE hd3 dkv_pr ?_ (by show 4 ≤ 1000; decide)⟩
          refine ⟨_, rfl, _, rfl, ⟨_, _, rfl, rfl, by walk_at "ewc", ?_⟩⟩
          exact k _ _ (Int.emod_nonneg _ (by omega)) (Int.emod_lt_of_pos _ m0) ⟨_, _, _, _, upd_same, get_ne ncd hc3, by omega, s0, by omega⟩ (E3.set i1 hmd hfd)
        · refine ⟨_, rfl, dgetE hd3 rfl ⟨_, rfl, dgetE hd3 rfl ⟨_, _, rfl, rfl, by walk_at "ewc", ⟨_, _, rfl, rfl, ⟨_, _, rfl, rfl, ?_, ⟨_, _, rfl, rfl, by walk_at "ewc", ?_⟩⟩⟩⟩⟩⟩
          · exact Or.inl ⟨by omega, by omega⟩
          have n0 : ∀ z : Int, 0 ≤ z % 2147483563 := fun z => by omega
          have n1 : ∀ z : Int, z % 2147483563 < 2147483563 := fun z => by omega
          refine ⟨_, rfl, _, rfl, ⟨_, _, rfl, rfl, by walk_at "ewc", ⟨_, _, rfl, rfl, ⟨_, _, rfl, rfl, ?_, ⟨_, _, rfl, rfl, by walk_at "ewc", ⟨_, _, rfl, rfl, by walk_at "ewc", ⟨_, rfl, ⟨_, _, rfl, rfl, by walk_at "ewc", ?_⟩⟩⟩⟩⟩⟩⟩⟩
          · exact Or.inl ⟨Int.lt_of_lt_of_le (by decide) (n0 _), Int.lt_trans (n1 _) (by decide)⟩
          exact k _ _ (Int.emod_nonneg _ (by omega)) (Int.emod_lt_of_pos _ m0) ⟨_, _, _, _, hd3, hc3, by omega, s0, by omega⟩ E3
      · refine ⟨_, rfl, dgetE hd rfl ⟨_, _, rfl, rfl, ?_⟩⟩
        refine ⟨_, rfl, dputE hd dkv_pa ?_ (by show 4 ≤ 1000; decide)⟩
        refine ⟨_, rfl, dgetE upd_same rfl ⟨_, _, rfl, rfl, by walk_at "ewc", ?_⟩⟩
        refine ⟨_, rfl, dgetE upd_same rfl ⟨_, _, rfl, rfl, by walk_at "ewc", ⟨_, _, rfl, rfl, ?_⟩⟩⟩
        refine ⟨_, rfl, _, rfl, ⟨_, _, rfl, rfl, by walk_at "ewc", ⟨_, _, rfl, rfl, ⟨_, _, rfl, rfl, by walk_at "ewc", ?_⟩⟩⟩⟩
        refine ⟨_, rfl, dputE upd_same dkv_ps ?_ (by show 4 ≤ 1000; decide)⟩
        have E3 : Evo [dk, c] H (upd (upd H dk (.dK (dkv c (a + 1) r s))) dk (.dK (dkv c (a + 1) r ((s * 48271 + 7919 * (a + 1) + 0 % 2147483629) % 2147483587)))) := ((Evo.refl _ H).set i1 hmd hfd).set i1 hmd hfd
        have hc3 : (upd (upd H dk (.dK (dkv c (a + 1) r s))) dk (.dK (dkv c (a + 1) r ((s * 48271 + 7919 * (a + 1) + 0 % 2147483629) % 2147483587)))) c = some (.lst (cs.map V.int)) := get_ne ncd (get_ne ncd hc)
        have s0 : 0 ≤ (s * 48271 + 7919 * (a + 1) + 0 % 2147483629) % 2147483587 := by omega
        have s1 : (s * 48271 + 7919 * (a + 1) + 0 % 2147483629) % 2147483587 < 2147483587 := by omega
        have hd3 : (upd (upd H dk (.dK (dkv c (a + 1) r s))) dk (.dK (dkv c (a + 1) r ((s * 48271 + 7919 * (a + 1) + 0 % 2147483629) % 2147483587)))) dk = some (.dK (dkv c (a + 1) r ((s * 48271 + 7919 * (a + 1) + 0 % 2147483629) % 2147483587))) := upd_same
        refine ⟨_, rfl, rfl, rfl, _, _, rfl, rfl, _, rfl, iteD (fun hz => ?_) (fun hz => ?_)⟩
        · refine ⟨_, rfl, _, rfl, ⟨_, _, rfl, rfl, by walk_at "ewc", ?_⟩⟩
          refine ⟨_, rfl, dputE hd3 dkv_pr ?_ (by show 4 ≤ 1000; decide)⟩
          refine ⟨_, rfl, _, rfl, ⟨_, _, rfl, rfl, by walk_at "ewc", ?_⟩⟩
          exact k _ _ (Int.emod_nonneg _ (by omega)) (Int.emod_lt_of_pos _ m0) ⟨_, _, _, _, upd_same, get_ne ncd hc3, by omega, s0, by omega⟩ (E3.set i1 hmd hfd)
        · refine ⟨_, rfl, dgetE hd3 rfl ⟨_, rfl, dgetE hd3 rfl ⟨_, _, rfl, rfl, by walk_at "ewc", ⟨_, _, rfl, rfl, ⟨_, _, rfl, rfl, ?_, ⟨_, _, rfl, rfl, by walk_at "ewc", ?_⟩⟩⟩⟩⟩⟩
          · exact Or.inl ⟨by omega, by omega⟩
          have n0 : ∀ z : Int, 0 ≤ z % 2147483563 := fun z => by omega
          have n1 : ∀ z : Int, z % 2147483563 < 2147483563 := fun z => by omega
          refine ⟨_, rfl, _, rfl, ⟨_, _, rfl, rfl, by walk_at "ewc", ⟨_, _, rfl, rfl, ⟨_, _, rfl, rfl, ?_, ⟨_, _, rfl, rfl, by walk_at "ewc", ⟨_, _, rfl, rfl, by walk_at "ewc", ⟨_, rfl, ⟨_, _, rfl, rfl, by walk_at "ewc", ?_⟩⟩⟩⟩⟩⟩⟩⟩
          · exact Or.inl ⟨Int.lt_of_lt_of_le (by decide) (n0 _), Int.lt_trans (n1 _) (by decide)⟩
          exact k _ _ (Int.emod_nonneg _ (by omega)) (Int.emod_lt_of_pos _ m0) ⟨_, _, _, _, hd3, hc3, by omega, s0, by omega⟩ E3
end
end
section
local macro_rules | `(tactic| walk_at "ewc") => `(tactic| first
  | (show (0 : Int) < _; omega)
  | (show (0 : Int) < _; decide)
  | (refine ⟨?_, ?_⟩ <;> omega)
  | exact Or.inl ⟨by omega, by omega⟩
  | exact Or.inr ⟨by omega, by omega⟩)
local macro_rules | `(tactic| walk_at "ewar") => `(tactic| first
  | omega
  | (simp only [Ew.ab]; repeat' split
     all_goals omega))
local macro_rules | `(tactic| walk_at "ewtup") => `(tactic| first
  | assumption
  | exact upd_same
  | (refine' Ew.get_new ?ew1 ?ew2; (case ew1 => assumption); (case ew2 => walk_at "ewtup"))
  | (refine' Ew.getI_mut ?ew1 ?ew2 rfl; (case ew1 => walk_at "ewlst"); (case ew2 => walk_at "ewtup"))
  | (refine' Ew.getI_mutD ?ew1 ?ew2 rfl; (case ew1 => assumption); (case ew2 => walk_at "ewtup"))
  | (refine' Ew.Evo.getI ?ew1 ?ew2 rfl; (case ew1 => assumption); (case ew2 => walk_at "ewtup")))
local macro_rules | `(tactic| walk_at "ewlst") => `(tactic| first
  | assumption
  | exact upd_same
  | (refine' Ew.get_new ?ew1 ?ew2; (case ew1 => assumption); (case ew2 => walk_at "ewlst"))
  | (refine' Ew.get_ne ?ew1 ?ew2; (case ew1 => assumption); (case ew2 => walk_at "ewlst"))
  | (refine' Ew.Evo.get ?ew1 ?ew2 ?ew3; (case ew1 => assumption); (case ew2 => walk_at "ewoff"); (case ew3 => walk_at "ewlst")))
local macro_rules | `(tactic| walk_at "ewoff") => `(tactic| first
  | assumption
  | exact List.not_mem_nil
  | (refine' Ew.Deck.off' ?ew1 ?ew2; (case ew1 => assumption); (case ew2 => walk_at "ewdeck")))
local macro_rules | `(tactic| walk_at "ewdeck") => `(tactic| first
  | assumption
  | (refine' Ew.Deck.new ?ew1 ?ew2; (case ew2 => assumption); (case ew1 => walk_at "ewdeck"))
  | (refine' Ew.Deck.mut ?ew1 ?ew2; (case ew2 => walk_at "ewoff"); (case ew1 => walk_at "ewdeck"))
  | (refine' Ew.Deck.evo0 ?ew1 ?ew2; (case ew2 => assumption); (case ew1 => walk_at "ewdeck")))
local macro_rules | `(tactic| walk_at "ewevo") => `(tactic| first
  | assumption
  | exact Ew.Evo.refl _ _
  | (refine' Ew.Evo.new ?ew1 ?ew2; (case ew2 => assumption); (case ew1 => walk_at "ewevo"))
  | (refine' Ew.Evo.mut ?ew1 ?ew2; (case ew2 => assumption); (case ew1 => walk_at "ewevo"))
  | (refine' Ew.Evo.trans ?ew1 ?ew2; (case ew2 => assumption); (case ew1 => walk_at "ewevo"))
  | (refine' Ew.Evo.call0 ?ew1 ?ew2; (case ew2 => assumption); (case ew1 => walk_at "ewevo")))
local macro_rules | `(tactic| walk_at "ewlen") => `(tactic| first
  | exact Nat.le_of_ble_eq_true rfl
  | omega
  | (simp only [List.length_map, List.length_append, List.length_cons, List.length_nil]; omega))
local macro_rules | `(tactic| walk_at "ewcall") => `(tactic| fail)
local macro_rules | `(tactic| walk_at "ew") => `(tactic| first
  | walk_at "ewcall"
  | refine ⟨_, rfl, ?_⟩
  | refine iteT ?_
  | refine iteF ?_
  | refine ⟨_, _, rfl, rfl, ?_⟩
  | (refine' Ew.ixT (SqT.of ?ew1) ?ew2 ?_; (case ew1 => walk_at "ewtup"); (case ew2 => rfl))
  | (refine' Ew.ixL (SqL.of ?ew1) ?ew2 ?_; (case ew1 => walk_at "ewlst"); (case ew2 => rfl))
  | (refine' ⟨_, ?_, rfl, SqT.of ?ew1, ?ew2, ?_⟩; (case ew1 => walk_at "ewtup"); (case ew2 => rfl))
  | (refine' ⟨_, ?_, rfl, SqL.of ?ew1, ?ew2, ?_⟩; (case ew1 => walk_at "ewlst"); (case ew2 => rfl))
  | refine ⟨_, _, rfl, ?_⟩
  | (refine' ⟨_, ?_, rfl, Or.inr (SqT.of ?ew1), rfl, ?ew2, ?_⟩; (case ew1 => walk_at "ewtup"); (case ew2 => rfl))
  | refine Or.inr ⟨_, rfl, ?_⟩
  | (refine' Ew.ixQ ?ew1 ?ew2 ?_; (case ew1 => first | assumption | exact Or.inl (by walk_at "ewlst") | exact Or.inr (by walk_at "ewtup")); (case ew2 => rfl))
  | refine ⟨_, _, _, rfl, fun m hm h1 h2 h3 => ?_⟩
  | refine ⟨_, _, _, _, rfl, fun m hm h1 h2 h3 h4 => ?_⟩
  | refine ⟨_, _, _, _, _, rfl, fun m hm h1 h2 h3 h4 h5 => ?_⟩
  | (refine' ⟨_, ?_, ?_, rfl, SqL.of ?ew1, ?ew2, fun p hp => ?_⟩; (case ew1 => walk_at "ewlst"); (case ew2 => first | exact Ew.cut_lo2 | exact Ew.cut_hi2))
  | (refine' ⟨_, ?_, ?_, rfl, SqT.of ?ew1, ?ew2, ?ew3, fun p hp => ?_⟩; (case ew1 => walk_at "ewtup"); (case ew2 => first | exact Ew.cut_lo2 | exact Ew.cut_hi2); (case ew3 => exact Nat.le_of_ble_eq_true rfl))
  | refine ⟨rfl, rfl, ?_⟩
  | refine ⟨rfl, ?_⟩
  | refine Ew.ii_ii ?_
  | refine Ew.ii_ib ?_
  | refine Ew.ii_bb ?_
  | (refine' Ew.ii_tt ?ew1 ?_; (case ew1 => walk_at "ewtup"))
  | refine ⟨Ew.sz (Nat.le_of_ble_eq_true rfl), fun p hp => ?_⟩
  | (refine' ⟨_, ?_, ?_, rfl, SqT.of ?ew1, fun p hp => ?_⟩; (case ew1 => walk_at "ewtup"))
  | (refine' ⟨Or.inl ⟨rfl, ?_, SqL.of ?ew1⟩, ?_⟩; (case ew1 => walk_at "ewlst"))
  | (refine' Ew.apd ?ew1 ?ew2 ?_; (case ew1 => walk_at "ewlst"); (case ew2 => walk_at "ewlen"))
  | (refine' ⟨?_, Ew.eqT ?ew1 ?ew2 ?ew3 ?ew4, ?_⟩; (case ew1 => walk_at "ewtup"); (case ew2 => walk_at "ewtup"); (case ew3 => rfl); (case ew4 => rfl))
  | (refine' Ew.lenT (SqT.of ?ew1) ?_; (case ew1 => walk_at "ewtup"))
  | (refine' Ew.lenL (SqL.of ?ew1) ?_; (case ew1 => walk_at "ewlst"))
  | refine ⟨by walk_at "ewc", ?_⟩
  | (refine' Ew.ixB (SqL.of ?ew1) (fun hb => ?_) (fun hb => ?_); (case ew1 => walk_at "ewlst")))
section
variable {P : Program} {w : World} {K : PySem.W.Frag} {mg : Str → Option Value} {base : Heap}
/-- a box stands at a -/
abbrev BoxAt (H : Hp) (a : Addr) (u0 u1 v0 v1 : Int) : Prop := H a = some (.tup [.int u0, .int u1, .int v0, .int v1])
/-- a box -/
structure B4 where
  u0 : Int
  u1 : Int
  v0 : Int
  v1 : Int
def metB (p q : B4) : Option B4 := if max p.u0 q.u0 > min p.u1 q.u1 ∨ max p.v0 q.v0 > min p.v1 q.v1 then none else some ⟨max p.u0 q.u0, min p.u1 q.u1, max p.v0 q.v0, min p.v1 q.v1⟩
/-- a box, or None -/
def OB (H : Hp) (v : V) : Option B4 → Prop
  | none => v = .non
  | some b => ∃ a, v = .ref a ∧ BoxAt H a b.u0 b.u1 b.v0 b.v1
theorem OB.evo {S : List Addr} {H H' : Hp} {v : V} {o : Option B4} (e : Evo S H H') (h : OB H v o) : OB H' v o := by
  cases o with
  | none => exact h
  | some b => obtain ⟨a, h1, h2⟩ := h; exact ⟨a, h1, e.tupE h2⟩
theorem mxE {i j : Int} : (if j > i then j else i) = max i j := by split <;> omega
theorem mnE {i j : Int} : (if j < i then j else i) = min i j := by split <;> omega
inductive sp_met : List V → Hp → VK → XK → Prop
  | mk {H : Hp} {Q : VK} {E : XK} {a b : Addr} (p q : B4) (h1 : BoxAt H a p.u0 p.u1 p.v0 p.v1) (h2 : BoxAt H b q.u0 q.u1 q.v0 q.v1) (k : ∀ H' v, OB H' v (metB p q) → Evo [] H H' → Q v H') : sp_met [.ref a, .ref b] H Q E
theorem ok_met (T : Tx K mg) : FnOk P w K mg base CX0 1 T.a_met T.d_met ["box", "other"] sp_met := by
  refine T.F_met.ok sc_met (fun vs H Q E h => by cases h; rfl) (fun cdv A outer s H vs Q E hr h => ?_)
  obtain @⟨_, _, _, a, b, p, q, h1, h2, k⟩ := h
  have no : (max p.u0 q.u0 > min p.u1 q.u1 ∨ max p.v0 q.v0 > min p.v1 q.v1) → Q .non H := fun h => k _ _ (by unfold metB; rw [if_pos h]; rfl) (Evo.refl _ H)
  refine ⟨_, (pss_cons (ps_set (i := 2) sc_met.nd rfl (Or.inl rfl) (pe_callB (call_max2 rfl) (by rfl) T.n_max (by decide +kernel) (pa_cons (pe_ix (r := rIxT K) ix_tup (pv 0) pe_int (fun _ _ => rfl)) (pa_cons (pe_ix (r := rIxT K) ix_tup (pv 1) pe_int (fun _ _ => rfl)) pa_nil))))
      (pss_cons (ps_set (i := 3) sc_met.nd rfl (Or.inl rfl) (pe_callB (call_min2 rfl) (by rfl) T.n_min (by decide +kernel) (pa_cons (pe_ix (r := rIxT K) ix_tup (pv 0) pe_int (fun _ _ => rfl)) (pa_cons (pe_ix (r := rIxT K) ix_tup (pv 1) pe_int (fun _ _ => rfl)) pa_nil))))
      (pss_cons (ps_set (i := 4) sc_met.nd rfl (Or.inl rfl) (pe_callB (call_max2 rfl) (by rfl) T.n_max (by decide +kernel) (pa_cons (pe_ix (r := rIxT K) ix_tup (pv 0) pe_int (fun _ _ => rfl)) (pa_cons (pe_ix (r := rIxT K) ix_tup (pv 1) pe_int (fun _ _ => rfl)) pa_nil))))
      (pss_cons (ps_set (i := 5) sc_met.nd rfl (Or.inl rfl) (pe_callB (call_min2 rfl) (by rfl) T.n_min (by decide +kernel) (pa_cons (pe_ix (r := rIxT K) ix_tup (pv 0) pe_int (fun _ _ => rfl)) (pa_cons (pe_ix (r := rIxT K) ix_tup (pv 1) pe_int (fun _ _ => rfl)) pa_nil))))
      (pss_cons (ps_if (PW.pt (pw_or (pt_cmpR op_gt (pv 2) (pv 3) (nomark _)) (pw_or1 (pt_cmpR op_gt (pv 4) (pv 5) (nomark _))))) (pss_one (ps_ret pe_non)) pss_nil)
      (pss_one (ps_ret (pe_tup (pa_cons (pv 2) (pa_cons (pv 3) (pa_cons (pv 4) (pa_cons (pv 5) pa_nil)))))))))))), ?_⟩
  repeat walk_at "ew"
  refine iteD (fun c1 => ?_) (fun c1 => ?_)
  · rw [mxE, mnE] at c1
    repeat walk_at "ew"
    exact no (.inl c1)
  rw [mxE, mnE] at c1
  repeat walk_at "ew"
  refine iteD (fun c2 => ?_) (fun c2 => ?_)
  · rw [mxE, mnE] at c2
    repeat walk_at "ew"
    exact no (.inr c2)
  rw [mxE, mnE] at c2
  repeat walk_at "ew"
  rename_i t ht
  refine k _ _ ?_ ((Evo.refl _ H).new ht)
  have e : metB p q = some ⟨max p.u0 q.u0, min p.u1 q.u1, max p.v0 q.v0, min p.v1 q.v1⟩ := if_neg fun h => h.elim c1 c2
  rw [e]
  refine ⟨t, rfl, ?_⟩
  show upd H t _ t = _
  rw [upd_same, mxE, mnE, mxE, mnE]
abbrev hasB (u0 u1 v0 v1 u v : Int) : Prop := u0 ≤ u ∧ u ≤ u1 ∧ v0 ≤ v ∧ v ≤ v1
inductive sp_has : List V → Hp → VK → XK → Prop
  | mk {H : Hp} {Q : VK} {E : XK} {a b : Addr} {u0 u1 v0 v1 u v : Int} (h1 : BoxAt H a u0 u1 v0 v1) (h2 : H b = some (.tup [.int u, .int v])) (k : Q (.bl (decide (hasB u0 u1 v0 v1 u v))) H) : sp_has [.ref a, .ref b] H Q E
theorem ok_has (T : Tx K mg) : FnOk P w K mg base CX0 1 T.a_has T.d_has ["box", "spot"] sp_has := by
  refine T.F_has.ok sc_has (fun vs H Q E h => by cases h; rfl) (fun cdv A outer s H vs Q E hr h => ?_)
  obtain @⟨_, _, _, a, b, u0, u1, v0, v1, u, v, h1, h2, k⟩ := h
  have no : ¬ hasB u0 u1 v0 v1 u v → Q (.bl false) H := fun h => Qeq (Q := Q) (congrArg V.bl (decide_eq_false h)) k
  refine ⟨_, (pss_one (ps_ret (pe_and (pe_chain op_le op_le (pe_ix (r := rIxT K) ix_tup (pv 0) pe_int (fun _ _ => rfl)) (pe_ix (r := rIxT K) ix_tup (pv 1) pe_int (fun _ _ => rfl)) (pe_ix (r := rIxT K) ix_tup (pv 0) pe_int (fun _ _ => rfl))) (pe_one (pe_chain op_le op_le (pe_ix (r := rIxT K) ix_tup (pv 0) pe_int (fun _ _ => rfl)) (pe_ix (r := rIxT K) ix_tup (pv 1) pe_int (fun _ _ => rfl)) (pe_ix (r := rIxT K) ix_tup (pv 0) pe_int (fun _ _ => rfl))))))), ?_⟩
  repeat walk_at "ew"
  refine iteD (fun q1 => ?_) (fun q1 => ?_)
  · repeat walk_at "ew"
    refine iteD (fun q2 => ?_) (fun q2 => ?_)
    · repeat walk_at "ew"
      refine iteD (fun q3 => ?_) (fun q3 => ?_)
      · repeat walk_at "ew"
        refine Qeq (Q := Q) (congrArg V.bl ?_) k
        exact decide_eq_decide.mpr ⟨fun h => h.2.2.2, fun h => ⟨q1, q2, q3, h⟩⟩
      · exact no fun h => q3 h.2.2.1
    · exact no fun h => q2 h.2.1
  · repeat walk_at "ew"
    exact no fun h => q1 h.1
local macro_rules | `(tactic| walk_at "ewcall") => `(tactic| first
  | (refine' sp__law_draw.mk ?ew1 ?ew2 ?ew3 ?_; (case ew1 => walk_at "ewdeck"); (case ew2 => omega); (case ew3 => omega)))
inductive sp__law_wide_draw : List V → Hp → VK → XK → Prop
  | mk {H : Hp} {Q : VK} {E : XK} {dk c : Addr} {m : Int} (hD : Deck H dk c) (m0 : 0 < m) (k : ∀ H' r, 0 ≤ r → r < m → Deck H' dk c → Evo [dk, c] H H' → Q (.int r) H') : sp__law_wide_draw [.ref dk, .int m] H Q E
theorem ok__law_wide_draw (T : Tx K mg) : FnOk P w K mg base CX0 2 T.a__law_wide_draw T.d__law_wide_draw ["_law_deck_here", "_law_many"] sp__law_wide_draw := by
  refine T.F__law_wide_draw.ok sc__law_wide_draw (fun vs H Q E h => by cases h; rfl) (fun cdv A outer s H vs Q E hr h => ?_)
  obtain @⟨_, _, _, dk, c, m, hD, m0, k⟩ := h
  refine ⟨_, (pss_cons (ps_set (i := 2) sc__law_wide_draw.nd rfl (Or.inl rfl) (pe_call (ok__law_draw T) (hr.mono (by decide)) rfl T.g__law_draw T.F__law_draw.kp T.b__law_draw .nil pass0 (pa_cons (pv 0) (pa_cons (pe_op (Ew.op_powC 10 7 10000000) pe_int pe_int) pa_nil))))
      (pss_one (ps_ret (pe_op op_mod (pe_op op_add (pe_op op_mul (pv 2) (pe_op (Ew.op_powC 10 6 1000000) pe_int pe_int)) (pe_call (ok__law_draw T) (hr.mono (by decide)) rfl T.g__law_draw T.F__law_draw.kp T.b__law_draw .nil pass0 (pa_cons (pv 0) (pa_cons (pe_op (Ew.op_powC 10 6 1000000) pe_int pe_int) pa_nil)))) (pv 1))))), ?_⟩
  repeat walk_at "ew"
  intro H1 r r0 r1 hD1 e1
  repeat walk_at "ew"
  intro H2 q q0 q1 hD2 e2
  repeat walk_at "ew"
  exact k _ _ (Int.emod_nonneg _ (by omega)) (Int.emod_lt_of_pos _ m0) hD2 (e1.trans e2)
inductive sp__law_is_whole : List V → Hp → VK → XK → Prop
  | mk {H : Hp} {Q : VK} {E : XK} {a : Int} (k : Q (.bl true) H) : sp__law_is_whole [.int a] H Q E
theorem ok__law_is_whole (T : Tx K mg) : FnOk P w K mg base CX0 1 T.a__law_is_whole T.d__law_is_whole ["_law_thing"] sp__law_is_whole := by
  refine T.F__law_is_whole.ok sc__law_is_whole (fun vs H Q E h => by cases h; rfl) (fun cdv A outer s H vs Q E hr h => ?_)
  obtain @⟨_, _, _, a, k⟩ := h
  refine ⟨_, (pss_one (ps_ret (pe_and (pe_callB (r := rIsi K) call_isi (by rfl) T.n_isinstance (by decide +kernel) (pa_cons (pv 0) (pa_cons (pe_bltn (v := .ty "int") (by rfl) T.n_int (by decide +kernel) rfl) pa_nil))) (pe_one (pe_not (pe_callB (r := rIsi K) call_isi (by rfl) T.n_isinstance (by decide +kernel) (pa_cons (pv 0) (pa_cons (pe_bltn (v := .ty "bool") (by rfl) T.n_bool (by decide +kernel) rfl) pa_nil)))))))), ?_⟩
  repeat walk_at "ew"
  exact k
/-- a tuple of four whole numbers -/
inductive sp__law_are_whole : List V → Hp → VK → XK → Prop
  | mk {H : Hp} {Q : VK} {E : XK} {a : Addr} {u0 u1 v0 v1 : Int} (h1 : BoxAt H a u0 u1 v0 v1) (k : ∀ H', Evo [] H H' → Q (.bl true) H') : sp__law_are_whole [.ref a, .int 4] H Q E
local macro_rules | `(tactic| walk_at "ewcall") => `(tactic| first
  | refine sp__law_is_whole.mk ?_)
theorem ok__law_are_whole (T : Tx K mg) : FnOk P w K mg base CX0 2 T.a__law_are_whole T.d__law_are_whole ["_law_thing", "_law_many"] sp__law_are_whole := by
  refine T.F__law_are_whole.ok sc__law_are_whole (fun vs H Q E h => by cases h; rfl) (fun cdv A outer s H vs Q E hr h => ?_)
  obtain @⟨_, _, _, a, u0, u1, v0, v1, h1, k⟩ := h
  refine ⟨_, (pss_cons (ps_if (PW.pt (pw_or (pt_not (pt_val (pe_callB (r := rIsi K) call_isi (by rfl) T.n_isinstance (by decide +kernel) (pa_cons (pv 0) (pa_cons (pe_bltn (v := .ty "tuple") (by rfl) T.n_tuple (by decide +kernel) rfl) pa_nil))))) (pw_or1 (pt_cmpR Ew.op_neI (pe_callB (r := Ew.rLen K) Ew.call_len (by rfl) T.n_len (by decide +kernel) (pa_cons (pv 0) pa_nil)) (pv 1) (nomark _))))) (pss_one (ps_ret pe_bl)) pss_nil)
      (pss_one (ps_ret (pe_cmpR (r := Ew.rEqX K) (Ew.op_eqX hr.units) (pe_lc (own := [("_law_one", 2)]) (g := gName 2) rfl sc__law_are_whole.nd (pi_tup (pv 0)) (blkOk_by (N := N__law_are_whole) (sc := defScope s__law_are_whole) (by decide +kernel)) (fun _ _ _ _ _ => (pg_name (i := 2) sc__law_are_whole.nd rfl (.inl rfl))) (fun _ _ _ _ _ => pts_one (pt_not (pt_val (pe_call (ok__law_is_whole T) (hr.mono (by decide)) rfl T.g__law_is_whole T.F__law_is_whole.kp T.b__law_is_whole .nil pass0 (pa_cons (pv 2) pa_nil))))) (fun _ _ _ _ _ => (pv 2))) (pe_lst pa_nil) (nomark _))))), ?_⟩
  repeat walk_at "ew"
  refine ⟨⟨_, SqT.of h1⟩, fun D hD => lc_tup (K := K) (a := a) (xs := [.int u0, .int u1, .int v0, .int v1]) (fun i H' => H' D = some (.lst []) ∧ Evo [] H H') ?_ ?_ ?_ ?_⟩
  · exact ⟨upd_same, (Evo.refl _ H).new hD⟩
  · rintro i H' _ ⟨_, e⟩
    exact SqT.of (e.tupE h1)
  · rintro i z H' hz ⟨hm, e⟩
    obtain ⟨n, rfl⟩ : ∃ n, z = V.int n := by
      match i, hz with
      | 0, hz => cases hz; exact ⟨_, rfl⟩
      | 1, hz => cases hz; exact ⟨_, rfl⟩
      | 2, hz => cases hz; exact ⟨_, rfl⟩
      | 3, hz => cases hz; exact ⟨_, rfl⟩
    repeat walk_at "ew"
    exact ⟨hm, e⟩
  · rintro H' ⟨hm, e⟩
    repeat walk_at "ew"
    rename_i p hp
    refine ⟨_, eqL (get_new hp hm) upd_same (xs := []) (ys := []) rfl rfl, ?_⟩
    exact k _ (e.new hp)
end
end
section
local macro_rules | `(tactic| walk_at "ewc") => `(tactic| first
  | (show (0 : Int) < _; omega)
  | (show (0 : Int) < _; decide)
  | (refine ⟨?_, ?_⟩ <;> omega)
  | exact Or.inl ⟨by omega, by omega⟩
  | exact Or.inr ⟨by omega, by omega⟩)
local macro_rules | `(tactic| walk_at "ewar") => `(tactic| first
  | omega
  | (simp only [Ew.ab]; repeat' split
     all_goals omega))
local macro_rules | `(tactic| walk_at "ewtup") => `(tactic| first
  | assumption
  | exact upd_same
  | (refine' Ew.get_new ?ew1 ?ew2; (case ew1 => assumption); (case ew2 => walk_at "ewtup"))
  | (refine' Ew.getI_mut ?ew1 ?ew2 rfl; (case ew1 => walk_at "ewlst"); (case ew2 => walk_at "ewtup"))
  | (refine' Ew.getI_mutD ?ew1 ?ew2 rfl; (case ew1 => assumption); (case ew2 => walk_at "ewtup"))
  | (refine' Ew.Evo.getI ?ew1 ?ew2 rfl; (case ew1 => assumption); (case ew2 => walk_at "ewtup")))
local macro_rules | `(tactic| walk_at "ewlst") => `(tactic| first
  | assumption
  | exact upd_same
  | (refine' Ew.get_new ?ew1 ?ew2; (case ew1 => assumption); (case ew2 => walk_at "ewlst"))
  | (refine' Ew.get_ne ?ew1 ?ew2; (case ew1 => assumption); (case ew2 => walk_at "ewlst"))
  | (refine' Ew.Evo.get ?ew1 ?ew2 ?ew3; (case ew1 => assumption); (case ew2 => walk_at "ewoff"); (case ew3 => walk_at "ewlst")))
local macro_rules | `(tactic| walk_at "ewoff") => `(tactic| first
  | assumption
  | exact List.not_mem_nil
  | (refine' Ew.Deck.off' ?ew1 ?ew2; (case ew1 => assumption); (case ew2 => walk_at "ewdeck")))
local macro_rules | `(tactic| walk_at "ewdeck") => `(tactic| first
  | assumption
  | (refine' Ew.Deck.new ?ew1 ?ew2; (case ew2 => assumption); (case ew1 => walk_at "ewdeck"))
  | (refine' Ew.Deck.mut ?ew1 ?ew2; (case ew2 => walk_at "ewoff"); (case ew1 => walk_at "ewdeck"))
  | (refine' Ew.Deck.evo0 ?ew1 ?ew2; (case ew2 => assumption); (case ew1 => walk_at "ewdeck")))
local macro_rules | `(tactic| walk_at "ewevo") => `(tactic| first
  | assumption
  | exact Ew.Evo.refl _ _
  | (refine' Ew.Evo.new ?ew1 ?ew2; (case ew2 => assumption); (case ew1 => walk_at "ewevo"))
  | (refine' Ew.Evo.mut ?ew1 ?ew2; (case ew2 => assumption); (case ew1 => walk_at "ewevo"))
  | (refine' Ew.Evo.trans ?ew1 ?ew2; (case ew2 => assumption); (case ew1 => walk_at "ewevo"))
  | (refine' Ew.Evo.call0 ?ew1 ?ew2; (case ew2 => assumption); (case ew1 => walk_at "ewevo")))
local macro_rules | `(tactic| walk_at "ewlen") => `(tactic| first
  | exact Nat.le_of_ble_eq_true rfl
  | omega
  | (simp only [List.length_map, List.length_append, List.length_cons, List.length_nil]; omega))
local macro_rules | `(tactic| walk_at "ewcall") => `(tactic| fail)
local macro_rules | `(tactic| walk_at "ew") => `(tactic| first
  | walk_at "ewcall"
  | refine ⟨_, rfl, ?_⟩
  | refine iteT ?_
  | refine iteF ?_
  | refine ⟨_, _, rfl, rfl, ?_⟩
  | (refine' Ew.ixT (SqT.of ?ew1) ?ew2 ?_; (case ew1 => walk_at "ewtup"); (case ew2 => rfl))
  | (refine' Ew.ixL (SqL.of ?ew1) ?ew2 ?_; (case ew1 => walk_at "ewlst"); (case ew2 => rfl))
  | (refine' ⟨_, ?_, rfl, SqT.of ?ew1, ?ew2, ?_⟩; (case ew1 => walk_at "ewtup"); (case ew2 => rfl))
  | (refine' ⟨_, ?_, rfl, SqL.of ?ew1, ?ew2, ?_⟩; (case ew1 => walk_at "ewlst"); (case ew2 => rfl))
  | refine ⟨_, _, rfl, ?_⟩
  | (refine' ⟨_, ?_, rfl, Or.inr (SqT.of ?ew1), rfl, ?ew2, ?_⟩; (case ew1 => walk_at "ewtup"); (case ew2 => rfl))
  | refine Or.inr ⟨_, rfl, ?_⟩
  | (refine' Ew.ixQ ?ew1 ?ew2 ?_; (case ew1 => first | assumption | exact Or.inl (by walk_at "ewlst") | exact Or.inr (by walk_at "ewtup")); (case ew2 => rfl))
  | refine ⟨_, _, _, rfl, fun m hm h1 h2 h3 => ?_⟩
  | refine ⟨_, _, _, _, rfl, fun m hm h1 h2 h3 h4 => ?_⟩
  | refine ⟨_, _, _, _, _, rfl, fun m hm h1 h2 h3 h4 h5 => ?_⟩
  | (refine' ⟨_, ?_, ?_, rfl, SqL.of ?ew1, ?ew2, fun p hp => ?_⟩; (case ew1 => walk_at "ewlst"); (case ew2 => first | exact Ew.cut_lo2 | exact Ew.cut_hi2))
  | (refine' ⟨_, ?_, ?_, rfl, SqT.of ?ew1, ?ew2, ?ew3, fun p hp => ?_⟩; (case ew1 => walk_at "ewtup"); (case ew2 => first | exact Ew.cut_lo2 | exact Ew.cut_hi2); (case ew3 => exact Nat.le_of_ble_eq_true rfl))
  | refine ⟨rfl, rfl, ?_⟩
  | refine ⟨rfl, ?_⟩
  | refine Ew.ii_ii ?_
  | refine Ew.ii_ib ?_
  | refine Ew.ii_bb ?_
  | (refine' Ew.ii_tt ?ew1 ?_; (case ew1 => walk_at "ewtup"))
  | refine ⟨Ew.sz (Nat.le_of_ble_eq_true rfl), fun p hp => ?_⟩
  | (refine' ⟨_, ?_, ?_, rfl, SqT.of ?ew1, fun p hp => ?_⟩; (case ew1 => walk_at "ewtup"))
  | (refine' ⟨Or.inl ⟨rfl, ?_, SqL.of ?ew1⟩, ?_⟩; (case ew1 => walk_at "ewlst"))
  | (refine' Ew.apd ?ew1 ?ew2 ?_; (case ew1 => walk_at "ewlst"); (case ew2 => walk_at "ewlen"))
  | (refine' ⟨?_, Ew.eqT ?ew1 ?ew2 ?ew3 ?ew4, ?_⟩; (case ew1 => walk_at "ewtup"); (case ew2 => walk_at "ewtup"); (case ew3 => rfl); (case ew4 => rfl))
  | (refine' Ew.lenT (SqT.of ?ew1) ?_; (case ew1 => walk_at "ewtup"))
  | (refine' Ew.lenL (SqL.of ?ew1) ?_; (case ew1 => walk_at "ewlst"))
  | refine ⟨by walk_at "ewc", ?_⟩
  | (refine' Ew.ixB (SqL.of ?ew1) (fun hb => ?_) (fun hb => ?_); (case ew1 => walk_at "ewlst")))
section
variable {P : Program} {w : World} {K : PySem.W.Frag} {mg : Str → Option Value} {base : Heap}
abbrev Bw (x : Int) : Prop := -1000000000000 ≤ x ∧ x ≤ 1000000000000
local macro_rules | `(tactic| walk_at "ewcall") => `(tactic| first
  | (refine' sp__law_wide_draw.mk ?ew1 ?ew2 ?_; (case ew1 => walk_at "ewdeck"); (case ew2 => omega))
  | (refine' sp__law_draw.mk ?ew1 ?ew2 ?ew3 ?_; (case ew1 => walk_at "ewdeck"); (case ew2 => omega); (case ew3 => omega)))
inductive sp__law_stretch : List V → Hp → VK → XK → Prop
  | mk {H : Hp} {Q : VK} {E : XK} {dk c : Addr} {m : Int} (hD : Deck H dk c) (m0 : 0 ≤ m) (m1 : m < 12) (k : ∀ H' p x y, H' p = some (.tup [.int x, .int y]) → Bw x → Bw y → x ≤ y → Deck H' dk c → Evo [dk, c] H H' → Q (.ref p) H') : sp__law_stretch [.ref dk, .int m] H Q E
set_option maxHeartbeats 1000000 in
theorem ok__law_stretch (T : Tx K mg) : FnOk P w K mg base CX0 3 T.a__law_stretch T.d__law_stretch ["_law_deck_here", "_law_way"] sp__law_stretch := by
  refine T.F__law_stretch.ok sc__law_stretch (fun vs H Q E h => by cases h; rfl) (fun cdv A outer s H vs Q E hr h => ?_)
  obtain @⟨_, _, _, dk, c, m, hD, m0, m1, k⟩ := h
  refine ⟨_, (pss_cons (ps_set (i := 2) sc__law_stretch.nd rfl (Or.inl rfl) (pe_op op_add (pe_ix (r := rIxL K) ix_list (pe_lst (pa_cons (pe_un un_neg pe_int) (pa_cons (pe_un un_neg (pe_op (Ew.op_powC 10 12 1000000000000) pe_int pe_int)) (pa_cons (pe_op (Ew.op_powC 10 12 1000000000000) pe_int pe_int) (pa_cons (pe_un un_neg (pe_op (Ew.op_powC 10 12 1000000000000) pe_int pe_int)) pa_nil))))) (pe_op op_fdiv (pv 1) pe_int) (fun _ _ => rfl)) (pe_call (ok__law_wide_draw T) (hr.mono (by decide)) rfl T.g__law_wide_draw T.F__law_wide_draw.kp T.b__law_wide_draw .nil pass0 (pa_cons (pv 0) (pa_cons (pe_ix (r := rIxL K) ix_list (pe_lst (pa_cons pe_int (pa_cons (pe_op op_add (pe_op op_mul pe_int (pe_op (Ew.op_powC 10 12 1000000000000) pe_int pe_int)) pe_int) (pa_cons pe_int (pa_cons pe_int pa_nil))))) (pe_op op_fdiv (pv 1) pe_int) (fun _ _ => rfl)) pa_nil)))))
      (pss_one (ps_ret (pe_tup (pa_cons (pv 2) (pa_cons (pe_callB (call_min2 rfl) (by rfl) T.n_min (by decide +kernel) (pa_cons (pe_op (Ew.op_powC 10 12 1000000000000) pe_int pe_int) (pa_cons (pe_op op_add (pv 2) (pe_call (ok__law_wide_draw T) (hr.mono (by decide)) rfl T.g__law_wide_draw T.F__law_wide_draw.kp T.b__law_wide_draw .nil pass0 (pa_cons (pv 0) (pa_cons (pe_ix (r := rIxL K) ix_list (pe_lst (pa_cons pe_int (pa_cons pe_int (pa_cons (pe_op (Ew.op_powC 10 12 1000000000000) pe_int pe_int) pa_nil)))) (pe_op op_mod (pv 1) pe_int) (fun _ _ => rfl)) pa_nil)))) pa_nil))) pa_nil)))))), ?_⟩
  repeat walk_at "ew"
  rename_i l1 hl1
  refine ixJ (SqL.of (by walk_at "ewlst")) (by rfl) (by omega) (by show m / 3 < 4; omega) (fun z1 e1 => ?_)
  repeat walk_at "ew"
  rename_i l2 hl2
  refine ixJ (SqL.of (by walk_at "ewlst")) (by rfl) (by omega) (by show m / 3 < 4; omega) (fun z2 e2 => ?_)
  obtain ⟨b0, b1, b2⟩ := stretch_lists (i := m / 3) (by omega) (by omega) e1 e2
  repeat walk_at "ew"
  intro H1 r r0 r1 hD1 f1
  repeat walk_at "ew"
  rename_i l3 hl3
  refine ixI (SqL.of (by walk_at "ewlst")) (by rfl) (by omega) (by show m % 3 < 3; omega) (fun z3 e3 => ?_)
  simp only [List.mem_cons, List.not_mem_nil, or_false] at e3
  repeat walk_at "ew"
  intro H2 q q0 q1 hD2 f2
  repeat walk_at "ew"
  rename_i t ht
  refine k _ _ _ _ upd_same ⟨by omega, by omega⟩ ⟨?_, ?_⟩ ?_ (hD2.new ht) ((((((Evo.refl _ H).new hl1).new hl2).trans f1).new hl3 |>.trans f2).new ht)
  all_goals
    split
    all_goals omega
inductive sp__law_box : List V → Hp → VK → XK → Prop
  | mk {H : Hp} {Q : VK} {E : XK} {dk c : Addr} (hD : Deck H dk c) (k : ∀ H' p u0 u1 v0 v1, BoxAt H' p u0 u1 v0 v1 → Bw u0 → Bw u1 → Bw v0 → Bw v1 → u0 ≤ u1 → v0 ≤ v1 → Deck H' dk c → Evo [dk, c] H H' → Q (.ref p) H') : sp__law_box [.ref dk] H Q E
local macro_rules | `(tactic| walk_at "ewcall") => `(tactic| first
  | (refine' sp__law_stretch.mk ?ew1 ?ew2 ?ew3 ?_; (case ew1 => walk_at "ewdeck"); (case ew2 => omega); (case ew3 => omega))
  | (refine' sp__law_draw.mk ?ew1 ?ew2 ?ew3 ?_; (case ew1 => walk_at "ewdeck"); (case ew2 => omega); (case ew3 => omega)))
theorem ok__law_box (T : Tx K mg) : FnOk P w K mg base CX0 4 T.a__law_box T.d__law_box ["_law_deck_here"] sp__law_box := by
  refine T.F__law_box.ok sc__law_box (fun vs H Q E h => by cases h; rfl) (fun cdv A outer s H vs Q E hr h => ?_)
  obtain @⟨_, _, _, dk, c, hD, k⟩ := h
  refine ⟨_, (pss_cons (ps_set (i := 1) sc__law_box.nd rfl (Or.inl rfl) (pe_ix (r := rIxL K) ix_list (pe_lst (pa_cons pe_int (pa_cons pe_int pa_nil))) (pe_callTy call_int1 (by rfl) T.n_int (by decide +kernel) (pa_cons (pe_cmpR op_gt (pe_call (ok__law_draw T) (hr.mono (by decide)) rfl T.g__law_draw T.F__law_draw.kp T.b__law_draw .nil pass0 (pa_cons (pv 0) (pa_cons pe_int pa_nil))) pe_int (nomark _)) pa_nil)) (fun _ _ => rfl)))
      (pss_cons (ps_set (i := 2) sc__law_box.nd rfl (Or.inl rfl) (pe_call (ok__law_stretch T) (hr.mono (by decide)) rfl T.g__law_stretch T.F__law_stretch.kp T.b__law_stretch .nil pass0 (pa_cons (pv 0) (pa_cons (pe_call (ok__law_draw T) (hr.mono (by decide)) rfl T.g__law_draw T.F__law_draw.kp T.b__law_draw .nil pass0 (pa_cons (pv 0) (pa_cons (pv 1) pa_nil))) pa_nil))))
      (pss_one (ps_ret (pe_op (r := rCatT K) op_catT (pv 2) (pe_call (ok__law_stretch T) (hr.mono (by decide)) rfl T.g__law_stretch T.F__law_stretch.kp T.b__law_stretch .nil pass0 (pa_cons (pv 0) (pa_cons (pe_call (ok__law_draw T) (hr.mono (by decide)) rfl T.g__law_draw T.F__law_draw.kp T.b__law_draw .nil pass0 (pa_cons (pv 0) (pa_cons (pv 1) pa_nil))) pa_nil)))))))), ?_⟩
  repeat walk_at "ew"
  rename_i l hl
  intro H1 r r0 r1 hD1 e1
  repeat walk_at "ew"
  all_goals
    repeat walk_at "ew"
    intro H2 a a0 a1 hD2 e2
    repeat walk_at "ew"
    intro H3 p x y hp bx bY hxy hD3 e3
    repeat walk_at "ew"
    intro H4 b b0 b1 hD4 e4
    repeat walk_at "ew"
    intro H5 q x' y' hq bx' bY' hxy' hD5 e5
    refine catE (by walk_at "ewtup") hq (by intro z; cases z) (by intro z; cases z) (by show 4 ≤ 1000; decide) (fun t ht => ?_)
    exact k _ _ _ _ _ _ upd_same bx bY bx' bY' hxy hxy' (hD5.new ht) ((((((Evo.refl _ H).new hl).trans e1).trans e2).trans e3 |>.trans e4 |>.trans e5).new ht)
end
end
section
local macro_rules | `(tactic| walk_at "ewc") => `(tactic| first
  | (show (0 : Int) < _; omega)
  | (show (0 : Int) < _; decide)
  | (refine ⟨?_, ?_⟩ <;> omega)
  | exact Or.inl ⟨by omega, by omega⟩
  | exact Or.inr ⟨by omega, by omega⟩)
local macro_rules | `(tactic| walk_at "ewar") => `(tactic| first
  | omega
  | (simp only [Ew.ab]; repeat' split
     all_goals omega))
local macro_rules | `(tactic| walk_at "ewtup") => `(tactic| first
  | assumption
  | exact upd_same
  | (refine' Ew.get_new ?ew1 ?ew2; (case ew1 => assumption); (case ew2 => walk_at "ewtup"))
  | (refine' Ew.getI_mut ?ew1 ?ew2 rfl; (case ew1 => walk_at "ewlst"); (case ew2 => walk_at "ewtup"))
  | (refine' Ew.getI_mutD ?ew1 ?ew2 rfl; (case ew1 => assumption); (case ew2 => walk_at "ewtup"))
  | (refine' Ew.Evo.getI ?ew1 ?ew2 rfl; (case ew1 => assumption); (case ew2 => walk_at "ewtup")))
local macro_rules | `(tactic| walk_at "ewlst") => `(tactic| first
  | assumption
  | exact upd_same
  | (refine' Ew.get_new ?ew1 ?ew2; (case ew1 => assumption); (case ew2 => walk_at "ewlst"))
  | (refine' Ew.get_ne ?ew1 ?ew2; (case ew1 => assumption); (case ew2 => walk_at "ewlst"))
  | (refine' Ew.Evo.get ?ew1 ?ew2 ?ew3; (case ew1 => assumption); (case ew2 => walk_at "ewoff"); (case ew3 => walk_at "ewlst")))
local macro_rules | `(tactic| walk_at "ewoff") => `(tactic| first
  | assumption
  | exact List.not_mem_nil
  | (refine' Ew.Deck.off' ?ew1 ?ew2; (case ew1 => assumption); (case ew2 => walk_at "ewdeck")))
local macro_rules | `(tactic| walk_at "ewdeck") => `(tactic| first
  | assumption
  | (refine' Ew.Deck.new ?ew1 ?ew2; (case ew2 => assumption); (case ew1 => walk_at "ewdeck"))
  | (refine' Ew.Deck.mut ?ew1 ?ew2; (case ew2 => walk_at "ewoff"); (case ew1 => walk_at "ewdeck"))
  | (refine' Ew.Deck.evo0 ?ew1 ?ew2; (case ew2 => assumption); (case ew1 => walk_at "ewdeck")))
local macro_rules | `(tactic| walk_at "ewevo") => `(tactic| first
  | assumption
  | exact Ew.Evo.refl _ _
  | (refine' Ew.Evo.new ?ew1 ?ew2; (case ew2 => assumption); (case ew1 => walk_at "ewevo"))
  | (refine' Ew.Evo.mut ?ew1 ?ew2; (case ew2 => assumption); (case ew1 => walk_at "ewevo"))
  | (refine' Ew.Evo.trans ?ew1 ?ew2; (case ew2 => assumption); (case ew1 => walk_at "ewevo"))
  | (refine' Ew.Evo.call0 ?ew1 ?ew2; (case ew2 => assumption); (case ew1 => walk_at "ewevo")))
local macro_rules | `(tactic| walk_at "ewlen") => `(tactic| first
  | exact Nat.le_of_ble_eq_true rfl
  | omega
  | (simp only [List.length_map, List.length_append, List.length_cons, List.length_nil]; omega))
local macro_rules | `(tactic| walk_at "ewcall") => `(tactic| fail)
local macro_rules | `(tactic| walk_at "ew") => `(tactic| first
  | walk_at "ewcall"
  | refine ⟨_, rfl, ?_⟩
  | refine iteT ?_
  | refine iteF ?_
  | refine ⟨_, _, rfl, rfl, ?_⟩
  | (refine' Ew.ixT (SqT.of ?ew1) ?ew2 ?_; (case ew1 => walk_at "ewtup"); (case ew2 => rfl))
  | (refine' Ew.ixL (SqL.of ?ew1) ?ew2 ?_; (case ew1 => walk_at "ewlst"); (case ew2 => rfl))
  | (refine' ⟨_, ?_, rfl, SqT.of ?ew1, ?ew2, ?_⟩; (case ew1 => walk_at "ewtup"); (case ew2 => rfl))
  | (refine' ⟨_, ?_, rfl, SqL.of ?ew1, ?ew2, ?_⟩; (case ew1 => walk_at "ewlst"); (case ew2 => rfl))
  | refine ⟨_, _, rfl, ?_⟩
  | (refine' ⟨_, ?_, rfl, Or.inr (SqT.of ?ew1), rfl, ?ew2, ?_⟩; (case ew1 => walk_at "ewtup"); (case ew2 => rfl))
  | refine Or.inr ⟨_, rfl, ?_⟩
  | (refine' Ew.ixQ ?ew1 ?ew2 ?_; (case ew1 => first | assumption | exact Or.inl (by walk_at "ewlst") | exact Or.inr (by walk_at "ewtup")); (case ew2 => rfl))
  | refine ⟨_, _, _, rfl, fun m hm h1 h2 h3 => ?_⟩
  | refine ⟨_, _, _, _, rfl, fun m hm h1 h2 h3 h4 => ?_⟩
  | refine ⟨_, _, _, _, _, rfl, fun m hm h1 h2 h3 h4 h5 => ?_⟩
  | (refine' ⟨_, ?_, ?_, rfl, SqL.of ?ew1, ?ew2, fun p hp => ?_⟩; (case ew1 => walk_at "ewlst"); (case ew2 => first | exact Ew.cut_lo2 | exact Ew.cut_hi2))
  | (refine' ⟨_, ?_, ?_, rfl, SqT.of ?ew1, ?ew2, ?ew3, fun p hp => ?_⟩; (case ew1 => walk_at "ewtup"); (case ew2 => first | exact Ew.cut_lo2 | exact Ew.cut_hi2); (case ew3 => exact Nat.le_of_ble_eq_true rfl))
  | refine ⟨rfl, rfl, ?_⟩
  | refine ⟨rfl, ?_⟩
  | refine Ew.ii_ii ?_
  | refine Ew.ii_ib ?_
  | refine Ew.ii_bb ?_
  | (refine' Ew.ii_tt ?ew1 ?_; (case ew1 => walk_at "ewtup"))
  | refine ⟨Ew.sz (Nat.le_of_ble_eq_true rfl), fun p hp => ?_⟩
  | (refine' ⟨_, ?_, ?_, rfl, SqT.of ?ew1, fun p hp => ?_⟩; (case ew1 => walk_at "ewtup"))
  | (refine' ⟨Or.inl ⟨rfl, ?_, SqL.of ?ew1⟩, ?_⟩; (case ew1 => walk_at "ewlst"))
  | (refine' Ew.apd ?ew1 ?ew2 ?_; (case ew1 => walk_at "ewlst"); (case ew2 => walk_at "ewlen"))
  | (refine' ⟨?_, Ew.eqT ?ew1 ?ew2 ?ew3 ?ew4, ?_⟩; (case ew1 => walk_at "ewtup"); (case ew2 => walk_at "ewtup"); (case ew3 => rfl); (case ew4 => rfl))
  | (refine' Ew.lenT (SqT.of ?ew1) ?_; (case ew1 => walk_at "ewtup"))
  | (refine' Ew.lenL (SqL.of ?ew1) ?_; (case ew1 => walk_at "ewlst"))
  | refine ⟨by walk_at "ewc", ?_⟩
  | (refine' Ew.ixB (SqL.of ?ew1) (fun hb => ?_) (fun hb => ?_); (case ew1 => walk_at "ewlst")))
theorem metB_comm (p q : B4) : metB p q = metB q p := by
  unfold metB
  rw [Int.max_comm p.u0, Int.min_comm p.u1, Int.max_comm p.v0, Int.min_comm p.v1]
theorem metB_no {p q : B4} (h : metB p q = none) : max p.u0 q.u0 > min p.u1 q.u1 ∨ max p.v0 q.v0 > min p.v1 q.v1 := by
  unfold metB at h
  by_cases c : max p.u0 q.u0 > min p.u1 q.u1 ∨ max p.v0 q.v0 > min p.v1 q.v1
  · exact c
  · rw [if_neg c] at h; cases h
theorem metB_yes {p q r : B4} (h : metB p q = some r) : max p.u0 q.u0 ≤ min p.u1 q.u1 ∧ max p.v0 q.v0 ≤ min p.v1 q.v1 ∧ r = ⟨max p.u0 q.u0, min p.u1 q.u1, max p.v0 q.v0, min p.v1 q.v1⟩ := by
  unfold metB at h
  by_cases c : max p.u0 q.u0 > min p.u1 q.u1 ∨ max p.v0 q.v0 > min p.v1 q.v1
  · rw [if_pos c] at h; cases h
  · rw [if_neg c] at h
    refine ⟨?_, ?_, (Option.some.inj h).symm⟩
    · exact Int.not_lt.mp fun z => c (.inl z)
    · exact Int.not_lt.mp fun z => c (.inr z)
def met3 (p q r : B4) : Option B4 := (metB p q).bind fun b => metB b r
theorem met3_eq (p q r : B4) : met3 p q r = if max (max p.u0 q.u0) r.u0 > min (min p.u1 q.u1) r.u1 ∨ max (max p.v0 q.v0) r.v0 > min (min p.v1 q.v1) r.v1 then none else some ⟨max (max p.u0 q.u0) r.u0, min (min p.u1 q.u1) r.u1, max (max p.v0 q.v0) r.v0, min (min p.v1 q.v1) r.v1⟩ := by
  unfold met3
  cases h : metB p q with
  | none =>
    have c := metB_no h
    rw [if_pos (by rcases c with c | c <;> omega)]
    rfl
  | some b =>
    obtain ⟨_, _, rfl⟩ := metB_yes h
    rfl
theorem met3_1 (p q r : B4) : met3 r p q = met3 p q r := by
  rw [met3_eq, met3_eq]
  have e1 : max (max r.u0 p.u0) q.u0 = max (max p.u0 q.u0) r.u0 := by omega
  have e2 : min (min r.u1 p.u1) q.u1 = min (min p.u1 q.u1) r.u1 := by omega
  have e3 : max (max r.v0 p.v0) q.v0 = max (max p.v0 q.v0) r.v0 := by omega
  have e4 : min (min r.v1 p.v1) q.v1 = min (min p.v1 q.v1) r.v1 := by omega
  rw [e1, e2, e3, e4]
theorem met3_2 (p q r : B4) : met3 q r p = met3 p q r := by rw [met3_1 p q r |>.symm, met3_1 r p q |>.symm]
theorem met3_3 (p q r : B4) : met3 r q p = met3 p q r := by
  rw [met3_eq, met3_eq]
  have e1 : max (max r.u0 q.u0) p.u0 = max (max p.u0 q.u0) r.u0 := by omega
  have e2 : min (min r.u1 q.u1) p.u1 = min (min p.u1 q.u1) r.u1 := by omega
  have e3 : max (max r.v0 q.v0) p.v0 = max (max p.v0 q.v0) r.v0 := by omega
  have e4 : min (min r.v1 q.v1) p.v1 = min (min p.v1 q.v1) r.v1 := by omega
  rw [e1, e2, e3, e4]
theorem metB_self {p : B4} (h1 : p.u0 ≤ p.u1) (h2 : p.v0 ≤ p.v1) : metB p p = some p := by
  have e : metB p p = some ⟨max p.u0 p.u0, min p.u1 p.u1, max p.v0 p.v0, min p.v1 p.v1⟩ := if_neg (by rintro (h | h) <;> omega)
  rw [e, Int.max_self, Int.max_self, Int.min_self, Int.min_self]
theorem metB_has (p q : B4) (u v : Int) : ((metB p q).any fun b => decide (hasB b.u0 b.u1 b.v0 b.v1 u v)) = decide (hasB p.u0 p.u1 p.v0 p.v1 u v ∧ hasB q.u0 q.u1 q.v0 q.v1 u v) := by
  cases h : metB p q with
  | none =>
    have c := metB_no h
    refine (decide_eq_false ?_).symm
    rintro ⟨⟨_, _, _, _⟩, ⟨_, _, _, _⟩⟩
    rcases c with c | c <;> omega
  | some b =>
    obtain ⟨_, _, rfl⟩ := metB_yes h
    refine decide_eq_decide.mpr ?_
    constructor
    · rintro ⟨a1, a2, a3, a4⟩
      simp only at a1 a2 a3 a4
      refine ⟨⟨?_, ?_, ?_, ?_⟩, ⟨?_, ?_, ?_, ?_⟩⟩ <;> omega
    · rintro ⟨⟨_, _, _, _⟩, ⟨_, _, _, _⟩⟩
      refine ⟨?_, ?_, ?_, ?_⟩ <;> simp only <;> omega
theorem eqOB {K : PySem.W.Frag} {H : Hp} {v w : V} {o : Option B4} (h1 : OB H v o) (h2 : OB H w o) : EqR K H v w true := by
  cases o with
  | none =>
    have e1 : v = .non := h1
    have e2 : w = .non := h2
    subst e1 e2
    exact ⟨.none, .none, .non, .non, rfl, rfl, by simp [PyData.eqv]⟩
  | some b =>
    obtain ⟨a, rfl, ha⟩ := h1
    obtain ⟨c, rfl, hc⟩ := h2
    have e := eqT (K := K) ha hc (xs := [b.u0, b.u1, b.v0, b.v1]) (ys := [b.u0, b.u1, b.v0, b.v1]) rfl rfl
    rw [decide_eq_true rfl] at e
    exact e
section
variable {P : Program} {w : World} {K : PySem.W.Frag} {mg : Str → Option Value} {base : Heap}
inductive sp__law_both : List V → Hp → VK → XK → Prop
  | mk {H : Hp} {Q : VK} {E : XK} {v w : V} (o1 o2 : Option B4) (h1 : OB H v o1) (h2 : OB H w o2) (k : ∀ H' r, OB H' r (o1.bind fun p => o2.bind fun q => metB p q) → Evo [] H H' → Q r H') : sp__law_both [v, w] H Q E
set_option maxHeartbeats 1000000 in
theorem ok__law_both (T : Tx K mg) : FnOk P w K mg base CX0 1 T.a__law_both T.d__law_both ["_law_one", "_law_other"] sp__law_both := by
  refine T.F__law_both.ok sc__law_both (fun vs H Q E h => by cases h; rfl) (fun cdv A outer s H vs Q E hr h => ?_)
  obtain @⟨_, _, _, v, w', o1, o2, h1, h2, k⟩ := h
  refine ⟨_, (pss_cons (ps_if (PW.pt (pw_or (pt_cmpR op_isN (pv 0) pe_non (nomark _)) (pw_or1 (pt_cmpR op_isN (pv 1) pe_non (nomark _))))) (pss_one (ps_ret pe_non)) pss_nil)
      (C8.pss_cut (ps_set (i := 2) sc__law_both.nd rfl (Or.inl rfl) (pe_ix (r := rIxL K) ix_list (pe_lst (pa_cons (pe_ix (r := rIxT K) ix_tup (pv 0) pe_int (fun _ _ => rfl)) (pa_cons (pe_ix (r := rIxT K) ix_tup (pv 1) pe_int (fun _ _ => rfl)) pa_nil))) (pe_callTy call_int1 (by rfl) T.n_int (by decide +kernel) (pa_cons (pe_cmpR op_gt (pe_ix (r := rIxT K) ix_tup (pv 1) pe_int (fun _ _ => rfl)) (pe_ix (r := rIxT K) ix_tup (pv 0) pe_int (fun _ _ => rfl)) (nomark _)) pa_nil)) (fun _ _ => rfl)))
      (C8.pss_cut (ps_set (i := 3) sc__law_both.nd rfl (Or.inl rfl) (pe_ix (r := rIxL K) ix_list (pe_lst (pa_cons (pe_ix (r := rIxT K) ix_tup (pv 0) pe_int (fun _ _ => rfl)) (pa_cons (pe_ix (r := rIxT K) ix_tup (pv 1) pe_int (fun _ _ => rfl)) pa_nil))) (pe_callTy call_int1 (by rfl) T.n_int (by decide +kernel) (pa_cons (pe_cmpR op_lt (pe_ix (r := rIxT K) ix_tup (pv 1) pe_int (fun _ _ => rfl)) (pe_ix (r := rIxT K) ix_tup (pv 0) pe_int (fun _ _ => rfl)) (nomark _)) pa_nil)) (fun _ _ => rfl)))
      (C8.pss_cut (ps_set (i := 4) sc__law_both.nd rfl (Or.inl rfl) (pe_ix (r := rIxL K) ix_list (pe_lst (pa_cons (pe_ix (r := rIxT K) ix_tup (pv 0) pe_int (fun _ _ => rfl)) (pa_cons (pe_ix (r := rIxT K) ix_tup (pv 1) pe_int (fun _ _ => rfl)) pa_nil))) (pe_callTy call_int1 (by rfl) T.n_int (by decide +kernel) (pa_cons (pe_cmpR op_gt (pe_ix (r := rIxT K) ix_tup (pv 1) pe_int (fun _ _ => rfl)) (pe_ix (r := rIxT K) ix_tup (pv 0) pe_int (fun _ _ => rfl)) (nomark _)) pa_nil)) (fun _ _ => rfl)))
      (C8.pss_cut (ps_set (i := 5) sc__law_both.nd rfl (Or.inl rfl) (pe_ix (r := rIxL K) ix_list (pe_lst (pa_cons (pe_ix (r := rIxT K) ix_tup (pv 0) pe_int (fun _ _ => rfl)) (pa_cons (pe_ix (r := rIxT K) ix_tup (pv 1) pe_int (fun _ _ => rfl)) pa_nil))) (pe_callTy call_int1 (by rfl) T.n_int (by decide +kernel) (pa_cons (pe_cmpR op_lt (pe_ix (r := rIxT K) ix_tup (pv 1) pe_int (fun _ _ => rfl)) (pe_ix (r := rIxT K) ix_tup (pv 0) pe_int (fun _ _ => rfl)) (nomark _)) pa_nil)) (fun _ _ => rfl)))
      (pss_cons (ps_if (PW.pt (pw_or (pt_cmpR op_gt (pv 2) (pv 3) (nomark _)) (pw_or1 (pt_cmpR op_gt (pv 4) (pv 5) (nomark _))))) (pss_one (ps_ret pe_non)) pss_nil)
      (pss_one (ps_ret (pe_tup (pa_cons (pv 2) (pa_cons (pv 3) (pa_cons (pv 4) (pa_cons (pv 5) pa_nil))))))))))))), ?_⟩
  cases o1 with
  | none =>
    have e1 : v = .non := h1
    subst e1
    repeat walk_at "ew"
    exact k _ _ rfl (Evo.refl _ H)
  | some p =>
    obtain ⟨a, rfl, ha⟩ := h1
    cases o2 with
    | none =>
      have e2 : w' = .non := h2
      subst e2
      repeat walk_at "ew"
      exact k _ _ rfl (Evo.refl _ H)
    | some q =>
      obtain ⟨b, rfl, hb⟩ := h2
      have no : metB p q = none → ∀ H', Evo [] H H' → Q .non H' := fun h H' e => k _ _ (by show OB H' .non (metB p q); rw [h]; rfl) e
      repeat walk_at "ew"
      refine ⟨fun σ H' => σ = [some (.ref a), some (.ref b), some (.int (max p.u0 q.u0)), none, none, none] ∧ Evo [] H H', ?_, ?_⟩
      · repeat walk_at "ew"
        all_goals
          first | (have hb' : q.u0 > p.u0 := of_decide_eq_true ‹decide (p.u0 < q.u0) = true›) | (have hb' : ¬ q.u0 > p.u0 := of_decide_eq_false ‹decide (p.u0 < q.u0) = false›)
          refine ⟨?_, by walk_at "ewevo"⟩
          have e : ∀ x : Int, x = (max p.u0 q.u0) → some (V.int x) = some (V.int (max p.u0 q.u0)) := fun x h => by rw [h]
          first | exact congrArg (fun z => [some (V.ref a), some (V.ref b), z, none, none, none]) (e q.u0 (by omega)) | exact congrArg (fun z => [some (V.ref a), some (V.ref b), z, none, none, none]) (e p.u0 (by omega))
      rintro σ H1 ⟨rfl, f1⟩
      refine ⟨fun σ H' => σ = [some (.ref a), some (.ref b), some (.int (max p.u0 q.u0)), some (.int (min p.u1 q.u1)), none, none] ∧ Evo [] H H', ?_, ?_⟩
      · repeat walk_at "ew"
        all_goals
          first | (have hb' : q.u1 < p.u1 := of_decide_eq_true ‹decide (q.u1 < p.u1) = true›) | (have hb' : ¬ q.u1 < p.u1 := of_decide_eq_false ‹decide (q.u1 < p.u1) = false›)
          refine ⟨?_, by walk_at "ewevo"⟩
          have e : ∀ x : Int, x = (min p.u1 q.u1) → some (V.int x) = some (V.int (min p.u1 q.u1)) := fun x h => by rw [h]
          first | exact congrArg (fun z => [some (V.ref a), some (V.ref b), some (V.int (max p.u0 q.u0)), z, none, none]) (e q.u1 (by omega)) | exact congrArg (fun z => [some (V.ref a), some (V.ref b), some (V.int (max p.u0 q.u0)), z, none, none]) (e p.u1 (by omega))
      rintro σ H2 ⟨rfl, f2⟩
      refine ⟨fun σ H' => σ = [some (.ref a), some (.ref b), some (.int (max p.u0 q.u0)), some (.int (min p.u1 q.u1)), some (.int (max p.v0 q.v0)), none] ∧ Evo [] H H', ?_, ?_⟩
      · repeat walk_at "ew"
        all_goals
          first | (have hb' : q.v0 > p.v0 := of_decide_eq_true ‹decide (p.v0 < q.v0) = true›) | (have hb' : ¬ q.v0 > p.v0 := of_decide_eq_false ‹decide (p.v0 < q.v0) = false›)
          refine ⟨?_, by walk_at "ewevo"⟩
          have e : ∀ x : Int, x = (max p.v0 q.v0) → some (V.int x) = some (V.int (max p.v0 q.v0)) := fun x h => by rw [h]
          first | exact congrArg (fun z => [some (V.ref a), some (V.ref b), some (V.int (max p.u0 q.u0)), some (V.int (min p.u1 q.u1)), z, none]) (e q.v0 (by omega)) | exact congrArg (fun z => [some (V.ref a), some (V.ref b), some (V.int (max p.u0 q.u0)), some (V.int (min p.u1 q.u1)), z, none]) (e p.v0 (by omega))
      rintro σ H3 ⟨rfl, f3⟩
      refine ⟨fun σ H' => σ = [some (.ref a), some (.ref b), some (.int (max p.u0 q.u0)), some (.int (min p.u1 q.u1)), some (.int (max p.v0 q.v0)), some (.int (min p.v1 q.v1))] ∧ Evo [] H H', ?_, ?_⟩
      · repeat walk_at "ew"
        all_goals
          first | (have hb' : q.v1 < p.v1 := of_decide_eq_true ‹decide (q.v1 < p.v1) = true›) | (have hb' : ¬ q.v1 < p.v1 := of_decide_eq_false ‹decide (q.v1 < p.v1) = false›)
          refine ⟨?_, by walk_at "ewevo"⟩
          have e : ∀ x : Int, x = (min p.v1 q.v1) → some (V.int x) = some (V.int (min p.v1 q.v1)) := fun x h => by rw [h]
          first | exact congrArg (fun z => [some (V.ref a), some (V.ref b), some (V.int (max p.u0 q.u0)), some (V.int (min p.u1 q.u1)), some (V.int (max p.v0 q.v0)), z]) (e q.v1 (by omega)) | exact congrArg (fun z => [some (V.ref a), some (V.ref b), some (V.int (max p.u0 q.u0)), some (V.int (min p.u1 q.u1)), some (V.int (max p.v0 q.v0)), z]) (e p.v1 (by omega))
      rintro σ H4 ⟨rfl, f4⟩
      repeat walk_at "ew"
      refine iteD (fun c1 => ?_) (fun c1 => ?_)
      · repeat walk_at "ew"
        exact no (if_pos (.inl c1)) _ f4
      repeat walk_at "ew"
      refine iteD (fun c2 => ?_) (fun c2 => ?_)
      · repeat walk_at "ew"
        exact no (if_pos (.inr c2)) _ f4
      repeat walk_at "ew"
      rename_i t ht
      refine k _ _ ?_ (f4.new ht)
      show OB _ _ (metB p q)
      have e : metB p q = some ⟨max p.u0 q.u0, min p.u1 q.u1, max p.v0 q.v0, min p.v1 q.v1⟩ := if_neg fun h => h.elim c1 c2
      rw [e]
      exact ⟨t, rfl, upd_same⟩
inductive sp__law_met_right : List V → Hp → VK → XK → Prop
  | mk {H : Hp} {Q : VK} {E : XK} {a b : Addr} (p q : B4) (h1 : BoxAt H a p.u0 p.u1 p.v0 p.v1) (h2 : BoxAt H b q.u0 q.u1 q.v0 q.v1) (k : ∀ H', Evo [] H H' → Q (.bl true) H') : sp__law_met_right [.ref a, .ref b] H Q E
theorem ok__law_met_right (T : Tx K mg) : FnOk P w K mg base CX0 3 T.a__law_met_right T.d__law_met_right ["_law_one", "_law_other"] sp__law_met_right := by
  refine T.F__law_met_right.ok sc__law_met_right (fun vs H Q E h => by cases h; rfl) (fun cdv A outer s H vs Q E hr h => ?_)
  obtain @⟨_, _, _, a, b, p, q, h1, h2, k⟩ := h
  refine ⟨_, (pss_cons (ps_set (i := 2) sc__law_met_right.nd rfl (Or.inl rfl) (pe_call (ok__law_both T) (hr.mono (by decide)) rfl T.g__law_both T.F__law_both.kp T.b__law_both .nil pass0 (pa_cons (pv 0) (pa_cons (pv 1) pa_nil))))
      (pss_cons (ps_set (i := 3) sc__law_met_right.nd rfl (Or.inl rfl) (pe_call (ok_met T) (hr.mono (by decide)) rfl T.g_met T.F_met.kp T.b_met .nil pass0 (pa_cons (pv 0) (pa_cons (pv 1) pa_nil))))
      (pss_cons (ps_if (pt_cmpR op_isN (pv 2) pe_non (nomark _)) (pss_one (ps_ret (pe_and (pe_cmpR op_isN (pv 3) pe_non (nomark _)) (pe_one (pe_cmpR op_isN (pe_call (ok_met T) (hr.mono (by decide)) rfl T.g_met T.F_met.kp T.b_met .nil pass0 (pa_cons (pv 1) (pa_cons (pv 0) pa_nil))) pe_non (nomark _)))))) pss_nil)
      (pss_one (ps_ret (pe_and (pe_call (ok__law_are_whole T) (hr.mono (by decide)) rfl T.g__law_are_whole T.F__law_are_whole.kp T.b__law_are_whole .nil pass0 (pa_cons (pv 3) (pa_cons pe_int pa_nil))) (pe_and (pe_cmpR (r := Ew.rEqX K) (Ew.op_eqX hr.units) (pv 3) (pv 2) (nomark _)) (pe_one (pe_cmpR (r := Ew.rEqX K) (Ew.op_eqX hr.units) (pe_call (ok_met T) (hr.mono (by decide)) rfl T.g_met T.F_met.kp T.b_met .nil pass0 (pa_cons (pv 1) (pa_cons (pv 0) pa_nil))) (pv 2) (nomark _)))))))))), ?_⟩
  refine ⟨_, rfl, _, rfl, sp__law_both.mk (some p) (some q) ⟨a, rfl, h1⟩ ⟨b, rfl, h2⟩ (fun H1 r hr1 e1 => ?_)⟩
  refine ⟨_, rfl, _, rfl, sp_met.mk p q (e1.tupE h1) (e1.tupE h2) (fun H2 v hv e2 => ?_)⟩
  have hr2 : OB H2 r (metB p q) := hr1.evo e2
  cases hm : metB p q with
  | none =>
    rw [hm] at hr2 hv
    have er : r = .non := hr2
    have ev : v = .non := hv
    subst er ev
    repeat walk_at "ew"
    refine sp_met.mk q p ((e1.trans e2).tupE h2) ((e1.trans e2).tupE h1) (fun H3 v3 hv3 e3 => ?_)
    rw [metB_comm q p, hm] at hv3
    have ev3 : v3 = .non := hv3
    subst ev3
    exact ⟨rfl, k _ ((e1.trans e2).trans e3)⟩
  | some m =>
    rw [hm] at hr2 hv
    obtain ⟨c1, rfl, hc1⟩ := hr2
    obtain ⟨c2, rfl, hc2⟩ := hv
    repeat walk_at "ew"
    refine sp__law_are_whole.mk hc2 (fun H3 e3 => ?_)
    repeat walk_at "ew"
    refine iteD (fun _ => ?_) (fun h => absurd (by rfl) h)
    repeat walk_at "ew"
    refine sp_met.mk q p ((e1.trans e2).trans e3 |>.tupE h2) ((e1.trans e2).trans e3 |>.tupE h1) (fun H4 v4 hv4 e4 => ?_)
    rw [metB_comm q p, hm] at hv4
    have hc14 : OB H4 (.ref c1) (some m) := ⟨c1, rfl, (e3.trans e4).tupE hc1⟩
    refine ⟨_, rfl, _, eqOB hv4 hc14, ?_⟩
    exact k _ (((e1.trans e2).trans e3).trans e4)
inductive sp__law_has : List V → Hp → VK → XK → Prop
  | mk {H : Hp} {Q : VK} {E : XK} {v : V} {b : Addr} {x y : Int} (o : Option B4) (h1 : OB H v o) (h2 : H b = some (.tup [.int x, .int y])) (k : Q (.bl (o.any fun b => decide (hasB b.u0 b.u1 b.v0 b.v1 x y))) H) : sp__law_has [v, .ref b] H Q E
theorem ok__law_has (T : Tx K mg) : FnOk P w K mg base CX0 2 T.a__law_has T.d__law_has ["_law_box_here", "_law_spot"] sp__law_has := by
  refine T.F__law_has.ok sc__law_has (fun vs H Q E h => by cases h; rfl) (fun cdv A outer s H vs Q E hr h => ?_)
  obtain @⟨_, _, _, v, b, x, y, o, h1, h2, k⟩ := h
  refine ⟨_, (pss_one (ps_ret (pe_and (pe_cmpR op_notN (pv 0) pe_non (nomark _)) (pe_one (pe_call (ok_has T) (hr.mono (by decide)) rfl T.g_has T.F_has.kp T.b_has .nil pass0 (pa_cons (pv 0) (pa_cons (pv 1) pa_nil))))))), ?_⟩
  cases o with
  | none =>
    have e1 : v = .non := h1
    subst e1
    repeat walk_at "ew"
    exact k
  | some p =>
    obtain ⟨a, rfl, ha⟩ := h1
    repeat walk_at "ew"
    exact sp_has.mk ha h2 k
inductive sp__law_three : List V → Hp → VK → XK → Prop
  | mk {H : Hp} {Q : VK} {E : XK} {a b c : Addr} (p q r : B4) (h1 : BoxAt H a p.u0 p.u1 p.v0 p.v1) (h2 : BoxAt H b q.u0 q.u1 q.v0 q.v1) (h3 : BoxAt H c r.u0 r.u1 r.v0 r.v1) (k : ∀ H' v, OB H' v (met3 p q r) → Evo [] H H' → Q v H') : sp__law_three [.ref a, .ref b, .ref c] H Q E
theorem ok__law_three (T : Tx K mg) : FnOk P w K mg base CX0 2 T.a__law_three T.d__law_three ["_law_one", "_law_other", "_law_third"] sp__law_three := by
  refine T.F__law_three.ok sc__law_three (fun vs H Q E h => by cases h; rfl) (fun cdv A outer s H vs Q E hr h => ?_)
  obtain @⟨_, _, _, a, b, c, p, q, r, h1, h2, h3, k⟩ := h
  refine ⟨_, (pss_cons (ps_set (i := 3) sc__law_three.nd rfl (Or.inl rfl) (pe_call (ok_met T) (hr.mono (by decide)) rfl T.g_met T.F_met.kp T.b_met .nil pass0 (pa_cons (pv 0) (pa_cons (pv 1) pa_nil))))
      (pss_cons (ps_if (pt_cmpR op_isN (pv 3) pe_non (nomark _)) (pss_one (ps_ret pe_non)) pss_nil)
      (pss_one (ps_ret (pe_call (ok_met T) (hr.mono (by decide)) rfl T.g_met T.F_met.kp T.b_met .nil pass0 (pa_cons (pv 3) (pa_cons (pv 2) pa_nil))))))), ?_⟩
  refine ⟨_, rfl, _, rfl, sp_met.mk p q h1 h2 (fun H1 v hv e1 => ?_)⟩
  cases hm : metB p q with
  | none =>
    rw [hm] at hv
    have ev : v = .non := hv
    subst ev
    repeat walk_at "ew"
    refine k _ _ ?_ e1
    unfold met3
    rw [hm]
    rfl
  | some m =>
    rw [hm] at hv
    obtain ⟨d, rfl, hd⟩ := hv
    repeat walk_at "ew"
    refine sp_met.mk m r hd (e1.tupE h3) (fun H2 v2 hv2 e2 => ?_)
    refine k _ _ ?_ (e1.trans e2)
    unfold met3
    rw [hm]
    exact hv2
end
end
section
local macro_rules | `(tactic| walk_at "ewc") => `(tactic| first
  | (show (0 : Int) < _; omega)
  | (show (0 : Int) < _; decide)
  | (refine ⟨?_, ?_⟩ <;> omega)
  | exact Or.inl ⟨by omega, by omega⟩
  | exact Or.inr ⟨by omega, by omega⟩)
local macro_rules | `(tactic| walk_at "ewar") => `(tactic| first
  | omega
  | (simp only [Ew.ab]; repeat' split
     all_goals omega))
local macro_rules | `(tactic| walk_at "ewtup") => `(tactic| first
  | assumption
  | exact upd_same
  | (refine' Ew.get_new ?ew1 ?ew2; (case ew1 => assumption); (case ew2 => walk_at "ewtup"))
  | (refine' Ew.getI_mut ?ew1 ?ew2 rfl; (case ew1 => walk_at "ewlst"); (case ew2 => walk_at "ewtup"))
  | (refine' Ew.getI_mutD ?ew1 ?ew2 rfl; (case ew1 => assumption); (case ew2 => walk_at "ewtup"))
  | (refine' Ew.Evo.getI ?ew1 ?ew2 rfl; (case ew1 => assumption); (case ew2 => walk_at "ewtup")))
local macro_rules | `(tactic| walk_at "ewlst") => `(tactic| first
  | assumption
  | exact upd_same
  | (refine' Ew.get_new ?ew1 ?ew2; (case ew1 => assumption); (case ew2 => walk_at "ewlst"))
  | (refine' Ew.get_ne ?ew1 ?ew2; (case ew1 => assumption); (case ew2 => walk_at "ewlst"))
  | (refine' Ew.Evo.get ?ew1 ?ew2 ?ew3; (case ew1 => assumption); (case ew2 => walk_at "ewoff"); (case ew3 => walk_at "ewlst")))
local macro_rules | `(tactic| walk_at "ewoff") => `(tactic| first
  | assumption
  | exact List.not_mem_nil
  | (refine' Ew.Deck.off' ?ew1 ?ew2; (case ew1 => assumption); (case ew2 => walk_at "ewdeck")))
local macro_rules | `(tactic| walk_at "ewdeck") => `(tactic| first
  | assumption
  | (refine' Ew.Deck.new ?ew1 ?ew2; (case ew2 => assumption); (case ew1 => walk_at "ewdeck"))
  | (refine' Ew.Deck.mut ?ew1 ?ew2; (case ew2 => walk_at "ewoff"); (case ew1 => walk_at "ewdeck"))
  | (refine' Ew.Deck.evo0 ?ew1 ?ew2; (case ew2 => assumption); (case ew1 => walk_at "ewdeck")))
local macro_rules | `(tactic| walk_at "ewevo") => `(tactic| first
  | assumption
  | exact Ew.Evo.refl _ _
  | (refine' Ew.Evo.new ?ew1 ?ew2; (case ew2 => assumption); (case ew1 => walk_at "ewevo"))
  | (refine' Ew.Evo.mut ?ew1 ?ew2; (case ew2 => assumption); (case ew1 => walk_at "ewevo"))
  | (refine' Ew.Evo.trans ?ew1 ?ew2; (case ew2 => assumption); (case ew1 => walk_at "ewevo"))
  | (refine' Ew.Evo.call0 ?ew1 ?ew2; (case ew2 => assumption); (case ew1 => walk_at "ewevo")))
local macro_rules | `(tactic| walk_at "ewlen") => `(tactic| first
  | exact Nat.le_of_ble_eq_true rfl
  | omega
  | (simp only [List.length_map, List.length_append, List.length_cons, List.length_nil]; omega))
local macro_rules | `(tactic| walk_at "ewcall") => `(tactic| fail)
local macro_rules | `(tactic| walk_at "ew") => `(tactic| first
  | walk_at "ewcall"
  | refine ⟨_, rfl, ?_⟩
  | refine iteT ?_
  | refine iteF ?_
  | refine ⟨_, _, rfl, rfl, ?_⟩
  | (refine' Ew.ixT (SqT.of ?ew1) ?ew2 ?_; (case ew1 => walk_at "ewtup"); (case ew2 => rfl))
  | (refine' Ew.ixL (SqL.of ?ew1) ?ew2 ?_; (case ew1 => walk_at "ewlst"); (case ew2 => rfl))
  | (refine' ⟨_, ?_, rfl, SqT.of ?ew1, ?ew2, ?_⟩; (case ew1 => walk_at "ewtup"); (case ew2 => rfl))
  | (refine' ⟨_, ?_, rfl, SqL.of ?ew1, ?ew2, ?_⟩; (case ew1 => walk_at "ewlst"); (case ew2 => rfl))
  | refine ⟨_, _, rfl, ?_⟩
  | (refine' ⟨_, ?_, rfl, Or.inr (SqT.of ?ew1), rfl, ?ew2, ?_⟩; (case ew1 => walk_at "ewtup"); (case ew2 => rfl))
  | refine Or.inr ⟨_, rfl, ?_⟩
  | (refine' Ew.ixQ ?ew1 ?ew2 ?_; (case ew1 => first | assumption | exact Or.inl (by walk_at "ewlst") | exact Or.inr (by walk_at "ewtup")); (case ew2 => rfl))
  | refine ⟨_, _, _, rfl, fun m hm h1 h2 h3 => ?_⟩
  | refine ⟨_, _, _, _, rfl, fun m hm h1 h2 h3 h4 => ?_⟩
  | refine ⟨_, _, _, _, _, rfl, fun m hm h1 h2 h3 h4 h5 => ?_⟩
  | (refine' ⟨_, ?_, ?_, rfl, SqL.of ?ew1, ?ew2, fun p hp => ?_⟩; (case ew1 => walk_at "ewlst"); (case ew2 => first | exact Ew.cut_lo2 | exact Ew.cut_hi2))
  | (refine' ⟨_, ?_, ?_, rfl, SqT.of ?ew1, ?ew2, ?ew3, fun p hp => ?_⟩; (case ew1 => walk_at "ewtup"); (case ew2 => first | exact Ew.cut_lo2 | exact Ew.cut_hi2); (case ew3 => exact Nat.le_of_ble_eq_true rfl))
  | refine ⟨rfl, rfl, ?_⟩
  | refine ⟨rfl, ?_⟩
  | refine Ew.ii_ii ?_
  | refine Ew.ii_ib ?_
  | refine Ew.ii_bb ?_
  | (refine' Ew.ii_tt ?ew1 ?_; (case ew1 => walk_at "ewtup"))
  | refine ⟨Ew.sz (Nat.le_of_ble_eq_true rfl), fun p hp => ?_⟩
  | (refine' ⟨_, ?_, ?_, rfl, SqT.of ?ew1, fun p hp => ?_⟩; (case ew1 => walk_at "ewtup"))
  | (refine' ⟨Or.inl ⟨rfl, ?_, SqL.of ?ew1⟩, ?_⟩; (case ew1 => walk_at "ewlst"))
  | (refine' Ew.apd ?ew1 ?ew2 ?_; (case ew1 => walk_at "ewlst"); (case ew2 => walk_at "ewlen"))
  | (refine' ⟨?_, Ew.eqT ?ew1 ?ew2 ?ew3 ?ew4, ?_⟩; (case ew1 => walk_at "ewtup"); (case ew2 => walk_at "ewtup"); (case ew3 => rfl); (case ew4 => rfl))
  | (refine' Ew.lenT (SqT.of ?ew1) ?_; (case ew1 => walk_at "ewtup"))
  | (refine' Ew.lenL (SqL.of ?ew1) ?_; (case ew1 => walk_at "ewlst"))
  | refine ⟨by walk_at "ewc", ?_⟩
  | (refine' Ew.ixB (SqL.of ?ew1) (fun hb => ?_) (fun hb => ?_); (case ew1 => walk_at "ewlst")))
section
variable {P : Program} {w : World} {K : PySem.W.Frag} {mg : Str → Option Value} {base : Heap}
local macro_rules | `(tactic| walk_at "ewcall") => `(tactic| first
  | (refine' sp__law_wide_draw.mk ?ew1 ?ew2 ?_; (case ew1 => walk_at "ewdeck"); (case ew2 => omega))
  | (refine' sp__law_draw.mk ?ew1 ?ew2 ?ew3 ?_; (case ew1 => walk_at "ewdeck"); (case ew2 => omega); (case ew3 => omega)))
inductive sp__law_near : List V → Hp → VK → XK → Prop
  | mk {H : Hp} {Q : VK} {E : XK} {dk c a : Addr} {x y : Int} (hD : Deck H dk c) (h1 : H a = some (.tup [.int x, .int y])) (hxy : x ≤ y) (k : ∀ H' p x y, H' p = some (.tup [.int x, .int y]) → Bw x → Bw y → x ≤ y → Deck H' dk c → Evo [dk, c] H H' → Q (.ref p) H') : sp__law_near [.ref dk, .ref a] H Q E
set_option maxHeartbeats 1000000 in
theorem ok__law_near (T : Tx K mg) : FnOk P w K mg base CX0 3 T.a__law_near T.d__law_near ["_law_deck_here", "_law_stretch_here"] sp__law_near := by
  refine T.F__law_near.ok sc__law_near (fun vs H Q E h => by cases h; rfl) (fun cdv A outer s H vs Q E hr h => ?_)
  obtain @⟨_, _, _, dk, c, a, x, y, hD, h1, hxy, k⟩ := h
  refine ⟨_, (pss_cons (ps_set (i := 2) sc__law_near.nd rfl (Or.inl rfl) (pe_call (ok__law_draw T) (hr.mono (by decide)) rfl T.g__law_draw T.F__law_draw.kp T.b__law_draw .nil pass0 (pa_cons (pv 0) (pa_cons pe_int pa_nil))))
      (pss_cons (ps_set (i := 3) sc__law_near.nd rfl (Or.inl rfl) (pe_call (ok__law_draw T) (hr.mono (by decide)) rfl T.g__law_draw T.F__law_draw.kp T.b__law_draw .nil pass0 (pa_cons (pv 0) (pa_cons pe_int pa_nil))))
      (pss_cons (ps_set (i := 4) sc__law_near.nd rfl (Or.inl rfl) (pe_op op_sub (pe_op op_add (pe_ix (r := rIxT K) ix_tup (pv 1) pe_int (fun _ _ => rfl)) (pv 2)) pe_int))
      (C8.pss_cut (ps_if (pt_cmpR Ew.op_eqI (pv 2) pe_int (nomark _)) (pss_cons (ps_set (i := 4) sc__law_near.nd rfl (Or.inl rfl) (pe_op op_add (pe_ix (r := rIxT K) ix_tup (pv 1) pe_int (fun _ _ => rfl)) (pe_call (ok__law_wide_draw T) (hr.mono (by decide)) rfl T.g__law_wide_draw T.F__law_wide_draw.kp T.b__law_wide_draw .nil pass0 (pa_cons (pv 0) (pa_cons (pe_op op_add (pe_op op_sub (pe_ix (r := rIxT K) ix_tup (pv 1) pe_int (fun _ _ => rfl)) (pe_ix (r := rIxT K) ix_tup (pv 1) pe_int (fun _ _ => rfl))) pe_int) pa_nil)))))
      (pss_one (ps_set (i := 3) sc__law_near.nd rfl (Or.inl rfl) (pe_callB (call_min2 rfl) (by rfl) T.n_min (by decide +kernel) (pa_cons (pv 3) (pa_cons (pe_op op_sub (pe_ix (r := rIxT K) ix_tup (pv 1) pe_int (fun _ _ => rfl)) (pv 4)) pa_nil)))))) (pss_one (ps_if (pt_cmpR Ew.op_eqI (pe_call (ok__law_draw T) (hr.mono (by decide)) rfl T.g__law_draw T.F__law_draw.kp T.b__law_draw .nil pass0 (pa_cons (pv 0) (pa_cons pe_int pa_nil))) pe_int (nomark _)) (pss_one (ps_set (i := 4) sc__law_near.nd rfl (Or.inl rfl) (pe_op op_add (pe_op op_sub (pe_op op_sub (pe_ix (r := rIxT K) ix_tup (pv 1) pe_int (fun _ _ => rfl)) (pv 3)) (pv 2)) pe_int))) pss_nil)))
      (pss_one (ps_ret (pe_tup (pa_cons (pe_callB (call_max2 rfl) (by rfl) T.n_max (by decide +kernel) (pa_cons (pe_un un_neg (pe_op (Ew.op_powC 10 12 1000000000000) pe_int pe_int)) (pa_cons (pe_callB (call_min2 rfl) (by rfl) T.n_min (by decide +kernel) (pa_cons (pe_op (Ew.op_powC 10 12 1000000000000) pe_int pe_int) (pa_cons (pv 4) pa_nil))) pa_nil))) (pa_cons (pe_callB (call_max2 rfl) (by rfl) T.n_max (by decide +kernel) (pa_cons (pe_un un_neg (pe_op (Ew.op_powC 10 12 1000000000000) pe_int pe_int)) (pa_cons (pe_callB (call_min2 rfl) (by rfl) T.n_min (by decide +kernel) (pa_cons (pe_op (Ew.op_powC 10 12 1000000000000) pe_int pe_int) (pa_cons (pe_op op_add (pv 4) (pv 3)) pa_nil))) pa_nil))) pa_nil))))))))), ?_⟩
  repeat walk_at "ew"
  intro H1 r r0 r1 hD1 e1
  repeat walk_at "ew"
  intro H2 q q0 q1 hD2 e2
  have h12 : H2 a = some (.tup [.int x, .int y]) := by walk_at "ewtup"
  repeat walk_at "ew"
  refine ⟨fun σ H' => ∃ z g : Int, 0 ≤ g ∧ σ = [some (.ref dk), some (.ref a), some (.int r), some (.int g), some (.int z)] ∧ Deck H' dk c ∧ Evo [dk, c] H H', ?_, ?_⟩
  · repeat walk_at "ew"
    refine iteD (fun _ => ?_) (fun _ => ?_)
    · repeat walk_at "ew"
      intro H3 z z0 z1 hD3 e3
      repeat walk_at "ew"
      refine ⟨_, _, ?_, rfl, hD3, (e1.trans e2).trans e3⟩
      split <;> omega
    · repeat walk_at "ew"
      intro H3 z z0 z1 hD3 e3
      repeat walk_at "ew"
      refine iteD (fun _ => ?_) (fun _ => ?_)
      · repeat walk_at "ew"
        exact ⟨_, q, q0, rfl, hD3, (e1.trans e2).trans e3⟩
      · exact ⟨_, q, q0, rfl, hD3, (e1.trans e2).trans e3⟩
  rintro σ H3 ⟨z, g, g0, rfl, hD3, e3⟩
  repeat walk_at "ew"
  rename_i t ht
  refine k _ _ _ _ upd_same ⟨?_, ?_⟩ ⟨?_, ?_⟩ ?_ (hD3.new ht) (e3.new ht)
  all_goals
    repeat' split
    all_goals omega
inductive sp__law_second : List V → Hp → VK → XK → Prop
  | mk {H : Hp} {Q : VK} {E : XK} {dk c a : Addr} (p : B4) (hD : Deck H dk c) (h1 : BoxAt H a p.u0 p.u1 p.v0 p.v1) (o1 : p.u0 ≤ p.u1) (o2 : p.v0 ≤ p.v1) (k : ∀ H' b (q : B4), BoxAt H' b q.u0 q.u1 q.v0 q.v1 → q.u0 ≤ q.u1 → q.v0 ≤ q.v1 → Deck H' dk c → Evo [dk, c] H H' → Q (.ref b) H') : sp__law_second [.ref dk, .ref a] H Q E
local macro_rules | `(tactic| walk_at "ewcall") => `(tactic| first
  | (refine' sp__law_near.mk ?ew1 ?ew2 ?ew3 ?_; (case ew1 => walk_at "ewdeck"); (case ew2 => walk_at "ewtup"); (case ew3 => assumption))
  | (refine' sp__law_box.mk ?ew1 ?_; (case ew1 => walk_at "ewdeck"))
  | (refine' sp__law_draw.mk ?ew1 ?ew2 ?ew3 ?_; (case ew1 => walk_at "ewdeck"); (case ew2 => omega); (case ew3 => omega)))
set_option maxHeartbeats 1000000 in
theorem ok__law_second (T : Tx K mg) : FnOk P w K mg base CX0 5 T.a__law_second T.d__law_second ["_law_deck_here", "_law_box_here"] sp__law_second := by
  refine T.F__law_second.ok sc__law_second (fun vs H Q E h => by cases h; rfl) (fun cdv A outer s H vs Q E hr h => ?_)
  obtain @⟨_, _, _, dk, c, a, p, hD, h1, o1, o2, k⟩ := h
  refine ⟨_, (pss_cons (ps_set (i := 2) sc__law_second.nd rfl (Or.inl rfl) (pe_call (ok__law_draw T) (hr.mono (by decide)) rfl T.g__law_draw T.F__law_draw.kp T.b__law_draw .nil pass0 (pa_cons (pv 0) (pa_cons pe_int pa_nil))))
      (pss_cons (ps_set (i := 3) sc__law_second.nd rfl (Or.inl rfl) (pe_call (ok__law_box T) (hr.mono (by decide)) rfl T.g__law_box T.F__law_box.kp T.b__law_box .nil pass0 (pa_cons (pv 0) pa_nil)))
      (pss_cons (ps_if (pt_cmpR Ew.op_eqI (pv 2) pe_int (nomark _)) (pss_one (ps_ret (pe_op (r := rCatT K) op_catT (pe_call (ok__law_near T) (hr.mono (by decide)) rfl T.g__law_near T.F__law_near.kp T.b__law_near .nil pass0 (pa_cons (pv 0) (pa_cons (pe_slice (r := Ew.rSlTE K) Ew.sl_tupE (pv 1) po_none (po_some pe_int)) pa_nil))) (pe_slice (r := Ew.rSlTE K) Ew.sl_tupE (pv 1) (po_some pe_int) po_none)))) pss_nil)
      (pss_cons (ps_if (pt_cmpR Ew.op_eqI (pv 2) pe_int (nomark _)) (pss_one (ps_ret (pe_op (r := rCatT K) op_catT (pe_slice (r := Ew.rSlTE K) Ew.sl_tupE (pv 1) po_none (po_some pe_int)) (pe_call (ok__law_near T) (hr.mono (by decide)) rfl T.g__law_near T.F__law_near.kp T.b__law_near .nil pass0 (pa_cons (pv 0) (pa_cons (pe_slice (r := Ew.rSlTE K) Ew.sl_tupE (pv 1) (po_some pe_int) po_none) pa_nil)))))) pss_nil)
      (pss_cons (ps_if (pt_cmpR Ew.op_eqI (pv 2) pe_int (nomark _)) (pss_one (ps_ret (pe_op (r := rCatT K) op_catT (pe_call (ok__law_near T) (hr.mono (by decide)) rfl T.g__law_near T.F__law_near.kp T.b__law_near .nil pass0 (pa_cons (pv 0) (pa_cons (pe_slice (r := Ew.rSlTE K) Ew.sl_tupE (pv 1) po_none (po_some pe_int)) pa_nil))) (pe_call (ok__law_near T) (hr.mono (by decide)) rfl T.g__law_near T.F__law_near.kp T.b__law_near .nil pass0 (pa_cons (pv 0) (pa_cons (pe_slice (r := Ew.rSlTE K) Ew.sl_tupE (pv 1) (po_some pe_int) po_none) pa_nil)))))) pss_nil)
      (pss_one (ps_ret (pv 3)))))))), ?_⟩
  repeat walk_at "ew"
  intro H1 r r0 r1 hD1 e1
  repeat walk_at "ew"
  intro H2 b u0 u1 v0 v1 hb _ _ _ _ o3 o4 hD2 e2
  have h12 : BoxAt H2 a p.u0 p.u1 p.v0 p.v1 := by walk_at "ewtup"
  have E2 := e1.trans e2
  clear e1 e2
  repeat walk_at "ew"
  refine iteD (fun _ => ?_) (fun _ => ?_)
  · repeat walk_at "ew"
    rename_i t1 ht1
    intro H3 q x y hq bx bY hxy hD3 e3
    have h13 : BoxAt H3 a p.u0 p.u1 p.v0 p.v1 := by walk_at "ewtup"
    repeat walk_at "ew"
    rename_i t2 ht2
    refine catE (by walk_at "ewtup") (by walk_at "ewtup") (by intro z; cases z) (by intro z; cases z) (by show 4 ≤ 1000; decide) (fun t ht => ?_)
    exact k _ t ⟨x, y, p.v0, p.v1⟩ upd_same hxy o2 ((hD3.new ht2).new ht) ((((E2.new ht1).trans e3).new ht2).new ht)
  repeat walk_at "ew"
  refine iteD (fun _ => ?_) (fun _ => ?_)
  · repeat walk_at "ew"
    rename_i t1 ht1 t2 ht2
    intro H3 q x y hq bx bY hxy hD3 e3
    refine catE (by walk_at "ewtup") (by walk_at "ewtup") (by intro z; cases z) (by intro z; cases z) (by show 4 ≤ 1000; decide) (fun t ht => ?_)
    exact k _ t ⟨p.u0, p.u1, x, y⟩ upd_same o1 hxy (hD3.new ht) ((((E2.new ht1).new ht2).trans e3).new ht)
  repeat walk_at "ew"
  refine iteD (fun _ => ?_) (fun _ => ?_)
  · repeat walk_at "ew"
    rename_i t1 ht1
    intro H3 q x y hq bx bY hxy hD3 e3
    have h13 : BoxAt H3 a p.u0 p.u1 p.v0 p.v1 := by walk_at "ewtup"
    repeat walk_at "ew"
    rename_i t2 ht2
    intro H4 q' x' y' hq' bx' bY' hxy' hD4 e4
    refine catE (by walk_at "ewtup") hq' (by intro z; cases z) (by intro z; cases z) (by show 4 ≤ 1000; decide) (fun t ht => ?_)
    exact k _ t ⟨x, y, x', y'⟩ upd_same hxy hxy' (hD4.new ht) (((((E2.new ht1).trans e3).new ht2).trans e4).new ht)
  · repeat walk_at "ew"
    exact k _ b ⟨u0, u1, v0, v1⟩ hb o3 o4 hD2 E2
end
end
section
local macro_rules | `(tactic| walk_at "ewc") => `(tactic| first
  | (show (0 : Int) < _; omega)
  | (show (0 : Int) < _; decide)
  | (refine ⟨?_, ?_⟩ <;> omega)
  | exact Or.inl ⟨by omega, by omega⟩
  | exact Or.inr ⟨by omega, by omega⟩)
local macro_rules | `(tactic| walk_at "ewar") => `(tactic| first
  | omega
  | (simp only [Ew.ab]; repeat' split
     all_goals omega))
local macro_rules | `(tactic| walk_at "ewtup") => `(tactic| first
  | assumption
  | exact upd_same
  | (refine' Ew.get_new ?ew1 ?ew2; (case ew1 => assumption); (case ew2 => walk_at "ewtup"))
  | (refine' Ew.getI_mut ?ew1 ?ew2 rfl; (case ew1 => walk_at "ewlst"); (case ew2 => walk_at "ewtup"))
  | (refine' Ew.getI_mutD ?ew1 ?ew2 rfl; (case ew1 => assumption); (case ew2 => walk_at "ewtup"))
  | (refine' Ew.Evo.getI ?ew1 ?ew2 rfl; (case ew1 => assumption); (case ew2 => walk_at "ewtup")))
local macro_rules | `(tactic| walk_at "ewlst") => `(tactic| first
  | assumption
  | exact upd_same
  | (refine' Ew.get_new ?ew1 ?ew2; (case ew1 => assumption); (case ew2 => walk_at "ewlst"))
  | (refine' Ew.get_ne ?ew1 ?ew2; (case ew1 => assumption); (case ew2 => walk_at "ewlst"))
  | (refine' Ew.Evo.get ?ew1 ?ew2 ?ew3; (case ew1 => assumption); (case ew2 => walk_at "ewoff"); (case ew3 => walk_at "ewlst")))
local macro_rules | `(tactic| walk_at "ewoff") => `(tactic| first
  | assumption
  | exact List.not_mem_nil
  | (refine' Ew.Deck.off' ?ew1 ?ew2; (case ew1 => assumption); (case ew2 => walk_at "ewdeck")))
local macro_rules | `(tactic| walk_at "ewdeck") => `(tactic| first
  | assumption
  | (refine' Ew.Deck.new ?ew1 ?ew2; (case ew2 => assumption); (case ew1 => walk_at "ewdeck"))
  | (refine' Ew.Deck.mut ?ew1 ?ew2; (case ew2 => walk_at "ewoff"); (case ew1 => walk_at "ewdeck"))
  | (refine' Ew.Deck.evo0 ?ew1 ?ew2; (case ew2 => assumption); (case ew1 => walk_at "ewdeck")))
local macro_rules | `(tactic| walk_at "ewevo") => `(tactic| first
  | assumption
  | exact Ew.Evo.refl _ _
  | (refine' Ew.Evo.new ?ew1 ?ew2; (case ew2 => assumption); (case ew1 => walk_at "ewevo"))
  | (refine' Ew.Evo.mut ?ew1 ?ew2; (case ew2 => assumption); (case ew1 => walk_at "ewevo"))
  | (refine' Ew.Evo.trans ?ew1 ?ew2; (case ew2 => assumption); (case ew1 => walk_at "ewevo"))
  | (refine' Ew.Evo.call0 ?ew1 ?ew2; (case ew2 => assumption); (case ew1 => walk_at "ewevo")))
local macro_rules | `(tactic| walk_at "ewlen") => `(tactic| first
  | exact Nat.le_of_ble_eq_true rfl
  | omega
  | (simp only [List.length_map, List.length_append, List.length_cons, List.length_nil]; omega))
local macro_rules | `(tactic| walk_at "ewcall") => `(tactic| fail)
local macro_rules | `(tactic| walk_at "ew") => `(tactic| first
  | walk_at "ewcall"
  | refine ⟨_, rfl, ?_⟩
  | refine iteT ?_
  | refine iteF ?_
  | refine ⟨_, _, rfl, rfl, ?_⟩
  | (refine' Ew.ixT (SqT.of ?ew1) ?ew2 ?_; (case ew1 => walk_at "ewtup"); (case ew2 => rfl))
  | (refine' Ew.ixL (SqL.of ?ew1) ?ew2 ?_; (case ew1 => walk_at "ewlst"); (case ew2 => rfl))
  | (refine' ⟨_, ?_, rfl, SqT.of ?ew1, ?ew2, ?_⟩; (case ew1 => walk_at "ewtup"); (case ew2 => rfl))
  | (refine' ⟨_, ?_, rfl, SqL.of ?ew1, ?ew2, ?_⟩; (case ew1 => walk_at "ewlst"); (case ew2 => rfl))
  | refine ⟨_, _, rfl, ?_⟩
  | (refine' ⟨_, ?_, rfl, Or.inr (SqT.of ?ew1), rfl, ?ew2, ?_⟩; (case ew1 => walk_at "ewtup"); (case ew2 => rfl))
  | refine Or.inr ⟨_, rfl, ?_⟩
  | (refine' Ew.ixQ ?ew1 ?ew2 ?_; (case ew1 => first | assumption | exact Or.inl (by walk_at "ewlst") | exact Or.inr (by walk_at "ewtup")); (case ew2 => rfl))
  | refine ⟨_, _, _, rfl, fun m hm h1 h2 h3 => ?_⟩
  | refine ⟨_, _, _, _, rfl, fun m hm h1 h2 h3 h4 => ?_⟩
  | refine ⟨_, _, _, _, _, rfl, fun m hm h1 h2 h3 h4 h5 => ?_⟩
  | (refine' ⟨_, ?_, ?_, rfl, SqL.of ?ew1, ?ew2, fun p hp => ?_⟩; (case ew1 => walk_at "ewlst"); (case ew2 => first | exact Ew.cut_lo2 | exact Ew.cut_hi2))
  | (refine' ⟨_, ?_, ?_, rfl, SqT.of ?ew1, ?ew2, ?ew3, fun p hp => ?_⟩; (case ew1 => walk_at "ewtup"); (case ew2 => first | exact Ew.cut_lo2 | exact Ew.cut_hi2); (case ew3 => exact Nat.le_of_ble_eq_true rfl))
  | refine ⟨rfl, rfl, ?_⟩
  | refine ⟨rfl, ?_⟩
  | refine Ew.ii_ii ?_
  | refine Ew.ii_ib ?_
  | refine Ew.ii_bb ?_
  | (refine' Ew.ii_tt ?ew1 ?_; (case ew1 => walk_at "ewtup"))
  | refine ⟨Ew.sz (Nat.le_of_ble_eq_true rfl), fun p hp => ?_⟩
  | (refine' ⟨_, ?_, ?_, rfl, SqT.of ?ew1, fun p hp => ?_⟩; (case ew1 => walk_at "ewtup"))
  | (refine' ⟨Or.inl ⟨rfl, ?_, SqL.of ?ew1⟩, ?_⟩; (case ew1 => walk_at "ewlst"))
  | (refine' Ew.apd ?ew1 ?ew2 ?_; (case ew1 => walk_at "ewlst"); (case ew2 => walk_at "ewlen"))
  | (refine' ⟨?_, Ew.eqT ?ew1 ?ew2 ?ew3 ?ew4, ?_⟩; (case ew1 => walk_at "ewtup"); (case ew2 => walk_at "ewtup"); (case ew3 => rfl); (case ew4 => rfl))
  | (refine' Ew.lenT (SqT.of ?ew1) ?_; (case ew1 => walk_at "ewtup"))
  | (refine' Ew.lenL (SqL.of ?ew1) ?_; (case ew1 => walk_at "ewlst"))
  | refine ⟨by walk_at "ewc", ?_⟩
  | (refine' Ew.ixB (SqL.of ?ew1) (fun hb => ?_) (fun hb => ?_); (case ew1 => walk_at "ewlst")))
section
variable {P : Program} {w : World} {K : PySem.W.Frag} {mg : Str → Option Value} {base : Heap}
inductive sp__law_spots_right : List V → Hp → VK → XK → Prop
  | mk {H : Hp} {Q : VK} {E : XK} {a b : Addr} (p q : B4) (h1 : BoxAt H a p.u0 p.u1 p.v0 p.v1) (h2 : BoxAt H b q.u0 q.u1 q.v0 q.v1) (k : ∀ H', Evo [] H H' → Q (.bl true) H') : sp__law_spots_right [.ref a, .ref b] H Q E
set_option maxHeartbeats 2000000 in
theorem ok__law_spots_right (T : Tx K mg) : FnOk P w K mg base CX0 3 T.a__law_spots_right T.d__law_spots_right ["_law_one", "_law_other"] sp__law_spots_right := by
  refine T.F__law_spots_right.ok sc__law_spots_right (fun vs H Q E h => by cases h; rfl) (fun cdv A outer s H vs Q E hr h => ?_)
  obtain @⟨_, _, _, a, b, p, q, h1, h2, k⟩ := h
  refine ⟨_, (pss_cons (ps_set (i := 2) sc__law_spots_right.nd rfl (Or.inl rfl) (pe_call (ok_met T) (hr.mono (by decide)) rfl T.g_met T.F_met.kp T.b_met .nil pass0 (pa_cons (pv 0) (pa_cons (pv 1) pa_nil))))
      (pss_cons (ps_for PassesOwn.never rfl (pi_list (pe_lst (pa_cons (pv 0) (pa_cons (pv 1) pa_nil)))) (pg_name (i := 3) sc__law_spots_right.nd rfl (.inl rfl))
      (pss_one (ps_for PassesOwn.never rfl (pi_list (pe_lst (pa_cons (pe_op op_sub (pe_ix (r := rIxT K) ix_tup (pv 3) pe_int (fun _ _ => rfl)) pe_int) (pa_cons (pe_ix (r := rIxT K) ix_tup (pv 3) pe_int (fun _ _ => rfl)) (pa_cons (pe_ix (r := rIxT K) ix_tup (pv 3) pe_int (fun _ _ => rfl)) (pa_cons (pe_op op_add (pe_ix (r := rIxT K) ix_tup (pv 3) pe_int (fun _ _ => rfl)) pe_int) pa_nil)))))) (pg_name (i := 4) sc__law_spots_right.nd rfl (.inl rfl))
      (pss_one (ps_for PassesOwn.never rfl (pi_list (pe_lst (pa_cons (pe_op op_sub (pe_ix (r := rIxT K) ix_tup (pv 3) pe_int (fun _ _ => rfl)) pe_int) (pa_cons (pe_ix (r := rIxT K) ix_tup (pv 3) pe_int (fun _ _ => rfl)) (pa_cons (pe_ix (r := rIxT K) ix_tup (pv 3) pe_int (fun _ _ => rfl)) (pa_cons (pe_op op_add (pe_ix (r := rIxT K) ix_tup (pv 3) pe_int (fun _ _ => rfl)) pe_int) pa_nil)))))) (pg_name (i := 5) sc__law_spots_right.nd rfl (.inl rfl))
      (pss_one (ps_if (pt_cmpR op_le (pe_callB (call_max2 rfl) (by rfl) T.n_max (by decide +kernel) (pa_cons (pe_callB call_abs (by rfl) T.n_abs (by decide +kernel) (pa_cons (pv 4) pa_nil)) (pa_cons (pe_callB call_abs (by rfl) T.n_abs (by decide +kernel) (pa_cons (pv 5) pa_nil)) pa_nil))) (pe_op (Ew.op_powC 10 12 1000000000000) pe_int pe_int) (nomark _)) (C8.pss_cut (ps_set (i := 6) sc__law_spots_right.nd rfl (Or.inl rfl) (pe_and (pe_chain op_le op_le (pe_ix (r := rIxT K) ix_tup (pv 0) pe_int (fun _ _ => rfl)) (pv 4) (pe_ix (r := rIxT K) ix_tup (pv 0) pe_int (fun _ _ => rfl))) (pe_one (pe_chain op_le op_le (pe_ix (r := rIxT K) ix_tup (pv 0) pe_int (fun _ _ => rfl)) (pv 5) (pe_ix (r := rIxT K) ix_tup (pv 0) pe_int (fun _ _ => rfl))))))
      (C8.pss_cut (ps_set (i := 6) sc__law_spots_right.nd rfl (Or.inl rfl) (pe_and (pv 6) (pe_and (pe_chain op_le op_le (pe_ix (r := rIxT K) ix_tup (pv 1) pe_int (fun _ _ => rfl)) (pv 4) (pe_ix (r := rIxT K) ix_tup (pv 1) pe_int (fun _ _ => rfl))) (pe_one (pe_chain op_le op_le (pe_ix (r := rIxT K) ix_tup (pv 1) pe_int (fun _ _ => rfl)) (pv 5) (pe_ix (r := rIxT K) ix_tup (pv 1) pe_int (fun _ _ => rfl)))))))
      (pss_one (ps_if (pt_cmpR Ew.op_neB (pe_call (ok__law_has T) (hr.mono (by decide)) rfl T.g__law_has T.F__law_has.kp T.b__law_has .nil pass0 (pa_cons (pv 2) (pa_cons (pe_tup (pa_cons (pv 4) (pa_cons (pv 5) pa_nil))) pa_nil))) (pv 6) (nomark _)) (pss_one (ps_ret pe_bl)) pss_nil)))) pss_nil)))))))
      (pss_one (ps_ret pe_bl)))), ?_⟩
  refine ⟨_, rfl, _, rfl, sp_met.mk p q h1 h2 (fun H1 v hv e1 => ?_)⟩
  have ha1 := e1.tupE h1
  have hb1 := e1.tupE h2
  repeat walk_at "ew"
  rename_i lo hlo
  refine ⟨⟨_, SqL.of upd_same⟩, for_list (K := K) (a := lo) (xs := [.ref a, .ref b]) (fun i σ H' => ∃ w3 w4 w5 w6, σ = [some (.ref a), some (.ref b), some v, w3, w4, w5, w6] ∧ Evo [] H1 H' ∧ H' lo = some (.lst [.ref a, .ref b])) ?_ ?_ ?_ ?_⟩
  · exact ⟨_, _, _, _, rfl, (Evo.refl _ _).new hlo, upd_same⟩
  · rintro i σ H' _ ⟨_, _, _, _, rfl, _, g⟩
    exact SqL.of g
  · rintro i z σ H2 hz ⟨w3, w4, w5, w6, rfl, e2, hlo2⟩
    obtain ⟨d, m, rfl, hd⟩ : ∃ d m, z = V.ref d ∧ BoxAt H1 d (B4.u0 m) (B4.u1 m) (B4.v0 m) (B4.v1 m) := by
      match i, hz with
      | 0, hz => cases hz; exact ⟨a, p, rfl, ha1⟩
      | 1, hz => cases hz; exact ⟨b, q, rfl, hb1⟩
    have hd2 := e2.tupE hd
    repeat walk_at "ew"
    rename_i lu hlu
    refine ⟨⟨_, SqL.of upd_same⟩, for_list (K := K) (a := lu) (xs := [.int (m.u0 - 1), .int m.u0, .int m.u1, .int (m.u1 + 1)]) (fun i σ H' => ∃ w4 w5 w6, σ = [some (.ref a), some (.ref b), some v, some (.ref d), w4, w5, w6] ∧ Evo [] H1 H' ∧ H' lo = some (.lst [.ref a, .ref b]) ∧ H' lu = some (.lst [.int (m.u0 - 1), .int m.u0, .int m.u1, .int (m.u1 + 1)])) ?_ ?_ ?_ ?_⟩
    · exact ⟨_, _, _, rfl, e2.new hlu, get_new hlu hlo2, upd_same⟩
    · rintro i σ H' _ ⟨_, _, _, rfl, _, _, g⟩
      exact SqL.of g
    · rintro j z σ H3 hz ⟨w4, w5, w6, rfl, e3, hlo3, hlu3⟩
      obtain ⟨x, rfl, _⟩ := itemI (vs := [.int (m.u0 - 1), .int m.u0, .int m.u1, .int (m.u1 + 1)]) rfl hz
      have hd3 := e3.tupE hd
      repeat walk_at "ew"
      rename_i lv hlv
      refine ⟨⟨_, SqL.of upd_same⟩, for_list (K := K) (a := lv) (xs := [.int (m.v0 - 1), .int m.v0, .int m.v1, .int (m.v1 + 1)]) (fun i σ H' => ∃ w5 w6, σ = [some (.ref a), some (.ref b), some v, some (.ref d), some (.int x), w5, w6] ∧ Evo [] H1 H' ∧ H' lo = some (.lst [.ref a, .ref b]) ∧ H' lu = some (.lst [.int (m.u0 - 1), .int m.u0, .int m.u1, .int (m.u1 + 1)]) ∧ H' lv = some (.lst [.int (m.v0 - 1), .int m.v0, .int m.v1, .int (m.v1 + 1)])) ?_ ?_ ?_ ?_⟩
      · exact ⟨_, _, rfl, e3.new hlv, get_new hlv hlo3, get_new hlv hlu3, upd_same⟩
      · rintro i σ H' _ ⟨_, _, rfl, _, _, _, g⟩
        exact SqL.of g
      · rintro i z σ H4 hz ⟨w5, w6, rfl, e4, hlo4, hlu4, hlv4⟩
        obtain ⟨y, rfl, _⟩ := itemI (vs := [.int (m.v0 - 1), .int m.v0, .int m.v1, .int (m.v1 + 1)]) rfl hz
        have ha4 := e4.tupE ha1
        have hb4 := e4.tupE hb1
        have hv4 := hv.evo e4
        repeat walk_at "ew"
        refine iteD (fun _ => ?_) (fun _ => ?_)
        · refine ⟨fun σ H' => H' = H4 ∧ σ = [some (.ref a), some (.ref b), some v, some (.ref d), some (.int x), some (.int y), some (.bl (decide (hasB p.u0 p.u1 p.v0 p.v1 x y)))], ?_, ?_⟩
          · have fin : ∀ t : Bool, t = decide (hasB p.u0 p.u1 p.v0 p.v1 x y) → H4 = H4 ∧ [some (V.ref a), some (V.ref b), some v, some (V.ref d), some (V.int x), some (V.int y), some (V.bl t)] = [some (V.ref a), some (V.ref b), some v, some (V.ref d), some (V.int x), some (V.int y), some (V.bl (decide (hasB p.u0 p.u1 p.v0 p.v1 x y)))] := fun t h => by rw [h]; exact ⟨rfl, rfl⟩
            repeat walk_at "ew"
            refine iteD (fun q1 => ?_) (fun q1 => ?_)
            · repeat walk_at "ew"
              refine iteD (fun q2 => ?_) (fun q2 => ?_)
              · repeat walk_at "ew"
                refine iteD (fun q3 => ?_) (fun q3 => ?_)
                · repeat walk_at "ew"
                  first | exact fin _ (decide_eq_decide.mpr ⟨fun h => ⟨q1, q2, q3, h⟩, fun h => h.2.2.2⟩) | exact (fin _ (decide_eq_decide.mpr ⟨fun h => ⟨q1, q2, q3, h⟩, fun h => h.2.2.2⟩)).2
                · first | exact fin false (decide_eq_false fun h => q3 h.2.2.1).symm | exact (fin false (decide_eq_false fun h => q3 h.2.2.1).symm).2
              · first | exact fin false (decide_eq_false fun h => q2 h.2.1).symm | exact (fin false (decide_eq_false fun h => q2 h.2.1).symm).2
            · repeat walk_at "ew"
              first | exact fin false (decide_eq_false fun h => q1 h.1).symm | exact (fin false (decide_eq_false fun h => q1 h.1).symm).2
          rintro σ H5 ⟨rfl, rfl⟩
          refine ⟨fun σ H' => H' = H5 ∧ σ = [some (.ref a), some (.ref b), some v, some (.ref d), some (.int x), some (.int y), some (.bl (decide (hasB p.u0 p.u1 p.v0 p.v1 x y ∧ hasB q.u0 q.u1 q.v0 q.v1 x y)))], ?_, ?_⟩
          · have fin : ∀ t : Bool, t = decide (hasB p.u0 p.u1 p.v0 p.v1 x y ∧ hasB q.u0 q.u1 q.v0 q.v1 x y) → H5 = H5 ∧ [some (V.ref a), some (V.ref b), some v, some (V.ref d), some (V.int x), some (V.int y), some (V.bl t)] = [some (V.ref a), some (V.ref b), some v, some (V.ref d), some (V.int x), some (V.int y), some (V.bl (decide (hasB p.u0 p.u1 p.v0 p.v1 x y ∧ hasB q.u0 q.u1 q.v0 q.v1 x y)))] := fun t h => by rw [h]; exact ⟨rfl, rfl⟩
            repeat walk_at "ew"
            refine iteD (fun q0 => ?_) (fun q0 => ?_)
            · repeat walk_at "ew"
              refine iteD (fun q1 => ?_) (fun q1 => ?_)
              · repeat walk_at "ew"
                refine iteD (fun q2 => ?_) (fun q2 => ?_)
                · repeat walk_at "ew"
                  refine iteD (fun q3 => ?_) (fun q3 => ?_)
                  · repeat walk_at "ew"
                    first | exact fin _ (decide_eq_decide.mpr ⟨fun h => ⟨q0, q1, q2, q3, h⟩, fun h => h.2.2.2.2⟩) | exact (fin _ (decide_eq_decide.mpr ⟨fun h => ⟨q0, q1, q2, q3, h⟩, fun h => h.2.2.2.2⟩)).2
                  · first | exact fin false (decide_eq_false fun h => q3 h.2.2.2.1).symm | exact (fin false (decide_eq_false fun h => q3 h.2.2.2.1).symm).2
                · first | exact fin false (decide_eq_false fun h => q2 h.2.2.1).symm | exact (fin false (decide_eq_false fun h => q2 h.2.2.1).symm).2
              · repeat walk_at "ew"
                first | exact fin false (decide_eq_false fun h => q1 h.2.1).symm | exact (fin false (decide_eq_false fun h => q1 h.2.1).symm).2
            · first | exact fin false (decide_eq_false fun h => q0 h.1).symm | exact (fin false (decide_eq_false fun h => q0 h.1).symm).2
          rintro σ H6 ⟨rfl, rfl⟩
          repeat walk_at "ew"
          rename_i t ht
          refine sp__law_has.mk (metB p q) (hv4.evo ((Evo.refl [] H6).new ht)) upd_same ?_
          repeat walk_at "ew"
          refine iteN (fun h => absurd (metB_has p q x y) h) (fun _ => ?_)
          exact ⟨_, _, rfl, e4.new ht, get_new ht hlo4, get_new ht hlu4, get_new ht hlv4⟩
        · exact ⟨_, _, rfl, e4, hlo4, hlu4, hlv4⟩
      · rintro σ H4 ⟨w5, w6, rfl, e4, hlo4, hlu4, hlv4⟩
        exact ⟨_, _, _, rfl, e4, hlo4, hlu4⟩
    · rintro σ H3 ⟨w4, w5, w6, rfl, e3, hlo3, hlu3⟩
      exact ⟨_, _, _, _, rfl, e3, hlo3⟩
  · rintro σ H2 ⟨w3, w4, w5, w6, rfl, e2, hlo2⟩
    exact k _ (e1.trans e2)
local macro_rules | `(tactic| walk_at "ewcall") => `(tactic| first
  | (refine' sp__law_box.mk ?ew1 ?_; (case ew1 => walk_at "ewdeck"))
  | (refine' sp__law_draw.mk ?ew1 ?ew2 ?ew3 ?_; (case ew1 => walk_at "ewdeck"); (case ew2 => omega); (case ew3 => omega)))
def sp_law (K : PySem.W.Frag) : Sp := fun vs H Q _ => ∃ (a : Addr) (ns : List Int), vs = [.ref a] ∧ SqL K H a (ns.map V.int) ∧ ns.length ≤ 63 ∧ ∀ H', Q (.bl true) H'
set_option maxHeartbeats 4000000 in
theorem ok_law (T : Tx K mg) : FnOk P w K mg base CX0 6 T.a_law T.d_law ["_law_script"] (sp_law K) := by
  refine T.F_law.ok sc_law (fun vs H Q E h => ?_) (fun cdv A outer s H vs Q E hr h => ?_)
  · obtain ⟨a, ns, rfl, _⟩ := h
    rfl
  obtain ⟨a, ns, rfl, hS, hn, k⟩ := h
  refine ⟨_, (pss_cons (ps_set (i := 1) sc_law.nd rfl (Or.inl rfl) (pe_call (ok__law_deck T) (hr.mono (by decide)) rfl T.g__law_deck T.F__law_deck.kp T.b__law_deck .nil pass0 (pa_cons (pv 0) pa_nil)))
      (pss_cons (ps_for PassesOwn.never rfl (pi_range1 (by rfl) T.n_range (pa_cons (pe_op op_add pe_int (pe_call (ok__law_draw T) (hr.mono (by decide)) rfl T.g__law_draw T.F__law_draw.kp T.b__law_draw .nil pass0 (pa_cons (pv 1) (pa_cons pe_int pa_nil)))) pa_nil)) (pg_name (i := 2) sc_law.nd rfl (.inl rfl))
      (pss_cons (ps_set (i := 3) sc_law.nd rfl (Or.inl rfl) (pe_call (ok__law_box T) (hr.mono (by decide)) rfl T.g__law_box T.F__law_box.kp T.b__law_box .nil pass0 (pa_cons (pv 1) pa_nil)))
      (pss_cons (ps_set (i := 4) sc_law.nd rfl (Or.inl rfl) (pe_call (ok__law_second T) (hr.mono (by decide)) rfl T.g__law_second T.F__law_second.kp T.b__law_second .nil pass0 (pa_cons (pv 1) (pa_cons (pv 3) pa_nil))))
      (pss_cons (ps_set (i := 5) sc_law.nd rfl (Or.inl rfl) (pe_call (ok__law_second T) (hr.mono (by decide)) rfl T.g__law_second T.F__law_second.kp T.b__law_second .nil pass0 (pa_cons (pv 1) (pa_cons (pv 4) pa_nil))))
      (pss_cons (ps_for PassesOwn.never rfl (pi_list (pe_lst (pa_cons (pe_tup (pa_cons (pv 3) (pa_cons (pv 4) pa_nil))) (pa_cons (pe_tup (pa_cons (pv 4) (pa_cons (pv 5) pa_nil))) (pa_cons (pe_tup (pa_cons (pv 3) (pa_cons (pv 5) pa_nil))) pa_nil))))) (pg_tup (by rfl) (pgs_cons (pg_name (i := 6) sc_law.nd rfl (.inl rfl)) (pgs_cons (pg_name (i := 7) sc_law.nd rfl (.inl rfl)) pgs_nil)))
      (pss_one (ps_if (PW.pt (pw_or (pt_not (pt_val (pe_call (ok__law_met_right T) (hr.mono (by decide)) rfl T.g__law_met_right T.F__law_met_right.kp T.b__law_met_right .nil pass0 (pa_cons (pv 6) (pa_cons (pv 7) pa_nil))))) (pw_or1 (pt_not (pt_val (pe_call (ok__law_spots_right T) (hr.mono (by decide)) rfl T.g__law_spots_right T.F__law_spots_right.kp T.b__law_spots_right .nil pass0 (pa_cons (pv 6) (pa_cons (pv 7) pa_nil)))))))) (pss_one (ps_ret pe_bl)) pss_nil)))
      (pss_cons (ps_if (PW.pt (pw_or (pt_cmpR (r := Ew.rNeX K) (Ew.op_neX hr.units) (pe_call (ok_met T) (hr.mono (by decide)) rfl T.g_met T.F_met.kp T.b_met .nil pass0 (pa_cons (pv 3) (pa_cons (pv 3) pa_nil))) (pv 3) (nomark _)) (pw_or1 (pt_cmpR (r := Ew.rNeX K) (Ew.op_neX hr.units) (pe_call (ok_met T) (hr.mono (by decide)) rfl T.g_met T.F_met.kp T.b_met .nil pass0 (pa_cons (pv 5) (pa_cons (pv 5) pa_nil))) (pv 5) (nomark _))))) (pss_one (ps_ret pe_bl)) pss_nil)
      (pss_cons (ps_set (i := 8) sc_law.nd rfl (Or.inl rfl) (pe_call (ok__law_both T) (hr.mono (by decide)) rfl T.g__law_both T.F__law_both.kp T.b__law_both .nil pass0 (pa_cons (pe_call (ok__law_both T) (hr.mono (by decide)) rfl T.g__law_both T.F__law_both.kp T.b__law_both .nil pass0 (pa_cons (pv 3) (pa_cons (pv 4) pa_nil))) (pa_cons (pv 5) pa_nil))))
      (pss_one (ps_for PassesOwn.never rfl (pi_list (pe_lst (pa_cons (pe_tup (pa_cons (pv 3) (pa_cons (pv 4) (pa_cons (pv 5) pa_nil)))) (pa_cons (pe_tup (pa_cons (pv 5) (pa_cons (pv 3) (pa_cons (pv 4) pa_nil)))) (pa_cons (pe_tup (pa_cons (pv 4) (pa_cons (pv 5) (pa_cons (pv 3) pa_nil)))) (pa_cons (pe_tup (pa_cons (pv 5) (pa_cons (pv 4) (pa_cons (pv 3) pa_nil)))) pa_nil)))))) (pg_name (i := 9) sc_law.nd rfl (.inl rfl))
      (pss_one (ps_if (pt_cmpR (r := Ew.rNeX K) (Ew.op_neX hr.units) (pe_call (ok__law_three T) (hr.mono (by decide)) rfl T.g__law_three T.F__law_three.kp T.b__law_three .nil pass0 (pa_cons (pe_ix (r := rIxT K) ix_tup (pv 9) pe_int (fun _ _ => rfl)) (pa_cons (pe_ix (r := rIxT K) ix_tup (pv 9) pe_int (fun _ _ => rfl)) (pa_cons (pe_ix (r := rIxT K) ix_tup (pv 9) pe_int (fun _ _ => rfl)) pa_nil)))) (pv 8) (nomark _)) (pss_one (ps_ret pe_bl)) pss_nil)))))))))))
      (pss_one (ps_ret pe_bl)))), ?_⟩
  refine ⟨_, rfl, sp__law_deck.mk hS hn (fun H1 dk c hD1 _ _ _ => ?_)⟩
  repeat walk_at "ew"
  intro H2 r r0 r1 hD2 _
  repeat walk_at "ew"
  refine ⟨by omega, by omega, for_range (n := (1 + r).toNat) (fun i σ H' => ∃ w2 w3 w4 w5 w6 w7 w8 w9, σ = [some (.ref a), some (.ref dk), w2, w3, w4, w5, w6, w7, w8, w9] ∧ Deck H' dk c)
    ⟨_, _, _, _, _, _, _, _, rfl, hD2⟩ ?_ ?_⟩
  · rintro i σ H3 hi ⟨w2, w3, w4, w5, w6, w7, w8, w9, rfl, hD3⟩
    clear hS hD1 hD2
    repeat walk_at "ew"
    intro H4 b1 u0 u1 v0 v1 hb1 _ _ _ _ o1 o2 hD4 _
    refine ⟨_, rfl, _, rfl, sp__law_second.mk ⟨u0, u1, v0, v1⟩ hD4 hb1 o1 o2 (fun H5 b2 q hb2 o3 o4 hD5 e5 => ?_)⟩
    refine ⟨_, rfl, _, rfl, sp__law_second.mk q hD5 hb2 o3 o4 (fun H6 b3 t hb3 o5 o6 hD6 e6 => ?_)⟩
    have hb1' : BoxAt H6 b1 u0 u1 v0 v1 := (e5.trans e6).tupE hb1
    have hb2' := e6.tupE hb2
    clear hb1 hb2 e5 e6 hD4 hD5
    repeat walk_at "ew"
    rename_i t1 ht1 t2 ht2 t3 ht3 l hl
    refine ⟨⟨_, SqL.of upd_same⟩, for_list (K := K) (a := l) (xs := [.ref t1, .ref t2, .ref t3]) (fun j σ H' => ∃ w6 w7, σ = [some (.ref a), some (.ref dk), some (.int (0 + i)), some (.ref b1), some (.ref b2), some (.ref b3), w6, w7, w8, w9] ∧
      H' l = some (.lst [.ref t1, .ref t2, .ref t3]) ∧ H' t1 = some (.tup [.ref b1, .ref b2]) ∧ H' t2 = some (.tup [.ref b2, .ref b3]) ∧ H' t3 = some (.tup [.ref b1, .ref b3]) ∧ Evo [] H6 H') ?_ ?_ ?_ ?_⟩
    · exact ⟨_, _, rfl, upd_same, by walk_at "ewtup", by walk_at "ewtup", by walk_at "ewtup", by walk_at "ewevo"⟩
    · rintro j σ H' _ ⟨_, _, rfl, g, _⟩
      exact SqL.of g
    · rintro j z σ H7 hz ⟨w6, w7, rfl, g0, g1, g2, g3, e7⟩
      have f1 := e7.tupE hb1'
      have f2 := e7.tupE hb2'
      have f3 := e7.tupE hb3
      obtain ⟨d, x, y, m, n, rfl, hd, hx, hy⟩ : ∃ d x y m n, z = V.ref d ∧ H7 d = some (.tup [.ref x, .ref y]) ∧ BoxAt H7 x (B4.u0 m) (B4.u1 m) (B4.v0 m) (B4.v1 m) ∧ BoxAt H7 y (B4.u0 n) (B4.u1 n) (B4.v0 n) (B4.v1 n) := by
        match j, hz with
        | 0, hz => cases hz; exact ⟨t1, b1, b2, ⟨u0, u1, v0, v1⟩, q, rfl, g1, f1, f2⟩
        | 1, hz => cases hz; exact ⟨t2, b2, b3, q, t, rfl, g2, f2, f3⟩
        | 2, hz => cases hz; exact ⟨t3, b1, b3, ⟨u0, u1, v0, v1⟩, t, rfl, g3, f1, f3⟩
      repeat walk_at "ew"
      refine sp__law_met_right.mk m n hx hy (fun H8 e8 => ?_)
      repeat walk_at "ew"
      refine sp__law_spots_right.mk m n (e8.tupE hx) (e8.tupE hy) (fun H9 e9 => ?_)
      have E9 := e8.trans e9
      repeat walk_at "ew"
      (repeat' (first | exact e7.trans E9 | exact E9.get List.not_mem_nil g0 | exact E9.tupE g1 | exact E9.tupE g2 | exact E9.tupE g3 | refine And.intro ?_ ?_))
    · rintro σ H7 ⟨w6, w7, rfl, g0, g1, g2, g3, e7⟩
      have f1 := e7.tupE hb1'
      have f2 := e7.tupE hb2'
      have f3 := e7.tupE hb3
      have hD7 := hD6.evo0 e7
      clear hb1' hb2' hb3 g0 g1 g2 g3 e7 hD6 ht1 ht2 ht3 hl
      repeat walk_at "ew"
      refine sp_met.mk ⟨u0, u1, v0, v1⟩ ⟨u0, u1, v0, v1⟩ f1 f1 (fun H8 v8 hv8 e8 => ?_)
      rw [metB_self o1 o2] at hv8
      refine ⟨_, rfl, _, eqOB hv8 ⟨b1, rfl, e8.tupE f1⟩, ?_⟩
      repeat walk_at "ew"
      refine sp_met.mk t t (e8.tupE f3) (e8.tupE f3) (fun H9 v9 hv9 e9 => ?_)
      rw [metB_self o5 o6] at hv9
      refine ⟨_, rfl, _, eqOB hv9 ⟨b3, rfl, (e8.trans e9).tupE f3⟩, ?_⟩
      have E9 := e8.trans e9
      have f1 := E9.tupE f1
      have f2 := E9.tupE f2
      have f3 := E9.tupE f3
      have hD9 := hD7.evo0 E9
      repeat walk_at "ew"
      refine sp__law_both.mk (some ⟨u0, u1, v0, v1⟩) (some q) ⟨b1, rfl, f1⟩ ⟨b2, rfl, f2⟩ (fun H10 v10 hv10 e10 => ?_)
      repeat walk_at "ew"
      refine sp__law_both.mk _ (some t) hv10 ⟨b3, rfl, e10.tupE f3⟩ (fun H11 v11 hv11 e11 => ?_)
      have hv11' : OB H11 v11 (met3 ⟨u0, u1, v0, v1⟩ q t) := hv11
      have E11 := e10.trans e11
      have f1 := E11.tupE f1
      have f2 := E11.tupE f2
      have f3 := E11.tupE f3
      have hD11 := hD9.evo0 E11
      repeat walk_at "ew"
      rename_i t1 ht1 t2 ht2 t3 ht3 t4 ht4 l hl
      refine ⟨⟨_, SqL.of upd_same⟩, for_list (K := K) (a := l) (xs := [.ref t1, .ref t2, .ref t3, .ref t4]) (fun j σ H' => ∃ w9, σ = [some (.ref a), some (.ref dk), some (.int (0 + i)), some (.ref b1), some (.ref b2), some (.ref b3), w6, w7, some v11, w9] ∧
        H' l = some (.lst [.ref t1, .ref t2, .ref t3, .ref t4]) ∧ H' t1 = some (.tup [.ref b1, .ref b2, .ref b3]) ∧ H' t2 = some (.tup [.ref b3, .ref b1, .ref b2]) ∧ H' t3 = some (.tup [.ref b2, .ref b3, .ref b1]) ∧ H' t4 = some (.tup [.ref b3, .ref b2, .ref b1]) ∧ Evo [] H11 H') ?_ ?_ ?_ ?_⟩
      · exact ⟨_, rfl, upd_same, by walk_at "ewtup", by walk_at "ewtup", by walk_at "ewtup", by walk_at "ewtup", by walk_at "ewevo"⟩
      · rintro j σ H' _ ⟨_, rfl, g, _⟩
        exact SqL.of g
      · rintro j z σ H12 hz ⟨w9, rfl, g0, g1, g2, g3, g4, e12⟩
        have f1' := e12.tupE f1
        have f2' := e12.tupE f2
        have f3' := e12.tupE f3
        obtain ⟨d, x, y, s3, m, n, o, rfl, hd, hx, hy, hs, hm3⟩ : ∃ d x y s3 m n o, z = V.ref d ∧ H12 d = some (.tup [.ref x, .ref y, .ref s3]) ∧ BoxAt H12 x (B4.u0 m) (B4.u1 m) (B4.v0 m) (B4.v1 m) ∧ BoxAt H12 y (B4.u0 n) (B4.u1 n) (B4.v0 n) (B4.v1 n) ∧ BoxAt H12 s3 (B4.u0 o) (B4.u1 o) (B4.v0 o) (B4.v1 o) ∧ met3 m n o = met3 ⟨u0, u1, v0, v1⟩ q t := by
          match j, hz with
          | 0, hz => cases hz; exact ⟨t1, b1, b2, b3, ⟨u0, u1, v0, v1⟩, q, t, rfl, g1, f1', f2', f3', rfl⟩
          | 1, hz => cases hz; exact ⟨t2, b3, b1, b2, t, ⟨u0, u1, v0, v1⟩, q, rfl, g2, f3', f1', f2', met3_1 _ _ _⟩
          | 2, hz => cases hz; exact ⟨t3, b2, b3, b1, q, t, ⟨u0, u1, v0, v1⟩, rfl, g3, f2', f3', f1', met3_2 _ _ _⟩
          | 3, hz => cases hz; exact ⟨t4, b3, b2, b1, t, q, ⟨u0, u1, v0, v1⟩, rfl, g4, f3', f2', f1', met3_3 _ _ _⟩
        repeat walk_at "ew"
        refine sp__law_three.mk m n o hx hy hs (fun H13 v13 hv13 e13 => ?_)
        rw [hm3] at hv13
        refine ⟨_, rfl, _, eqOB hv13 (hv11'.evo (e12.trans e13)), ?_⟩
        repeat walk_at "ew"
        (repeat' (first | exact e12.trans e13 | exact e13.get List.not_mem_nil g0 | exact e13.tupE g1 | exact e13.tupE g2 | exact e13.tupE g3 | exact e13.tupE g4 | refine And.intro ?_ ?_))
      · rintro σ H12 ⟨w9, rfl, g0, g1, g2, g3, g4, e12⟩
        exact ⟨_, _, _, _, _, _, _, _, rfl, hD11.evo0 e12⟩
  · rintro σ H3 ⟨w2, w3, w4, w5, w6, w7, w8, w9, rfl, hD3⟩
    exact k _
end
end
theorem all_mk {l : PySem.W.OpenLaw} {w : World} {K : PySem.W.Frag} {h : Heap} {mg : Str → Option Value} {fa : Addr} (X : K.In h) (G : h.Ns mainGlobals mg) (hfa : mg "law" = some (.ref fa))
    {f0 f1 f2 f3 f4 f5 f6 f7 f8 f9 f10 f11 f12 f13 f14 f15 f16 : Addr}
    {od0 an0 od1 an1 od2 an2 od3 an3 od4 an4 od5 an5 od6 an6 od7 an7 od8 an8 od9 an9 od10 an10 od11 an11 od12 an12 od13 an13 od14 an14 od15 an15 od16 an16 : Option Addr} {sl0 sl1 sl2 sl3 sl4 sl5 sl6 sl7 sl8 sl9 sl10 sl11 sl12 sl13 sl14 sl15 sl16 : Array (Option Value)} {oc0 kV0 dc0 pm0 cd0 ct0 oc1 kV1 dc1 pm1 cd1 ct1 oc2 kV2 dc2 pm2 cd2 ct2 oc3 kV3 dc3 pm3 cd3 ct3 oc4 kV4 dc4 pm4 cd4 ct4 oc5 kV5 dc5 pm5 cd5 ct5 oc6 kV6 dc6 pm6 cd6 ct6 oc7 kV7 dc7 pm7 cd7 ct7 oc8 kV8 dc8 pm8 cd8 ct8 oc9 kV9 dc9 pm9 cd9 ct9 oc10 kV10 dc10 pm10 cd10 ct10 oc11 kV11 dc11 pm11 cd11 ct11 oc12 kV12 dc12 pm12 cd12 ct12 oc13 kV13 dc13 pm13 cd13 ct13 oc14 kV14 dc14 pm14 cd14 ct14 oc15 kV15 dc15 pm15 cd15 ct15 oc16 kV16 dc16 pm16 cd16 ct16 : Value}
    (a0 : PySem.W.nsIn K mainGlobals "met" = some (some (.ref f0))) (l0 : K.lookup f0 = some ⟨oc0, od0, .func (PySem.W.fnOf "met" "met" (defArgs s_met) (defBody s_met) (defScope s_met) .none kV0 dc0 pm0 an0 cd0 ct0), sl0⟩) (c0 : PySem.W.codeIn K cd0 "met" = true) (k0 : PySem.W.keepIn K (.ref f0) = true)
    (a1 : PySem.W.nsIn K mainGlobals "has" = some (some (.ref f1))) (l1 : K.lookup f1 = some ⟨oc1, od1, .func (PySem.W.fnOf "has" "has" (defArgs s_has) (defBody s_has) (defScope s_has) .none kV1 dc1 pm1 an1 cd1 ct1), sl1⟩) (c1 : PySem.W.codeIn K cd1 "has" = true) (k1 : PySem.W.keepIn K (.ref f1) = true)
    (a2 : PySem.W.nsIn K mainGlobals "_law_deck" = some (some (.ref f2))) (l2 : K.lookup f2 = some ⟨oc2, od2, .func (PySem.W.fnOf "_law_deck" "_law_deck" (defArgs s__law_deck) (defBody s__law_deck) (defScope s__law_deck) .none kV2 dc2 pm2 an2 cd2 ct2), sl2⟩) (c2 : PySem.W.codeIn K cd2 "_law_deck" = true) (k2 : PySem.W.keepIn K (.ref f2) = true)
    (a3 : PySem.W.nsIn K mainGlobals "_law_draw" = some (some (.ref f3))) (l3 : K.lookup f3 = some ⟨oc3, od3, .func (PySem.W.fnOf "_law_draw" "_law_draw" (defArgs s__law_draw) (defBody s__law_draw) (defScope s__law_draw) .none kV3 dc3 pm3 an3 cd3 ct3), sl3⟩) (c3 : PySem.W.codeIn K cd3 "_law_draw" = true) (k3 : PySem.W.keepIn K (.ref f3) = true)
    (a4 : PySem.W.nsIn K mainGlobals "_law_wide_draw" = some (some (.ref f4))) (l4 : K.lookup f4 = some ⟨oc4, od4, .func (PySem.W.fnOf "_law_wide_draw" "_law_wide_draw" (defArgs s__law_wide_draw) (defBody s__law_wide_draw) (defScope s__law_wide_draw) .none kV4 dc4 pm4 an4 cd4 ct4), sl4⟩) (c4 : PySem.W.codeIn K cd4 "_law_wide_draw" = true) (k4 : PySem.W.keepIn K (.ref f4) = true)
    (a5 : PySem.W.nsIn K mainGlobals "_law_is_whole" = some (some (.ref f5))) (l5 : K.lookup f5 = some ⟨oc5, od5, .func (PySem.W.fnOf "_law_is_whole" "_law_is_whole" (defArgs s__law_is_whole) (defBody s__law_is_whole) (defScope s__law_is_whole) .none kV5 dc5 pm5 an5 cd5 ct5), sl5⟩) (c5 : PySem.W.codeIn K cd5 "_law_is_whole" = true) (k5 : PySem.W.keepIn K (.ref f5) = true)
    (a6 : PySem.W.nsIn K mainGlobals "_law_are_whole" = some (some (.ref f6))) (l6 : K.lookup f6 = some ⟨oc6, od6, .func (PySem.W.fnOf "_law_are_whole" "_law_are_whole" (defArgs s__law_are_whole) (defBody s__law_are_whole) (defScope s__law_are_whole) .none kV6 dc6 pm6 an6 cd6 ct6), sl6⟩) (c6 : PySem.W.codeIn K cd6 "_law_are_whole" = true) (k6 : PySem.W.keepIn K (.ref f6) = true)
    (a7 : PySem.W.nsIn K mainGlobals "_law_stretch" = some (some (.ref f7))) (l7 : K.lookup f7 = some ⟨oc7, od7, .func (PySem.W.fnOf "_law_stretch" "_law_stretch" (defArgs s__law_stretch) (defBody s__law_stretch) (defScope s__law_stretch) .none kV7 dc7 pm7 an7 cd7 ct7), sl7⟩) (c7 : PySem.W.codeIn K cd7 "_law_stretch" = true) (k7 : PySem.W.keepIn K (.ref f7) = true)
    (a8 : PySem.W.nsIn K mainGlobals "_law_box" = some (some (.ref f8))) (l8 : K.lookup f8 = some ⟨oc8, od8, .func (PySem.W.fnOf "_law_box" "_law_box" (defArgs s__law_box) (defBody s__law_box) (defScope s__law_box) .none kV8 dc8 pm8 an8 cd8 ct8), sl8⟩) (c8 : PySem.W.codeIn K cd8 "_law_box" = true) (k8 : PySem.W.keepIn K (.ref f8) = true)
    (a9 : PySem.W.nsIn K mainGlobals "_law_near" = some (some (.ref f9))) (l9 : K.lookup f9 = some ⟨oc9, od9, .func (PySem.W.fnOf "_law_near" "_law_near" (defArgs s__law_near) (defBody s__law_near) (defScope s__law_near) .none kV9 dc9 pm9 an9 cd9 ct9), sl9⟩) (c9 : PySem.W.codeIn K cd9 "_law_near" = true) (k9 : PySem.W.keepIn K (.ref f9) = true)
    (a10 : PySem.W.nsIn K mainGlobals "_law_second" = some (some (.ref f10))) (l10 : K.lookup f10 = some ⟨oc10, od10, .func (PySem.W.fnOf "_law_second" "_law_second" (defArgs s__law_second) (defBody s__law_second) (defScope s__law_second) .none kV10 dc10 pm10 an10 cd10 ct10), sl10⟩) (c10 : PySem.W.codeIn K cd10 "_law_second" = true) (k10 : PySem.W.keepIn K (.ref f10) = true)
    (a11 : PySem.W.nsIn K mainGlobals "_law_both" = some (some (.ref f11))) (l11 : K.lookup f11 = some ⟨oc11, od11, .func (PySem.W.fnOf "_law_both" "_law_both" (defArgs s__law_both) (defBody s__law_both) (defScope s__law_both) .none kV11 dc11 pm11 an11 cd11 ct11), sl11⟩) (c11 : PySem.W.codeIn K cd11 "_law_both" = true) (k11 : PySem.W.keepIn K (.ref f11) = true)
    (a12 : PySem.W.nsIn K mainGlobals "_law_met_right" = some (some (.ref f12))) (l12 : K.lookup f12 = some ⟨oc12, od12, .func (PySem.W.fnOf "_law_met_right" "_law_met_right" (defArgs s__law_met_right) (defBody s__law_met_right) (defScope s__law_met_right) .none kV12 dc12 pm12 an12 cd12 ct12), sl12⟩) (c12 : PySem.W.codeIn K cd12 "_law_met_right" = true) (k12 : PySem.W.keepIn K (.ref f12) = true)
    (a13 : PySem.W.nsIn K mainGlobals "_law_has" = some (some (.ref f13))) (l13 : K.lookup f13 = some ⟨oc13, od13, .func (PySem.W.fnOf "_law_has" "_law_has" (defArgs s__law_has) (defBody s__law_has) (defScope s__law_has) .none kV13 dc13 pm13 an13 cd13 ct13), sl13⟩) (c13 : PySem.W.codeIn K cd13 "_law_has" = true) (k13 : PySem.W.keepIn K (.ref f13) = true)
    (a14 : PySem.W.nsIn K mainGlobals "_law_spots_right" = some (some (.ref f14))) (l14 : K.lookup f14 = some ⟨oc14, od14, .func (PySem.W.fnOf "_law_spots_right" "_law_spots_right" (defArgs s__law_spots_right) (defBody s__law_spots_right) (defScope s__law_spots_right) .none kV14 dc14 pm14 an14 cd14 ct14), sl14⟩) (c14 : PySem.W.codeIn K cd14 "_law_spots_right" = true) (k14 : PySem.W.keepIn K (.ref f14) = true)
    (a15 : PySem.W.nsIn K mainGlobals "_law_three" = some (some (.ref f15))) (l15 : K.lookup f15 = some ⟨oc15, od15, .func (PySem.W.fnOf "_law_three" "_law_three" (defArgs s__law_three) (defBody s__law_three) (defScope s__law_three) .none kV15 dc15 pm15 an15 cd15 ct15), sl15⟩) (c15 : PySem.W.codeIn K cd15 "_law_three" = true) (k15 : PySem.W.keepIn K (.ref f15) = true)
    (a16 : PySem.W.nsIn K mainGlobals "law" = some (some (.ref f16))) (l16 : K.lookup f16 = some ⟨oc16, od16, .func (PySem.W.fnOf "law" "law" (defArgs s_law) (defBody s_law) (defScope s_law) .none kV16 dc16 pm16 an16 cd16 ct16), sl16⟩) (c16 : PySem.W.codeIn K cd16 "law" = true) (k16 : PySem.W.keepIn K (.ref f16) = true)
    (z_max : PySem.W.nsIn K mainGlobals "max" = some none)
    (z_min : PySem.W.nsIn K mainGlobals "min" = some none)
    (z_list : PySem.W.nsIn K mainGlobals "list" = some none)
    (z_len : PySem.W.nsIn K mainGlobals "len" = some none)
    (z_isinstance : PySem.W.nsIn K mainGlobals "isinstance" = some none)
    (z_bool : PySem.W.nsIn K mainGlobals "bool" = some none)
    (z_int : PySem.W.nsIn K mainGlobals "int" = some none)
    (z_tuple : PySem.W.nsIn K mainGlobals "tuple" = some none)
    (z_abs : PySem.W.nsIn K mainGlobals "abs" = some none)
    (z_range : PySem.W.nsIn K mainGlobals "range" = some none)
    : ∃ fd : FuncData, (∀ (s : Shared) (v : Value), BindsTo s fd ⟨[v], []⟩ [("_law_script", v)]) ∧ ∀ base : Heap, K.In base → base.Ns mainGlobals mg → FnOk l.prog w K mg base CX0 6 fa fd ["_law_script"] (sp_law K) := by
  have e := hfa.symm.trans (PySem.W.mg_of X G a16)
  cases e
  have F0 := fun_mk (st := s_met) l0 c0 k0
  have F1 := fun_mk (st := s_has) l1 c1 k1
  have F2 := fun_mk (st := s__law_deck) l2 c2 k2
  have F3 := fun_mk (st := s__law_draw) l3 c3 k3
  have F4 := fun_mk (st := s__law_wide_draw) l4 c4 k4
  have F5 := fun_mk (st := s__law_is_whole) l5 c5 k5
  have F6 := fun_mk (st := s__law_are_whole) l6 c6 k6
  have F7 := fun_mk (st := s__law_stretch) l7 c7 k7
  have F8 := fun_mk (st := s__law_box) l8 c8 k8
  have F9 := fun_mk (st := s__law_near) l9 c9 k9
  have F10 := fun_mk (st := s__law_second) l10 c10 k10
  have F11 := fun_mk (st := s__law_both) l11 c11 k11
  have F12 := fun_mk (st := s__law_met_right) l12 c12 k12
  have F13 := fun_mk (st := s__law_has) l13 c13 k13
  have F14 := fun_mk (st := s__law_spots_right) l14 c14 k14
  have F15 := fun_mk (st := s__law_three) l15 c15 k15
  have F16 := fun_mk (st := s_law) l16 c16 k16
  have b0 := F0.binds (ps := ["box", "other"]) fun _ _ _ _ _ _ us hl => match us, hl with | [_, _], _ => rfl
  have b1 := F1.binds (ps := ["box", "spot"]) fun _ _ _ _ _ _ us hl => match us, hl with | [_, _], _ => rfl
  have b2 := F2.binds (ps := ["_law_script"]) fun _ _ _ _ _ _ us hl => match us, hl with | [_], _ => rfl
  have b3 := F3.binds (ps := ["_law_deck_here", "_law_many"]) fun _ _ _ _ _ _ us hl => match us, hl with | [_, _], _ => rfl
  have b4 := F4.binds (ps := ["_law_deck_here", "_law_many"]) fun _ _ _ _ _ _ us hl => match us, hl with | [_, _], _ => rfl
  have b5 := F5.binds (ps := ["_law_thing"]) fun _ _ _ _ _ _ us hl => match us, hl with | [_], _ => rfl
  have b6 := F6.binds (ps := ["_law_thing", "_law_many"]) fun _ _ _ _ _ _ us hl => match us, hl with | [_, _], _ => rfl
  have b7 := F7.binds (ps := ["_law_deck_here", "_law_way"]) fun _ _ _ _ _ _ us hl => match us, hl with | [_, _], _ => rfl
  have b8 := F8.binds (ps := ["_law_deck_here"]) fun _ _ _ _ _ _ us hl => match us, hl with | [_], _ => rfl
  have b9 := F9.binds (ps := ["_law_deck_here", "_law_stretch_here"]) fun _ _ _ _ _ _ us hl => match us, hl with | [_, _], _ => rfl
  have b10 := F10.binds (ps := ["_law_deck_here", "_law_box_here"]) fun _ _ _ _ _ _ us hl => match us, hl with | [_, _], _ => rfl
  have b11 := F11.binds (ps := ["_law_one", "_law_other"]) fun _ _ _ _ _ _ us hl => match us, hl with | [_, _], _ => rfl
  have b12 := F12.binds (ps := ["_law_one", "_law_other"]) fun _ _ _ _ _ _ us hl => match us, hl with | [_, _], _ => rfl
  have b13 := F13.binds (ps := ["_law_box_here", "_law_spot"]) fun _ _ _ _ _ _ us hl => match us, hl with | [_, _], _ => rfl
  have b14 := F14.binds (ps := ["_law_one", "_law_other"]) fun _ _ _ _ _ _ us hl => match us, hl with | [_, _], _ => rfl
  have b15 := F15.binds (ps := ["_law_one", "_law_other", "_law_third"]) fun _ _ _ _ _ _ us hl => match us, hl with | [_, _, _], _ => rfl
  have b16 := F16.binds (ps := ["_law_script"]) fun _ _ _ _ _ _ us hl => match us, hl with | [_], _ => rfl
  let T : Tx K mg := ⟨_, _, F0, b0, PySem.W.mg_of X G a0, _, _, F1, b1, PySem.W.mg_of X G a1, _, _, F2, b2, PySem.W.mg_of X G a2, _, _, F3, b3, PySem.W.mg_of X G a3, _, _, F4, b4, PySem.W.mg_of X G a4, _, _, F5, b5, PySem.W.mg_of X G a5, _, _, F6, b6, PySem.W.mg_of X G a6, _, _, F7, b7, PySem.W.mg_of X G a7, _, _, F8, b8, PySem.W.mg_of X G a8, _, _, F9, b9, PySem.W.mg_of X G a9, _, _, F10, b10, PySem.W.mg_of X G a10, _, _, F11, b11, PySem.W.mg_of X G a11, _, _, F12, b12, PySem.W.mg_of X G a12, _, _, F13, b13, PySem.W.mg_of X G a13, _, _, F14, b14, PySem.W.mg_of X G a14, _, _, F15, b15, PySem.W.mg_of X G a15, _, _, F16, b16, PySem.W.mg_of X G a16, PySem.W.mg_none_of X G z_max, PySem.W.mg_none_of X G z_min, PySem.W.mg_none_of X G z_list, PySem.W.mg_none_of X G z_len, PySem.W.mg_none_of X G z_isinstance, PySem.W.mg_none_of X G z_bool, PySem.W.mg_none_of X G z_int, PySem.W.mg_none_of X G z_tuple, PySem.W.mg_none_of X G z_abs, PySem.W.mg_none_of X G z_range⟩
  exact ⟨PySem.W.fnOf "law" "law" (defArgs s_law) (defBody s_law) (defScope s_law) .none kV16 dc16 pm16 an16 cd16 ct16, fun s v => .of_eq rfl, fun base _ _ => ok_law T⟩
theorem walk {l : PySem.W.OpenLaw} {q : Program} {loose : List Str} {XP : (Str → Option Value) → Heap → Prop} {YP : World → Heap → Prop} {d : DefRec} {K : Params → PySem.W.Frag} (hn : l.most = some 63) (hdf : d.params.defaults = [])
    (hY : ∀ (w : World) (h : Heap), YP w h → (K w.params).In h)
    (F : ∀ (w : World) (mg : Str → Option Value) (fa : Addr) (h : Heap), (K w.params).In h → h.Ns mainGlobals mg → mg d.name = some (.ref fa) →
      ∃ fd : FuncData, (∀ (s : Shared) (u : Value), BindsTo s fd ⟨[u], []⟩ [("_law_script", u)]) ∧ ∀ base : Heap, (K w.params).In base → base.Ns mainGlobals mg → FnOk l.prog w (K w.params) mg base CX0 6 fa fd ["_law_script"] (sp_law (K w.params))) :
    PySem.W.WalkO q loose XP YP l.row.toRowW d [] (fun f vs => PySem.call f vs) :=
  L2.walk_of (n := 63) (k := 6) (x := "_law_script") (CX := fun _ => CX0) (sp := fun w => sp_law (K w.params)) hn (by decide) hdf ⟨rfl, by decide, by decide⟩ hY F (fun _ _ a ns hl _ hS => ⟨a, ns, rfl, hS, hl, fun _ => rfl⟩) fun _ _ _ _ _ z => z
end Ew
open PySem PySem.W PyProof.Rows
set_option maxRecDepth 100000 in
set_option maxHeartbeats 0 in
theorem PySem.Challenge.cw_evenwires_k12_boxes_met_holds : PySem.Challenge.rw_evenwires_k12_boxes_met.Holds := by
  w_on; o_law; k_head; (case hw => w_witness2)
  k_fill
  refine Ew.walk (l := PySem.Challenge.rw_evenwires_k12_boxes_met) rfl rfl (fun w h Y => PySem.W.kIn_of Y) ?F
  case F =>
    intro w mg fa h KX G hmg
    refine' Ew.all_mk KX G hmg ?a0 ?l0 ?c0 ?k0 ?a1 ?l1 ?c1 ?k1 ?a2 ?l2 ?c2 ?k2 ?a3 ?l3 ?c3 ?k3 ?a4 ?l4 ?c4 ?k4 ?a5 ?l5 ?c5 ?k5 ?a6 ?l6 ?c6 ?k6 ?a7 ?l7 ?c7 ?k7 ?a8 ?l8 ?c8 ?k8 ?a9 ?l9 ?c9 ?k9 ?a10 ?l10 ?c10 ?k10 ?a11 ?l11 ?c11 ?k11 ?a12 ?l12 ?c12 ?k12 ?a13 ?l13 ?c13 ?k13 ?a14 ?l14 ?c14 ?k14 ?a15 ?l15 ?c15 ?k15 ?a16 ?l16 ?c16 ?k16 ?z_max ?z_min ?z_list ?z_len ?z_isinstance ?z_bool ?z_int ?z_tuple ?z_abs ?z_range
    (case a0 => k_is)
    (case l0 => k_is)
    (case c0 => k_is)
    (case k0 => k_is)
    (case a1 => k_is)
    (case l1 => k_is)
    (case c1 => k_is)
    (case k1 => k_is)
    (case a2 => k_is)
    (case l2 => k_is)
    (case c2 => k_is)
    (case k2 => k_is)
    (case a3 => k_is)
    (case l3 => k_is)
    (case c3 => k_is)
    (case k3 => k_is)
    (case a4 => k_is)
    (case l4 => k_is)
    (case c4 => k_is)
    (case k4 => k_is)
    (case a5 => k_is)
    (case l5 => k_is)
    (case c5 => k_is)
    (case k5 => k_is)
    (case a6 => k_is)
    (case l6 => k_is)
    (case c6 => k_is)
    (case k6 => k_is)
    (case a7 => k_is)
    (case l7 => k_is)
    (case c7 => k_is)
    (case k7 => k_is)
    (case a8 => k_is)
    (case l8 => k_is)
    (case c8 => k_is)
    (case k8 => k_is)
    (case a9 => k_is)
    (case l9 => k_is)
    (case c9 => k_is)
    (case k9 => k_is)
    (case a10 => k_is)
    (case l10 => k_is)
    (case c10 => k_is)
    (case k10 => k_is)
    (case a11 => k_is)
    (case l11 => k_is)
    (case c11 => k_is)
    (case k11 => k_is)
    (case a12 => k_is)
    (case l12 => k_is)
    (case c12 => k_is)
    (case k12 => k_is)
    (case a13 => k_is)
    (case l13 => k_is)
    (case c13 => k_is)
    (case k13 => k_is)
    (case a14 => k_is)
    (case l14 => k_is)
    (case c14 => k_is)
    (case k14 => k_is)
    (case a15 => k_is)
    (case l15 => k_is)
    (case c15 => k_is)
    (case k15 => k_is)
    (case a16 => k_is)
    (case l16 => k_is)
    (case c16 => k_is)
    (case k16 => k_is)
    (case z_max => k_is)
    (case z_min => k_is)
    (case z_list => k_is)
    (case z_len => k_is)
    (case z_isinstance => k_is)
    (case z_bool => k_is)
    (case z_int => k_is)
    (case z_tuple => k_is)
    (case z_abs => k_is)
    (case z_range => k_is)

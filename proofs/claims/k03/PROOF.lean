import PyProof.Rows.All
import Wide.All
import OpenK.AllK
import Wide.FinOn
import HandS.ForMost
import HandS.IsInst
import HandS.Style
import HandS.Wide
import HandS.NoneIn
import PySem.Challenge.RW_evenwires_k03_steps_along_streets
set_option Elab.async false
set_option linter.all false
set_option maxRecDepth 100000
namespace Ew
open PySem PySem.Spec PyProof.Rows L2

/-- what may have happened between two heaps: only what stands in S is changed; tuples and locked things stay -/
structure Evo (S : List Addr) (H H' : Hp) : Prop where
  old : ∀ a o, H a = some o → a ∉ S → H' a = some o
  tup : ∀ a xs, H a = some (.tup xs) → H' a = some (.tup xs)
  frz : ∀ a o u, H a = some (.frz o u) → H' a = some (.frz o u)
section
variable {K : PySem.W.Frag} {S S' : List Addr} {H H1 H2 H' : Hp} {a p q : Addr} {o x y : HO} {xs ys : List V}
theorem get_new (hp : H p = none) (h : H a = some x) : upd H p o a = some x := by rw [upd_ne (ne_of_none h hp)]; exact h
theorem get_ne (hn : a ≠ p) (h : H a = some x) : upd H p o a = some x := by rw [upd_ne hn]; exact h
theorem Evo.refl (S : List Addr) (H : Hp) : Evo S H H := ⟨fun _ _ h _ => h, fun _ _ h => h, fun _ _ _ h => h⟩
theorem Evo.trans (e : Evo S H H1) (f : Evo S H1 H2) : Evo S H H2 := ⟨fun a o h n => f.old a o (e.old a o h n) n, fun a xs h => f.tup a xs (e.tup a xs h), fun a o u h => f.frz a o u (e.frz a o u h)⟩
/-- a new thing -/
theorem Evo.new (e : Evo S H H1) (hp : H1 p = none) : Evo S H (upd H1 p o) :=
  ⟨fun a u h n => get_new hp (e.old a u h n), fun a ys h => get_new hp (e.tup a ys h), fun a u v h => get_new hp (e.frz a u v h)⟩
/-- a thing that was not there at the beginning is changed -/
theorem Evo.mut (e : Evo S H H1) (hp : H p = none) : Evo S H (upd H1 p o) :=
  ⟨fun a u h n => get_ne (ne_of_none h hp) (e.old a u h n), fun a ys h => get_ne (ne_of_none h hp) (e.tup a ys h), fun a u v h => get_ne (ne_of_none h hp) (e.frz a u v h)⟩
/-- a thing of S is changed -/
theorem Evo.set (e : Evo S H H1) (hp : p ∈ S) (hm : ∀ ys, H p ≠ some (.tup ys)) (hf : ∀ u v, H p ≠ some (.frz u v)) : Evo S H (upd H1 p o) :=
  ⟨fun a u h n => get_ne (fun z => n (z ▸ hp)) (e.old a u h n), fun a ys h => get_ne (fun z => hm ys (z ▸ h)) (e.tup a ys h), fun a u v h => get_ne (fun z => hf u v (z ▸ h)) (e.frz a u v h)⟩
/-- a callee's changes -/
theorem Evo.call (e : Evo S H H1) (f : Evo S' H1 H2) (h : ∀ s ∈ S', s ∈ S ∨ H s = none) : Evo S H H2 :=
  ⟨fun a o ha n => f.old a o (e.old a o ha n) fun m => (h a m).elim n (fun z => nomatch (ha.symm.trans z)), fun a xs h => f.tup a xs (e.tup a xs h), fun a o u h => f.frz a o u (e.frz a o u h)⟩
theorem Evo.call0 (e : Evo S H H1) (f : Evo [] H1 H2) : Evo S H H2 := e.call f fun _ h => by cases h
theorem Evo.get (e : Evo S H H') (hn : a ∉ S) (h : H a = some x) : H' a = some x := e.old a x h hn
theorem Evo.sqT (e : Evo S H H') (h : SqT K H a xs) : SqT K H' a xs := by
  rcases h with (h | ⟨o, h⟩) | h
  · exact .inl (.inl (e.tup _ _ h))
  · exact .inl (.inr ⟨o, e.frz _ _ _ h⟩)
  · exact .inr h
theorem Evo.fresh (e : Evo [] H H') (h : H' p = none) : H p = none := by
  cases q : H p with
  | none => rfl
  | some o =>
    rw [e.old p o q (by intro z; cases z)] at h
    cases h
theorem sqT_new (hp : H p = none) (h : SqT K H a xs) : SqT K (upd H p o) a xs := ((Evo.refl [] H).new hp).sqT h
theorem sqT_mut (hm : H p = some (.lst ys)) (h : SqT K H a xs) : SqT K (upd H p o) a xs := by
  rcases h with (h | ⟨o, h⟩) | h
  · exact .inl (.inl (get_ne (ne_of h hm (by intro z; cases z)) h))
  · exact .inl (.inr ⟨o, get_ne (ne_of h hm (by intro z; cases z)) h⟩)
  · exact .inr h
theorem sqT_mutD {kvs : List (Key × V)} (hm : H p = some (.dK kvs)) (h : SqT K H a xs) : SqT K (upd H p o) a xs := by
  rcases h with (h | ⟨o, h⟩) | h
  · exact .inl (.inl (get_ne (ne_of h hm (by intro z; cases z)) h))
  · exact .inl (.inr ⟨o, get_ne (ne_of h hm (by intro z; cases z)) h⟩)
  · exact .inr h
end
theorem sz {n : Nat} (h : n ≤ 100000) : n ≤ sizeLine := Nat.le_trans h (by decide)
theorem szl {n : Nat} (h : n < 100000) : n < sizeLine := Nat.lt_of_lt_of_le h (by decide)
section
variable {H : Hp} {a : Addr} {kvs kvs' : List (Key × V)} {s : Str} {v : V}
theorem dget (h : H a = some (.dK kvs)) (e : valV kvs (.inr s) = some v) : DGet H a (.str s) (some v) := e ▸ DGet.k (k := Sum.inr s) h
theorem dput (h : H a = some (.dK kvs)) (hl : kvs.length ≤ 1000) (e : putK kvs (.inr s) v = kvs') : DPut H a (.str s) v (upd H a (.dK kvs')) := e ▸ DPut.k (k := Sum.inr s) h (small1000 hl)
end
/-- a test by its answer -/
theorem iteD {c : Prop} [Decidable c] {A B : Prop} (h1 : c → A) (h2 : ¬ c → B) : if decide c = true then A else B := by
  by_cases h : c
  · rw [if_pos (decide_eq_true h)]; exact h1 h
  · rw [if_neg (by rw [decide_eq_false h]; exact Bool.false_ne_true)]; exact h2 h
theorem iteN {c : Prop} [Decidable c] {A B : Prop} (h1 : ¬ c → A) (h2 : c → B) : if (!decide c) = true then A else B := by
  by_cases h : c
  · rw [if_neg (by rw [decide_eq_true h]; exact Bool.false_ne_true)]; exact h2 h
  · rw [if_pos (by rw [decide_eq_false h]; rfl)]; exact h1 h
theorem iteB {b : Bool} {A B : Prop} (h1 : b = true → A) (h2 : b = false → B) : if b = true then A else B := by
  cases b with
  | true => exact h1 rfl
  | false => exact h2 rfl
end Ew
namespace Ew
open PySem PySem.Spec PyProof.Rows L2
/-! readings by lemmas: what is asked, in the form that it has when it is asked -/
section
variable {K : PySem.W.Frag} {H : Hp} {a b p : Addr} {xs ys : List V} {i : Int} {v x y : V} {R : V → Prop} {kvs kvs' : List (Key × V)} {s : Str}
theorem ixT (h : SqT K H p xs) (e : atI xs i = some v) (k : R v) : ∃ p' xs' i' v', V.ref p = .ref p' ∧ V.int i = .int i' ∧ SqT K H p' xs' ∧ atI xs' i' = some v' ∧ R v' := ⟨p, xs, i, v, rfl, rfl, h, e, k⟩
theorem ixL (h : SqL K H p xs) (e : atI xs i = some v) (k : R v) : ∃ p' xs' i' v', V.ref p = .ref p' ∧ V.int i = .int i' ∧ SqL K H p' xs' ∧ atI xs' i' = some v' ∧ R v' := ⟨p, xs, i, v, rfl, rfl, h, e, k⟩
theorem dgetE (h : H a = some (.dK kvs)) (e : valV kvs (.inr s) = some v) (k : R v) : ∃ a' v', V.ref a = .ref a' ∧ DGet H a' (.str s) (some v') ∧ R v' := ⟨a, v, rfl, dget h e, k⟩
theorem dputE {R : Hp → Prop} (h : H a = some (.dK kvs)) (e : putK kvs (.inr s) v = kvs') (k : R (upd H a (.dK kvs'))) (hl : kvs.length ≤ 1000) : ∃ a' H4, V.ref a = .ref a' ∧ DPut H a' (.str s) v H4 ∧ R H4 := ⟨a, _, rfl, dput h hl e, k⟩
theorem lenT {R : List V → Prop} (h : SqT K H p xs) (k : R xs) : ∃ p' ys, [V.ref p] = [.ref p'] ∧ (SqL K H p' ys ∨ SqT K H p' ys) ∧ R ys := ⟨p, xs, rfl, .inr h, k⟩
theorem lenL {R : List V → Prop} (h : SqL K H p xs) (k : R xs) : ∃ p' ys, [V.ref p] = [.ref p'] ∧ (SqL K H p' ys ∨ SqT K H p' ys) ∧ R ys := ⟨p, xs, rfl, .inl h, k⟩
theorem iib {R : Bool → Prop} {x : V} {n : String} {t : Value} {r : Bool} (ht : TyOf K H x t) (hb : PySem.W.kitOne K t (.type n) = some r) (k : R r) : ∃ (x' c : V) (t u : Value) (b : Bool), [x, V.ty n] = [x', c] ∧ ClsV c u ∧ TyX K H x' t ∧ PySem.W.kitOne K t u = some b ∧ R b :=
  ⟨x, .ty n, t, .type n, r, rfl, .ty n, .base ht, hb, k⟩
theorem lt2 {b : Bool} {r : V} : ∀ {i : Int}, 0 ≤ i → i < 2 → i = 0 ∨ i = 1 := by intro i h1 h2; omega
end
theorem apd {H : Hp} {l : Addr} {xs : List V} {y : V} {R : Addr → List V → V → Prop} (h : H l = some (.lst xs)) (hl : xs.length ≤ 1000) (k : R l xs y) : ∃ l' xs' y', V.ref l = .ref l' ∧ [y] = [y'] ∧ H l' = some (.lst xs') ∧ xs'.length < sizeLine ∧ R l' xs' y' :=
  ⟨l, xs, y, rfl, rfl, h, small1000 hl, k⟩
end Ew
namespace Ew
open PySem PySem.Spec PyProof.Rows L2
theorem tup_mut {H : Hp} {a p : Addr} {o : HO} {xs ys : List V} (hm : H p = some (.lst ys)) (h : H a = some (.tup xs)) : upd H p o a = some (.tup xs) := get_ne (ne_of h hm (by intro z; cases z)) h
theorem tup_mutD {H : Hp} {a p : Addr} {o : HO} {xs : List V} {kvs : List (Key × V)} (hm : H p = some (.dK kvs)) (h : H a = some (.tup xs)) : upd H p o a = some (.tup xs) := get_ne (ne_of h hm (by intro z; cases z)) h
theorem Evo.tupE {S : List Addr} {H H' : Hp} {a : Addr} {xs : List V} (e : Evo S H H') (h : H a = some (.tup xs)) : H' a = some (.tup xs) := e.tup a xs h
/-- a written power -/
theorem op_powC {X : Cx} (b e r : Int) (hc : CPow b e := by exact ⟨by decide, by decide, by decide⟩) (hr : b ^ e.toNat = r := by rfl) : OpR X (binaryOp .Pow) (fun x y H Q => x = .int b ∧ y = .int e ∧ Q (.int r) H) :=
  fun pins s σ H x y v u Q I rx ry h => op_pow pins s σ H x y v u Q I rx ry ⟨b, e, h.1, h.2.1, hc, by show Q (.int (b ^ e.toNat)) H; rw [hr]; exact h.2.2⟩
end Ew
namespace Ew
open PySem PySem.Spec PyProof.Rows L2
/-! data that are rows of whole numbers -/
def intsOf : List V → Option (List Int)
  | [] => some []
  | .int i :: r => match intsOf r with
    | some z => some (i :: z)
    | none => none
  | _ => none
theorem intsOf_map : ∀ {vs : List V} {xs : List Int}, intsOf vs = some xs → vs = xs.map V.int
  | [], _, h => by cases h; rfl
  | .int i :: r, xs, h => by
    unfold intsOf at h
    cases e : intsOf r with
    | none => rw [e] at h; cases h
    | some z =>
      rw [e] at h
      cases h
      rw [intsOf_map e]
      rfl
  | .non :: _, _, h => by cases h
  | .bl _ :: _, _, h => by cases h
  | .str _ :: _, _, h => by cases h
  | .byt _ :: _, _, h => by cases h
  | .flt _ :: _, _, h => by cases h
  | .ref _ :: _, _, h => by cases h
  | .ty _ :: _, _, h => by cases h
theorem intsOf_of : ∀ xs : List Int, intsOf (xs.map V.int) = some xs
  | [] => rfl
  | x :: r => by
    show (match intsOf (r.map V.int) with | some z => some (x :: z) | none => none) = _
    rw [intsOf_of r]
theorem dpInts {K : PySem.W.Frag} {H : Hp} : ∀ xs : List Int, DpAll K H (xs.map V.int) (xs.map PyData.int)
  | [] => .nil
  | x :: r => .cons (.int x) (dpInts r)
theorem canInts : ∀ xs : List Int, PyData.canLayAll0 (xs.map PyData.int) = true
  | [] => by simp [PyData.canLayAll0]
  | x :: r => by
    show PyData.canLayAll0 (PyData.int x :: r.map PyData.int) = true
    simp [PyData.canLayAll0, PyData.canLay0, canInts r]
theorem depInts : ∀ xs : List Int, PyData.depthAll (xs.map PyData.int) ≤ 1
  | [] => by simp [PyData.depthAll]
  | x :: r => by
    show PyData.depthAll (PyData.int x :: r.map PyData.int) ≤ 1
    have h := depInts r
    simp [PyData.depthAll, PyData.depth]
    omega
theorem shInts (xs : List Int) : SeqAt.shaped (.tuple (xs.map PyData.int)) = true := by
  have h := depInts xs
  simp [SeqAt.shaped, PyData.canLay0, canInts xs, PyData.depth]
  omega
theorem shIntsL (xs : List Int) : SeqAt.shaped (.list (xs.map PyData.int)) = true := by
  have h := depInts xs
  simp [SeqAt.shaped, PyData.canLay0, canInts xs, PyData.depth]
  omega
theorem eqvAllInts : ∀ xs ys : List Int, PyData.eqvAll (xs.map PyData.int) (ys.map PyData.int) = decide (xs = ys)
  | [], [] => by simp [PyData.eqvAll]
  | [], y :: _ => by simp [PyData.eqvAll]
  | x :: _, [] => by simp [PyData.eqvAll]
  | x :: r, y :: q => by
    show PyData.eqvAll (PyData.int x :: r.map PyData.int) (PyData.int y :: q.map PyData.int) = _
    have e : PyData.eqvAll (PyData.int x :: r.map PyData.int) (PyData.int y :: q.map PyData.int) = ((x == y) && PyData.eqvAll (r.map PyData.int) (q.map PyData.int)) := by simp [PyData.eqvAll, PyData.eqv]
    rw [e, eqvAllInts r q]
    by_cases h : x = y
    · by_cases h2 : r = q
      · simp [h, h2]
      · simp [h, h2]
    · simp [h]
theorem eqvT (xs ys : List Int) : PyData.eqv (.tuple (xs.map PyData.int)) (.tuple (ys.map PyData.int)) = decide (xs = ys) := by
  rw [← eqvAllInts]; simp [PyData.eqv]
theorem eqvL (xs ys : List Int) : PyData.eqv (.list (xs.map PyData.int)) (.list (ys.map PyData.int)) = decide (xs = ys) := by
  rw [← eqvAllInts]; simp [PyData.eqv]
section
variable {K : PySem.W.Frag} {H : Hp} {a b p : Addr} {vs us : List V} {xs ys : List Int} {R : V → Prop}
/-- == of data: its answer -/
def EqR (K : PySem.W.Frag) (H : Hp) (x y : V) (c : Bool) : Prop := ∃ d e, Dp K H x d ∧ Dp K H y e ∧ SeqAt.shaped d = true ∧ SeqAt.shaped e = true ∧ PyData.eqv d e = c
def rEqX (K : PySem.W.Frag) : R2 := fun x y H Q => ∃ c, EqR K H x y c ∧ Q (.bl c) H
def rNeX (K : PySem.W.Frag) : R2 := fun x y H Q => ∃ c, EqR K H x y c ∧ Q (.bl (!c)) H
theorem op_eqX {X : Cx} (hu : X.A.units + 64 < cLine) : OpR X (compareOp .Eq) (rEqX X.K) := fun pins s σ H x y v u Q I rx ry ⟨c, ⟨d, e, h1, h2, h3, h4, h5⟩, q⟩ =>
  op_eqD hu pins s σ H x y v u Q I rx ry ⟨d, e, h1, h2, h3, h4, h5 ▸ q⟩
theorem op_neX {X : Cx} (hu : X.A.units + 64 < cLine) : OpR X (compareOp .NotEq) (rNeX X.K) := fun pins s σ H x y v u Q I rx ry ⟨c, ⟨d, e, h1, h2, h3, h4, h5⟩, q⟩ =>
  op_neD hu pins s σ H x y v u Q I rx ry ⟨d, e, h1, h2, h3, h4, h5 ▸ q⟩
theorem eqT (h1 : H a = some (.tup vs)) (h2 : H b = some (.tup us)) (e1 : intsOf vs = some xs) (e2 : intsOf us = some ys) : EqR K H (.ref a) (.ref b) (decide (xs = ys)) := by
  have q1 := intsOf_map e1; have q2 := intsOf_map e2; subst q1 q2
  exact ⟨_, _, .tup (SqT.of h1) (dpInts xs), .tup (SqT.of h2) (dpInts ys), shInts _, shInts _, eqvT _ _⟩
theorem eqL (h1 : H a = some (.lst vs)) (h2 : H b = some (.lst us)) (e1 : intsOf vs = some xs) (e2 : intsOf us = some ys) : EqR K H (.ref a) (.ref b) (decide (xs = ys)) := by
  have q1 := intsOf_map e1; have q2 := intsOf_map e2; subst q1 q2
  exact ⟨_, _, .lst (SqL.of h1) (dpInts xs), .lst (SqL.of h2) (dpInts ys), shIntsL _, shIntsL _, eqvL _ _⟩
end
theorem sqL_new {K : PySem.W.Frag} {H : Hp} {a p : Addr} {o : HO} {xs : List V} (hp : H p = none) (h : SqL K H a xs) : SqL K (upd H p o) a xs := by
  rcases h with (h | ⟨o, h⟩) | h
  · exact .inl (.inl (get_new hp h))
  · exact .inl (.inr ⟨o, get_new hp h⟩)
  · exact .inr h
theorem cut63 {xs : List V} (h : xs.length ≤ 63) : cutV xs none (some 63) = xs := by
  unfold cutV
  rw [show HT.sIx xs.length xs.length (some 63) = min 63 xs.length from HT.sIx_nat xs.length xs.length 63, HT.sIx_none, List.drop_zero, Nat.sub_zero]
  exact List.take_of_length_le (by omega)
end Ew
namespace Ew
open PySem PySem.Spec PyProof.Rows L2
/-! == of whole numbers, of truths -/
theorem decV {i j : Int} : decide (V.int i = V.int j) = decide (i = j) := by
  by_cases h : i = j
  · subst h; simp
  · rw [decide_eq_false h, decide_eq_false fun e => h (V.int.inj e)]
theorem decB {i j : Bool} : decide (V.bl i = V.bl j) = decide (i = j) := by
  by_cases h : i = j
  · subst h; simp
  · rw [decide_eq_false h, decide_eq_false fun e => h (V.bl.inj e)]
section
variable {X : Cx}
theorem op_eqI : OpR X (compareOp .Eq) (fun x y H Q => ∃ i j, x = .int i ∧ y = .int j ∧ Q (.bl (decide (i = j))) H) := fun pins s σ H x y v u Q I rx ry ⟨i, j, h1, h2, q⟩ =>
  op_eq pins s σ H x y v u Q I rx ry ⟨by rw [h1, h2]; rfl, by rw [h1, h2, decV]; exact q⟩
theorem op_neI : OpR X (compareOp .NotEq) (fun x y H Q => ∃ i j, x = .int i ∧ y = .int j ∧ Q (.bl (!decide (i = j))) H) := fun pins s σ H x y v u Q I rx ry ⟨i, j, h1, h2, q⟩ =>
  op_ne pins s σ H x y v u Q I rx ry ⟨by rw [h1, h2]; rfl, by rw [h1, h2, decV]; exact q⟩
theorem op_eqB : OpR X (compareOp .Eq) (fun x y H Q => ∃ i j, x = .bl i ∧ y = .bl j ∧ Q (.bl (decide (i = j))) H) := fun pins s σ H x y v u Q I rx ry ⟨i, j, h1, h2, q⟩ =>
  op_eq pins s σ H x y v u Q I rx ry ⟨by rw [h1, h2]; rfl, by rw [h1, h2, decB]; exact q⟩
theorem op_neB : OpR X (compareOp .NotEq) (fun x y H Q => ∃ i j, x = .bl i ∧ y = .bl j ∧ Q (.bl (!decide (i = j))) H) := fun pins s σ H x y v u Q I rx ry ⟨i, j, h1, h2, q⟩ =>
  op_ne pins s σ H x y v u Q I rx ry ⟨by rw [h1, h2]; rfl, by rw [h1, h2, decB]; exact q⟩
end
end Ew
namespace Ew
open PySem PySem.Spec PyProof.Rows L2
theorem Qeq {Q : VK} {H : Hp} {v v' : V} (e : v = v') (k : Q v H) : Q v' H := e ▸ k
section
variable {K : PySem.W.Frag} {H : Hp} {R : Bool → Prop}
theorem ii_ii {a : Int} (k : R true) : ∃ (x' c : V) (t u : Value) (b : Bool), [V.int a, V.ty "int"] = [x', c] ∧ ClsV c u ∧ TyX K H x' t ∧ PySem.W.kitOne K t u = some b ∧ R b := iib (.int _) (kit_ty (by decide +kernel)) k
theorem ii_ib {a : Int} (k : R false) : ∃ (x' c : V) (t u : Value) (b : Bool), [V.int a, V.ty "bool"] = [x', c] ∧ ClsV c u ∧ TyX K H x' t ∧ PySem.W.kitOne K t u = some b ∧ R b := iib (.int _) (kit_ty (by decide +kernel)) k
theorem ii_it {a : Int} (k : R false) : ∃ (x' c : V) (t u : Value) (b : Bool), [V.int a, V.ty "tuple"] = [x', c] ∧ ClsV c u ∧ TyX K H x' t ∧ PySem.W.kitOne K t u = some b ∧ R b := iib (.int _) (kit_ty (by decide +kernel)) k
theorem ii_bb {a : Bool} (k : R true) : ∃ (x' c : V) (t u : Value) (b : Bool), [V.bl a, V.ty "bool"] = [x', c] ∧ ClsV c u ∧ TyX K H x' t ∧ PySem.W.kitOne K t u = some b ∧ R b := iib (.bl _) (kit_ty (by decide +kernel)) k
theorem ii_bi {a : Bool} (k : R true) : ∃ (x' c : V) (t u : Value) (b : Bool), [V.bl a, V.ty "int"] = [x', c] ∧ ClsV c u ∧ TyX K H x' t ∧ PySem.W.kitOne K t u = some b ∧ R b := iib (.bl _) (kit_ty (by decide +kernel)) k
theorem ii_tt {a : Addr} {xs : List V} (h : H a = some (.tup xs)) (k : R true) : ∃ (x' c : V) (t u : Value) (b : Bool), [V.ref a, V.ty "tuple"] = [x', c] ∧ ClsV c u ∧ TyX K H x' t ∧ PySem.W.kitOne K t u = some b ∧ R b := iib (.tup h) (kit_ty (by decide +kernel)) k
end
end Ew
namespace Ew
open PySem PySem.Spec PyProof.Rows L2
def rLen (K : PySem.W.Frag) : List V → Hp → VK → Prop := fun xs H Q => ∃ p ys, xs = [.ref p] ∧ (SqL K H p ys ∨ SqT K H p ys) ∧ Q (.int ys.length) H
theorem call_len {X : Cx} : CallR X (.builtin "len") (rLen X.K) := call_len_seq
def rTupleOf (K : PySem.W.Frag) : List V → Hp → VK → Prop := fun xs H Q => ∃ p ys, xs = [.ref p] ∧ ((SqL K H p ys ∧ ∀ l, H l = none → Q (.ref l) (upd H l (.tup ys))) ∨ (SqT K H p ys ∧ Q (.ref p) H))
theorem call_tuple {X : Cx} : CallR X (.type "tuple") (rTupleOf X.K) := call_tuple_of
end Ew
namespace Ew
open PySem PySem.Spec PyProof.Rows L2
/-- [a, b][int(test)] -/
theorem ixB {K : PySem.W.Frag} {H : Hp} {p : Addr} {a0 a1 : V} {b : Bool} {R : V → Prop} (h : SqL K H p [a0, a1]) (k0 : b = false → R a0) (k1 : b = true → R a1) :
    ∃ p' xs' i' v', V.ref p = .ref p' ∧ V.int (if b = true then 1 else 0) = .int i' ∧ SqL K H p' xs' ∧ atI xs' i' = some v' ∧ R v' := by
  cases b with
  | false => exact ⟨p, _, 0, a0, rfl, rfl, h, rfl, k0 rfl⟩
  | true => exact ⟨p, _, 1, a1, rfl, rfl, h, rfl, k1 rfl⟩
theorem inI {x : Int} {xs : List Int} : inV (.int x) (xs.map V.int) = decide (x ∈ xs) := by
  induction xs with
  | nil => rfl
  | cons y r ih =>
    have e : inV (.int x) ((y :: r).map V.int) = (eqV (.int y) (.int x) || inV (.int x) (r.map V.int)) := rfl
    rw [e, ih]
    have e2 : eqV (.int y) (.int x) = decide (y = x) := by
      show (y == x) = _
      by_cases h : y = x
      · simp [h]
      · simp [h]
    rw [e2]
    by_cases h : y = x
    · simp [h]
    · have h' : ¬ x = y := fun e => h e.symm
      simp [h, h']
end Ew
namespace Ew
abbrev ab (x : Int) : Int := if x < 0 then -x else x
end Ew
namespace Ew
open PySem PySem.Spec PyProof.Rows L2
def isImm : HO → Bool
  | .tup _ => true
  | _ => false
theorem Evo.getI {S : List Addr} {H H' : Hp} {a : Addr} {x : HO} (e : Evo S H H') (h : H a = some x) (hx : isImm x = true) : H' a = some x := by
  cases x with
  | tup xs => exact e.tup a xs h
  | _ => cases hx
theorem getI_mut {H : Hp} {a p : Addr} {o x : HO} {ys : List V} (hm : H p = some (.lst ys)) (h : H a = some x) (hx : isImm x = true) : upd H p o a = some x :=
  get_ne (ne_of h hm (by intro z; rw [z] at hx; cases hx)) h
theorem getI_mutD {H : Hp} {a p : Addr} {o x : HO} {kvs : List (Key × V)} (hm : H p = some (.dK kvs)) (h : H a = some x) (hx : isImm x = true) : upd H p o a = some x :=
  get_ne (ne_of h hm (by intro z; rw [z] at hx; cases hx)) h
end Ew
namespace Ew
open PySem PySem.Spec PyProof.Rows L2
/-! lists of rows of whole numbers -/
inductive RowsAt (H : Hp) : List V → List (List Int) → Prop
  | nil : RowsAt H [] []
  | cons {a : Addr} {vs : List V} {r : List Int} {rs : List (List Int)} : H a = some (.tup (r.map V.int)) → RowsAt H vs rs → RowsAt H (.ref a :: vs) (r :: rs)
theorem RowsAt.mono {H H' : Hp} (f : ∀ a xs, H a = some (.tup xs) → H' a = some (.tup xs)) : ∀ {vs : List V} {rs : List (List Int)}, RowsAt H vs rs → RowsAt H' vs rs
  | _, _, .nil => .nil
  | _, _, .cons h t => .cons (f _ _ h) (RowsAt.mono f t)
theorem RowsAt.evo {S : List Addr} {H H' : Hp} {vs : List V} {rs : List (List Int)} (e : Evo S H H') (h : RowsAt H vs rs) : RowsAt H' vs rs := h.mono e.tup
theorem RowsAt.new {H : Hp} {p : Addr} {o : HO} {vs : List V} {rs : List (List Int)} (h : RowsAt H vs rs) (hp : H p = none) : RowsAt (upd H p o) vs rs := h.mono fun _ _ q => get_new hp q
theorem RowsAt.mut {H : Hp} {p : Addr} {o : HO} {ys vs : List V} {rs : List (List Int)} (h : RowsAt H vs rs) (hp : H p = some (.lst ys)) : RowsAt (upd H p o) vs rs := h.mono fun _ _ q => tup_mut hp q
theorem RowsAt.length {H : Hp} : ∀ {vs : List V} {rs : List (List Int)}, RowsAt H vs rs → vs.length = rs.length
  | _, _, .nil => rfl
  | _, _, .cons _ t => congrArg Nat.succ (RowsAt.length t)
theorem RowsAt.snoc {H : Hp} {a : Addr} {r : List Int} (h : H a = some (.tup (r.map V.int))) : ∀ {vs : List V} {rs : List (List Int)}, RowsAt H vs rs → RowsAt H (vs ++ [.ref a]) (rs ++ [r])
  | _, _, .nil => .cons h .nil
  | _, _, .cons q t => .cons q (RowsAt.snoc h t)
theorem RowsAt.get {H : Hp} : ∀ {vs : List V} {rs : List (List Int)} {i : Nat} {r : List Int}, RowsAt H vs rs → rs[i]? = some r → ∃ a, vs[i]? = some (.ref a) ∧ H a = some (.tup (r.map V.int))
  | _, _, _, _, .nil, e => by cases e
  | _, _, 0, _, .cons q _, e => by cases e; exact ⟨_, rfl, q⟩
  | _, _, i + 1, _, .cons _ t, e => RowsAt.get (i := i) t e
theorem RowsAt.dp {K : PySem.W.Frag} {H : Hp} : ∀ {vs : List V} {rs : List (List Int)}, RowsAt H vs rs → DpAll K H vs (rs.map fun r => .tuple (r.map PyData.int))
  | _, _, .nil => .nil
  | _, _, .cons h t => .cons (.tup (SqT.of h) (dpInts _)) (RowsAt.dp t)
theorem canRows : ∀ rs : List (List Int), PyData.canLayAll0 (rs.map fun r => .tuple (r.map PyData.int)) = true
  | [] => by simp [PyData.canLayAll0]
  | r :: q => by
    show PyData.canLayAll0 (PyData.tuple (r.map PyData.int) :: q.map fun r => .tuple (r.map PyData.int)) = true
    have h := canRows q
    simp only [PyData.canLayAll0, PyData.canLay0, canInts r, h]
    rfl
theorem depRows : ∀ rs : List (List Int), PyData.depthAll (rs.map fun r => .tuple (r.map PyData.int)) ≤ 2
  | [] => by simp [PyData.depthAll]
  | r :: q => by
    show PyData.depthAll (PyData.tuple (r.map PyData.int) :: q.map fun r => .tuple (r.map PyData.int)) ≤ 2
    have h := depRows q
    have h2 := depInts r
    simp only [PyData.depthAll, PyData.depth]
    omega
theorem shRows (rs : List (List Int)) : SeqAt.shaped (.list (rs.map fun r => .tuple (r.map PyData.int))) = true := by
  have h := depRows rs
  have h2 := canRows rs
  simp [SeqAt.shaped, PyData.canLay0, h2, PyData.depth]
  omega
theorem shRowsT (rs : List (List Int)) : SeqAt.shaped (.tuple (rs.map fun r => .tuple (r.map PyData.int))) = true := by
  have h := depRows rs
  have h2 := canRows rs
  simp [SeqAt.shaped, PyData.canLay0, h2, PyData.depth]
  omega
theorem eqNil {K : PySem.W.Frag} {H : Hp} {l e : Addr} {vs : List V} {rs : List (List Int)} (h : H l = some (.lst vs)) (hr : RowsAt H vs rs) (he : H e = some (.lst [])) : EqR K H (.ref l) (.ref e) (decide (rs = [])) := by
  refine ⟨_, _, .lst (SqL.of h) hr.dp, .lst (SqL.of he) .nil, shRows rs, shRows [], ?_⟩
  cases rs with
  | nil => simp [PyData.eqv, PyData.eqvAll]
  | cons r q => simp [PyData.eqv, PyData.eqvAll]
end Ew
namespace Ew
open PySem PySem.Spec PyProof.Rows L2
theorem RowsAt.last {H : Hp} : ∀ {vs : List V} {rs : List (List Int)}, RowsAt H vs rs → rs ≠ [] → ∃ vs' q rs' r, vs = vs' ++ [.ref q] ∧ rs = rs' ++ [r] ∧ H q = some (.tup (r.map V.int))
  | _, _, .nil, h => absurd rfl h
  | _, _, @RowsAt.cons _ a vs r rs h t, _ => by
    cases rs with
    | nil =>
      cases t
      exact ⟨[], a, [], r, rfl, rfl, h⟩
    | cons r1 rs1 =>
      obtain ⟨vs', q, rs', r', e1, e2, hq⟩ := RowsAt.last t (by intro z; cases z)
      exact ⟨.ref a :: vs', q, r :: rs', r', by rw [e1]; rfl, by rw [e2]; rfl, hq⟩
end Ew

namespace Ew
open PySem PySem.Spec PyProof.Rows L2
section
variable {prog : Program} {w : World} {A : Around} {E : Value → Shared → Prop} {s : Shared}
theorem applied_rev {sl : Addr} {tk : Tok} {Q : Int × Int × Nat → Shared → Prop} (hs : s.heap.IsSliceOf sl .none .none (.int (-1) tk))
    (h : Q (1, -1, 2) s) : wpAny (model prog w) A (Builtin.Slice.sliceApplied (.ref sl) (pure ((2 : Nat) : Int))) Q E s := by
  obtain ⟨os, hos, hcs, hds⟩ := id hs
  unfold Builtin.Slice.sliceApplied Builtin.Slice.sliceFields
  refine wpAny_bind (wpAny_bind (wpAny_field hos hds (x := .none) rfl (wpAny_bind (wpAny_field hos hds (x := .none) rfl (wpAny_bind (wpAny_field hos hds (x := .int (-1) tk) rfl (wpAny_pure ?_)))))))
  refine wpAny_bind (HT.slicePart_ (.int (-1) tk) ?_)
  show wpAny _ _ (if ((-1 : Int) == 0) = true then _ else _) _ _ s
  rw [if_neg (by decide)]
  refine wpAny_bind (HT.slicePart_ .none (wpAny_bind (HT.slicePart_ .none (wpAny_bind (wpAny_pure ?_)))))
  exact wpAny_pure h
theorem getItem_rev2 {t sl : Addr} {x y : Value} {tk : Tok} {Q : Value → Shared → Prop} (ht : IsTup s.heap t #[x, y]) (hs : s.heap.IsSliceOf sl .none .none (.int (-1) tk))
    (h : Q (.ref s.heap.objs.size) { s with heap := s.heap.push { cls := .type "tuple", data := .seq #[y, x] } }) : wpAny (model prog w) A (getItem (.ref t) (.ref sl)) Q E s := by
  have htake : sizeOk (.seq #[y, x]) := by
    show 2 ≤ sizeLine
    decide
  obtain ⟨os, hos, hcs, hds⟩ := id hs
  have hTs : s.TypeIs (.ref sl) "slice" := ⟨os, hos, hcs⟩
  unfold getItem
  try with_reducible refine wpAny_holding ?_
  first | refine wpAny_bind (wpAny_pure ?_) | skip
  refine wpAny_bind (wpAny_sequenceKey ht.typeIs (by decide) ?_)
  refine wpAny_bind (wpAny_callSpecial?_slot (name := Str.ofString "__getitem__") ht.typeIs PyProof.Rows.slot_tuple_getitem
    (wpAny_call_entry PyProof.Rows.slot_tuple_getitem ht.typeIs entry_tuple_getitem ?_ (args_tuple_getitem _ _)))
  show wpAny _ _ (Builtin.Tuple.tupleItemsOf (.ref t) >>= _) _ _ s
  refine wpAny_bind (tupleItemsOf_ ht ?_)
  refine wpAny_bind (wpAny_typeOf hTs ?_)
  rw [if_pos (by decide)]
  refine wpAny_bind (applied_rev hs ?_)
  show wpAny _ _ (if (((1 : Int) == 0) && ((-1 : Int) == 1) && ((2 : Nat) == 2)) = true then _ else _) _ _ s
  rw [if_neg (by decide)]
  first
    | exact wpAny_bind (m := Builtin.Tuple.tupleExact _) (wpAny_newObj_type (wpAny_pure ⟨_, rfl, wpAny_pure h⟩) htake)
    | exact wpAny_bind (m := Builtin.Tuple.tupleExact _) (wpAny_newObj_type (wpAny_bind (wpAny_pure (wpAny_pure ⟨_, rfl, wpAny_pure h⟩))) htake)
    | exact wpAny_bind (wpAny_bind (m := Builtin.Tuple.tupleExact _) (wpAny_newObj_type (wpAny_pure (wpAny_pure ⟨_, rfl, wpAny_pure h⟩)) htake))
end
/-- t[::-1] of a pair -/
def tRevT (K : PySem.W.Frag) (te : TE) : TE := fun σ H Q => te σ H fun v H1 => ∃ a x y, v = .ref a ∧ SqT K H1 a [x, y] ∧ ∀ p, H1 p = none → Q (.ref p) (upd H1 p (.tup [y, x]))
theorem pe_revT {X : Cx} {e : Expr} {te : TE} {k : Nat} {p1 p2 p3 pos : Pos} (he : PE X e te) : PE X (.Subscript e (.Slice none none (some (.UnaryOp .USub (.Constant (.int 1) k p1) p2)) p3) pos) (tRevT X.K te) := by
  refine ⟨fun pins s σ H Q I h => ?_⟩
  refine Subscript_ (thn (he.run pins s σ H _ I h) fun v s1 ⟨x, H1, I1, r1, q1⟩ => ?_)
  obtain ⟨a, x0, x1, ex, hx, q⟩ := q1
  subst ex
  cases r1
  have hst : PO X (some (.UnaryOp .USub (.Constant (.int 1) k p1) p2)) (tPart (tUn (rU fun i => .int (-i)) (tC (.int 1)))) := po_some (pe_un un_neg pe_int)
  refine wpAny_Slice (thn (po_none.run pins s1 σ H1 (fun o H2 => o = none ∧ H2 = H1) I1 ⟨rfl, rfl⟩) fun vl s2 ⟨l, H2, I2, pl, el, e2⟩ => ?_)
  subst el e2
  refine thn (po_none.run pins s2 σ H2 (fun o H3 => o = none ∧ H3 = H2) I2 ⟨rfl, rfl⟩) fun vu s3 ⟨u, H3, I3, pu, eu, e3⟩ => ?_
  subst eu e3
  refine thn (hst.run pins s3 σ H3 (fun o H4 => o = some (-1) ∧ H4 = H3) I3 ⟨1, rfl, -1, rfl, rfl, rfl⟩) fun vs s4 ⟨o, H4, I4, ps, eo, e4⟩ => ?_
  subst eo e4
  cases pl
  cases pu
  cases ps with
  | int _ tk =>
    have I5 : Inv X pins σ H4 { s4 with heap := s4.heap.push { cls := .type "slice", data := .fields #[.none, .none, .int (-1) tk] } } := I4.kept (t' := s4.toks) fun b ob q => Heap.get?_push_of_some _ q
    obtain ⟨its, r, ht, hz⟩ := I5.tuple hx
    cases r with
    | cons r0 r' =>
      cases r' with
      | cons r1 r'' =>
        cases r''
        show wpAny (model X.prog X.w) X.A (subscriptTail e (.Slice none none (some (.UnaryOp .USub (.Constant (.int 1) k p1) p2)) p3) (.ref a) (.ref s4.heap.objs.size)) (EP X pins σ Q) X.xe { s4 with heap := s4.heap.push { cls := .type "slice", data := .fields #[.none, .none, .int (-1) tk] } }
        refine tail_any (ops := [.ref a, .ref s4.heap.objs.size]) ht.typeIs (PyProof.Rows.slot_tuple_getitem.lookup) ?_ (by with_unfolding_all rfl)
        refine getItem_rev2 ht (Heap.IsSliceOf.new _ .none .none (.int (-1) tk)) ?_
        exact ⟨.ref _, _, I5.laid (t' := s4.toks) (o := .tup [x1, x0]) (fun b ob q => Heap.get?_push_of_some _ q) (Nat.le_refl _) ⟨by show 2 ≤ sizeLine; decide, _, .cons r1 (.cons r0 .nil), IsTup.new _ _⟩, rfl, q _ (I5.hok.fresh (Nat.le_refl _))⟩
end Ew

namespace Ew
open PySem PySem.Spec PyProof.Rows L2
section
def topS (i : Nat) : Stmt := PySem.Challenge.pw_evenwires_k03_steps_along_streets.main.body.getD i (.Pass ⟨0, 0, 0, 0⟩)
abbrev s_steps : Stmt := topS 1
abbrev N_steps : List Str := ["one", "other"]
theorem sc_steps : FnScope N_steps ["one", "other"] (defScope s_steps) := ⟨rfl, rfl, rfl, by decide +kernel, rfl, by decide +kernel, by decide +kernel⟩
abbrev s__law_deck : Stmt := topS 3
abbrev N__law_deck : List Str := ["_law_script"]
theorem sc__law_deck : FnScope N__law_deck ["_law_script"] (defScope s__law_deck) := ⟨rfl, rfl, rfl, by decide +kernel, rfl, by decide +kernel, by decide +kernel⟩
abbrev s__law_draw : Stmt := topS 4
abbrev N__law_draw : List Str := ["_law_deck_here", "_law_most", "_law_found", "_law_cell", "_law_seed"]
theorem sc__law_draw : FnScope N__law_draw ["_law_deck_here", "_law_most"] (defScope s__law_draw) := ⟨rfl, rfl, rfl, by decide +kernel, rfl, by decide +kernel, by decide +kernel⟩
abbrev s__law_number : Stmt := topS 5
abbrev N__law_number : List Str := ["_law_deck_here", "_law_way"]
theorem sc__law_number : FnScope N__law_number ["_law_deck_here", "_law_way"] (defScope s__law_number) := ⟨rfl, rfl, rfl, by decide +kernel, rfl, by decide +kernel, by decide +kernel⟩
abbrev s__law_apart : Stmt := topS 6
abbrev N__law_apart : List Str := ["_law_one", "_law_other"]
theorem sc__law_apart : FnScope N__law_apart ["_law_one", "_law_other"] (defScope s__law_apart) := ⟨rfl, rfl, rfl, by decide +kernel, rfl, by decide +kernel, by decide +kernel⟩
abbrev s__law_is : Stmt := topS 7
abbrev N__law_is : List Str := ["_law_found", "_law_due"]
theorem sc__law_is : FnScope N__law_is ["_law_found", "_law_due"] (defScope s__law_is) := ⟨rfl, rfl, rfl, by decide +kernel, rfl, by decide +kernel, by decide +kernel⟩
abbrev s__law_moved : Stmt := topS 8
abbrev N__law_moved : List Str := ["_law_deck_here", "_law_one", "_law_other", "_law_found", "_law_k", "_law_room", "_law_place"]
theorem sc__law_moved : FnScope N__law_moved ["_law_deck_here", "_law_one", "_law_other"] (defScope s__law_moved) := ⟨rfl, rfl, rfl, by decide +kernel, rfl, by decide +kernel, by decide +kernel⟩
abbrev s__law_right : Stmt := topS 9
abbrev N__law_right : List Str := ["_law_deck_here", "_law_one", "_law_other", "_law_third", "_law_due", "_law_here", "_law_there", "_law_side", "_law_moved_here", "_law_told"]
theorem sc__law_right : FnScope N__law_right ["_law_deck_here", "_law_one", "_law_other", "_law_third"] (defScope s__law_right) := ⟨rfl, rfl, rfl, by decide +kernel, rfl, by decide +kernel, by decide +kernel⟩
abbrev s_law : Stmt := topS 10
abbrev N_law : List Str := ["_law_script", "_law_deck_here", "_law_k", "_law_way", "_law_places", "_law_turn", "_law_again", "_law_place"]
theorem sc_law : FnScope N_law ["_law_script"] (defScope s_law) := ⟨rfl, rfl, rfl, by decide +kernel, rfl, by decide +kernel, by decide +kernel⟩
/-- what the top has left: the defs, and the built-ins that are not bound anew -/
structure Tx (K : PySem.W.Frag) (mg : Str → Option Value) where
  a_steps : Addr
  d_steps : FuncData
  F_steps : Fun K "steps" "steps" s_steps a_steps d_steps
  b_steps : Binds K d_steps ["one", "other"] []
  g_steps : mg "steps" = some (.ref a_steps)
  a__law_deck : Addr
  d__law_deck : FuncData
  F__law_deck : Fun K "_law_deck" "_law_deck" s__law_deck a__law_deck d__law_deck
  b__law_deck : Binds K d__law_deck ["_law_script"] []
  g__law_deck : mg "_law_deck" = some (.ref a__law_deck)
  a__law_draw : Addr
  d__law_draw : FuncData
  F__law_draw : Fun K "_law_draw" "_law_draw" s__law_draw a__law_draw d__law_draw
  b__law_draw : Binds K d__law_draw ["_law_deck_here", "_law_most"] []
  g__law_draw : mg "_law_draw" = some (.ref a__law_draw)
  a__law_number : Addr
  d__law_number : FuncData
  F__law_number : Fun K "_law_number" "_law_number" s__law_number a__law_number d__law_number
  b__law_number : Binds K d__law_number ["_law_deck_here", "_law_way"] []
  g__law_number : mg "_law_number" = some (.ref a__law_number)
  a__law_apart : Addr
  d__law_apart : FuncData
  F__law_apart : Fun K "_law_apart" "_law_apart" s__law_apart a__law_apart d__law_apart
  b__law_apart : Binds K d__law_apart ["_law_one", "_law_other"] []
  g__law_apart : mg "_law_apart" = some (.ref a__law_apart)
  a__law_is : Addr
  d__law_is : FuncData
  F__law_is : Fun K "_law_is" "_law_is" s__law_is a__law_is d__law_is
  b__law_is : Binds K d__law_is ["_law_found", "_law_due"] []
  g__law_is : mg "_law_is" = some (.ref a__law_is)
  a__law_moved : Addr
  d__law_moved : FuncData
  F__law_moved : Fun K "_law_moved" "_law_moved" s__law_moved a__law_moved d__law_moved
  b__law_moved : Binds K d__law_moved ["_law_deck_here", "_law_one", "_law_other"] []
  g__law_moved : mg "_law_moved" = some (.ref a__law_moved)
  a__law_right : Addr
  d__law_right : FuncData
  F__law_right : Fun K "_law_right" "_law_right" s__law_right a__law_right d__law_right
  b__law_right : Binds K d__law_right ["_law_deck_here", "_law_one", "_law_other", "_law_third"] []
  g__law_right : mg "_law_right" = some (.ref a__law_right)
  a_law : Addr
  d_law : FuncData
  F_law : Fun K "law" "law" s_law a_law d_law
  b_law : Binds K d_law ["_law_script"] []
  g_law : mg "law" = some (.ref a_law)
  n_abs : mg "abs" = none
  n_sum : mg "sum" = none
  n_list : mg "list" = none
  n_max : mg "max" = none
  n_min : mg "min" = none
  n_isinstance : mg "isinstance" = none
  n_bool : mg "bool" = none
  n_int : mg "int" = none
  n_range : mg "range" = none
local macro_rules | `(tactic| walk_at "ewc") => `(tactic| first
  | (show (0 : Int) < _; omega)
  | (show (0 : Int) < _; decide)
  | (refine ⟨?_, ?_⟩ <;> omega)
  | exact Or.inl ⟨by omega, by omega⟩
  | exact Or.inr ⟨by omega, by omega⟩)
def dkv (c : Addr) (L s n : Int) : List (Key × V) := [(.inr "cells", .ref c), (.inr "left", .int L), (.inr "seed", .int s), (.inr "count", .int n)]
theorem dkv_pl {c : Addr} {L s n L' : Int} : putK (dkv c L s n) (.inr "left") (.int L') = dkv c L' s n := rfl
theorem dkv_ps {c : Addr} {L s n L' : Int} : putK (dkv c L s n) (.inr "seed") (.int L') = dkv c L L' n := rfl
theorem dkv_pn {c : Addr} {L s n L' : Int} : putK (dkv c L s n) (.inr "count") (.int L') = dkv c L s L' := rfl
/-- a deck stands at dk, its cells at c -/
structure Deck (H : Hp) (dk c : Addr) : Prop where
  ex : ∃ (L s n : Int) (cs : List Int), H dk = some (.dK (dkv c L s n)) ∧ H c = some (.lst (cs.map V.int)) ∧ 0 ≤ s ∧ s < 4294967296
theorem Deck.new {H : Hp} {dk c p : Addr} {o : HO} (h : Deck H dk c) (hp : H p = none) : Deck (upd H p o) dk c := by
  obtain ⟨L, s, n, cs, h1, h2, h3⟩ := h
  exact ⟨L, s, n, cs, get_new hp h1, get_new hp h2, h3⟩
theorem Deck.mut {H : Hp} {dk c p : Addr} {o : HO} (h : Deck H dk c) (hp : p ∉ [dk, c]) : Deck (upd H p o) dk c := by
  obtain ⟨L, s, n, cs, h1, h2, h3⟩ := h
  exact ⟨L, s, n, cs, get_ne (fun e => hp (e ▸ List.mem_cons_self)) h1, get_ne (fun e => hp (e ▸ List.mem_cons_of_mem _ List.mem_cons_self)) h2, h3⟩
theorem Deck.off' {H : Hp} {dk c p : Addr} (hp : H p = none) (h : Deck H dk c) : p ∉ [dk, c] := by
  obtain ⟨L, s, n, cs, h1, h2, h3⟩ := h
  intro m
  rcases List.mem_cons.mp m with e | m
  · rw [e, h1] at hp; cases hp
  · rcases List.mem_cons.mp m with e | m
    · rw [e, h2] at hp; cases hp
    · cases m
theorem Deck.off {H : Hp} {dk c p : Addr} (h : Deck H dk c) (hp : H p = none) : p ∉ [dk, c] := Deck.off' hp h
section
variable {P : Program} {w : World} {K : PySem.W.Frag} {mg : Str → Option Value} {base : Heap}
inductive sp__law_deck (K : PySem.W.Frag) : List V → Hp → VK → XK → Prop
  | mk {H : Hp} {Q : VK} {E : XK} {a : Addr} {ns : List Int} (hS : SqL K H a (ns.map V.int)) (hn : ns.length ≤ 63) (k : ∀ H' dk c, Deck H' dk c → H dk = none → H c = none → Evo [] H H' → Q (.ref dk) H') : sp__law_deck K [.ref a] H Q E
theorem ok__law_deck (T : Tx K mg) : FnOk P w K mg base CX0 1 T.a__law_deck T.d__law_deck ["_law_script"] (sp__law_deck K) := by
  refine T.F__law_deck.ok sc__law_deck (fun vs H Q E h => ?_) (fun cdv A outer s H vs Q E hr h => ?_)
  · cases h
    rfl
  · obtain @⟨_, _, _, a, ns, hS, hn, k⟩ := h
    have hlen : (ns.map V.int).length ≤ 63 := by rw [List.length_map]; exact hn
    refine ⟨_, (pss_one (ps_ret (pe_disp (pps_cons pe_str (pe_callTy call_list_of (by rfl) T.n_list (by decide +kernel) (pa_cons (pe_slice (r := rSlL K) sl_list (pv 0) po_none (po_some pe_int)) pa_nil)) (pps_cons pe_str pe_int (pps_cons pe_str (pe_op op_add pe_int (pe_op op_mod (pe_callB (cr_sum rfl) (by rfl) T.n_sum (by decide +kernel) (pa_cons (pe_slice (r := rSlL K) sl_list (pv 0) po_none (po_some pe_int)) pa_nil)) pe_int)) (pps_cons pe_str pe_int pps_nil)))) (by rfl) (by rfl) (fun z => by cases z) (by decide)))), ?_⟩
    intro dk hdk
    -- list(script[:63])
    refine ⟨_, rfl, _, rfl, _, _, rfl, sqL_new hdk hS, fun q hq => ?_⟩
    rw [cut63 hlen]
    refine ⟨_, _, rfl, .inl (SqL.of upd_same), fun c hc => ?_⟩
    -- sum
    refine ⟨_, rfl, _, rfl, _, _, rfl, sqL_new hc (sqL_new hq (sqL_new hdk hS)), fun r hr' => ?_⟩
    rw [cut63 hlen]
    refine ⟨_, ns, rfl, SqL.of upd_same, ?_⟩
    refine ⟨_, _, rfl, rfl, by walk_at "ewc", ?_⟩
    refine ⟨_, _, rfl, rfl, ?_⟩
    have hq' := hq
    have g1 : H q = none := by
      have := hq'; unfold upd at this
      by_cases e : q = dk
      · rw [if_pos e] at this; cases this
      · rw [if_neg e] at this; exact this
    have e0 : Evo [] H (upd H dk (.dK [])) := (Evo.refl [] H).new hdk
    have e1 := e0.new (o := .lst (ns.map V.int)) hq
    have e2 := e1.new (o := .lst (ns.map V.int)) hc
    have e3 := e2.new (o := .lst (ns.map V.int)) hr'
    refine ⟨get_new hr' (get_new hc (get_new hq upd_same)), [(.inr "cells", .ref c), (.inr "left", .int 0), (.inr "seed", .int (48271 + ns.sum % 2147483629)), (.inr "count", .int 0)], rfl, by show 4 ≤ 15; decide, ?_⟩
    have ncd : c ≠ dk := fun e => by rw [e, get_new hq upd_same] at hc; cases hc
    refine k _ dk c ⟨0, 48271 + ns.sum % 2147483629, 0, ns, upd_same, get_ne ncd (get_new hr' upd_same), ?_, ?_⟩ hdk (e1.fresh hc) (e3.mut hdk)
    · omega
    · omega
inductive sp__law_draw : List V → Hp → VK → XK → Prop
  | mk {H : Hp} {Q : VK} {E : XK} {dk c : Addr} {m : Int} (hD : Deck H dk c) (m0 : 0 < m) (m1 : m < 1073741824) (k : ∀ H' r, 0 ≤ r → r < m → Deck H' dk c → Evo [dk, c] H H' → Q (.int r) H') : sp__law_draw [.ref dk, .int m] H Q E
theorem mulU {x y a b : Int} (h0 : 0 ≤ x) (h1 : x ≤ a) (h2 : 0 ≤ y) (h3 : y ≤ b) : 0 ≤ x * y ∧ x * y ≤ a * b := ⟨Int.mul_nonneg h0 h2, Int.mul_le_mul h1 h3 h2 (Int.le_trans h0 h1)⟩
theorem ok__law_draw (T : Tx K mg) : FnOk P w K mg base CX0 1 T.a__law_draw T.d__law_draw ["_law_deck_here", "_law_most"] sp__law_draw := by
  refine T.F__law_draw.ok sc__law_draw (fun vs H Q E h => ?_) (fun cdv A outer s H vs Q E hr h => ?_)
  · cases h
    rfl
  · obtain @⟨_, _, _, dk, c, m, ⟨L, s, n, cs, hd, hc, hs0, hs1⟩, m0, m1, k⟩ := h
    have hu := hu_of hr
    have ncd : c ≠ dk := ne_of hc hd (by intro z; cases z)
    have hmd : ∀ ys, H dk ≠ some (.tup ys) := fun ys e => by rw [hd] at e; cases e
    have hfd : ∀ u v, H dk ≠ some (.frz u v) := fun ys _ e => by rw [hd] at e; cases e
    have hmc : ∀ ys, H c ≠ some (.tup ys) := fun ys e => by rw [hc] at e; cases e
    have hfc : ∀ u v, H c ≠ some (.frz u v) := fun ys _ e => by rw [hc] at e; cases e
    have i1 : dk ∈ [dk, c] := List.mem_cons_self
    have i2 : c ∈ [dk, c] := List.mem_cons_of_mem _ List.mem_cons_self
    refine ⟨_, (pss_cons (ps_if (pt_cmpR op_gt (pe_dget hu (pv 0) pe_str (fun _ _ => rfl)) pe_int (nomark _)) (pss_cons (ps_set (i := 2) sc__law_draw.nd rfl (Or.inl rfl) (pe_op op_mod (pe_dget hu (pv 0) pe_str (fun _ _ => rfl)) (pv 1)))
      (pss_cons (ps_dput hu (pv 0) pe_str (pe_op op_fdiv (pe_dget hu (pv 0) pe_str (fun _ _ => rfl)) (pv 1)) rfl)
      (pss_one (ps_ret (pv 2))))) pss_nil)
      (pss_cons (ps_set (i := 3) sc__law_draw.nd rfl (Or.inl rfl) pe_int)
      (pss_cons (ps_dput hu (pv 0) pe_str (pe_op op_add (pe_dget hu (pv 0) pe_str (fun _ _ => rfl)) pe_int) rfl)
      (pss_cons (ps_if (pt_cmpR (r := Ew.rNeX K) (Ew.op_neX hr.units) (pe_dget hu (pv 0) pe_str (fun _ _ => rfl)) (pe_lst pa_nil) (nomark _)) (pss_one (ps_set (i := 3) sc__law_draw.nd rfl (Or.inl rfl) (pe_bm PySem.F.plainAttrs_list PySem.F.slot_list_pop PySem.F.type_list_pop mt_popAt (pe_dget hu (pv 0) pe_str (fun _ _ => rfl)) (pa_cons pe_int pa_nil)))) pss_nil)
      (pss_cons (ps_if (pt_cmpR op_ge (pv 3) (pe_op (Ew.op_powC 10 18 1000000000000000000) pe_int pe_int) (nomark _)) (pss_cons (ps_dput hu (pv 0) pe_str (pe_op op_fdiv (pv 3) (pv 1)) rfl)
      (pss_one (ps_ret (pe_op op_mod (pv 3) (pv 1))))) pss_nil)
      (pss_cons (ps_set (i := 4) sc__law_draw.nd rfl (Or.inl rfl) (pe_op op_add (pe_op op_mul (pe_dget hu (pv 0) pe_str (fun _ _ => rfl)) pe_int) (pe_op op_mul (pe_op op_mod (pv 3) pe_int) pe_int)))
      (pss_cons (ps_set (i := 4) sc__law_draw.nd rfl (Or.inl rfl) (pe_op op_mod (pe_op op_add (pv 4) (pe_op op_mul pe_int (pe_dget hu (pv 0) pe_str (fun _ _ => rfl)))) pe_int))
      (pss_cons (ps_dput hu (pv 0) pe_str (pe_op op_mod (pe_op op_mul (pv 4) (pe_op op_add (pe_op op_fdiv (pv 4) pe_int) pe_int)) pe_int) rfl)
      (pss_one (ps_ret (pe_op op_mod (pe_op op_fdiv (pe_op op_mod (pe_op op_add (pe_op op_mul (pe_dget hu (pv 0) pe_str (fun _ _ => rfl)) pe_int) (pe_dget hu (pv 0) pe_str (fun _ _ => rfl))) pe_int) pe_int) (pv 1)))))))))))), ?_⟩
    refine ⟨_, rfl, dgetE hd rfl ⟨_, _, rfl, rfl, _, rfl, iteD (fun hL => ?_) (fun hL => ?_)⟩⟩
    · refine ⟨_, rfl, dgetE hd rfl ⟨_, rfl, ⟨_, _, rfl, rfl, by walk_at "ewc", ?_⟩⟩⟩
      refine ⟨_, rfl, dgetE hd rfl ⟨_, rfl, ⟨_, _, rfl, rfl, by walk_at "ewc", ?_⟩⟩⟩
      refine ⟨_, rfl, dputE hd dkv_pl ?_ (by show 4 ≤ 1000; decide)⟩
      refine ⟨_, rfl, ?_⟩
      refine k _ _ (Int.emod_nonneg _ (by omega)) (Int.emod_lt_of_pos _ m0) ⟨_, _, _, _, upd_same, get_ne ncd hc, hs0, hs1⟩ ((Evo.refl _ H).set i1 hmd hfd)
    · refine ⟨_, rfl, dgetE hd rfl ⟨_, _, rfl, rfl, ?_⟩⟩
      refine ⟨_, rfl, dputE hd dkv_pn ?_ (by show 4 ≤ 1000; decide)⟩
      have E1 : Evo [dk, c] H (upd H dk (.dK (dkv c L s (n + 1)))) := (Evo.refl _ H).set i1 hmd hfd
      have hc1 : upd H dk (.dK (dkv c L s (n + 1))) c = some (.lst (cs.map V.int)) := get_ne ncd hc
      refine ⟨_, rfl, dgetE upd_same rfl ⟨sz (by decide), fun p hp => ?_⟩⟩
      have E2 := E1.new (o := .lst []) hp
      have hd2 : upd (upd H dk (.dK (dkv c L s (n + 1)))) p (.lst []) dk = some (.dK (dkv c L s (n + 1))) := get_new hp upd_same
      have hc2 : upd (upd H dk (.dK (dkv c L s (n + 1)))) p (.lst []) c = some (.lst (cs.map V.int)) := get_new hp hc1
      refine ⟨_, eqL hc2 upd_same (intsOf_of cs) (xs := cs) (ys := []) rfl, ?_⟩
      refine ⟨_, rfl, iteN (fun hne => ?_) (fun he => ?_)⟩
      · obtain ⟨z, cs', rfl⟩ : ∃ z cs', cs = z :: cs' := by
          cases cs with
          | nil => exact absurd rfl hne
          | cons z cs' => exact ⟨z, cs', rfl⟩
        refine ⟨_, rfl, dgetE hd2 rfl ⟨.inl ⟨rfl, _, SqL.of hc2⟩, ?_⟩⟩
        refine ⟨c, _, 0, 0, .int z, rfl, rfl, hc2, by decide, by decide, ?_, rfl, ?_⟩
        · show (if 0 ≤ (0 : Int) && (0 : Int) < ((cs'.map V.int).length + 1 : Nat) then some 0 else none) = some 0
          rw [if_pos (by simp)]
        have hd3 := get_ne (o := .lst (cs'.map V.int)) ncd.symm hd2
        have hc3 : upd (upd (upd H dk (.dK (dkv c L s (n + 1)))) p (.lst [])) c (.lst (cs'.map V.int)) c = some (.lst (cs'.map V.int)) := upd_same
        have E3 := E2.set (o := .lst (cs'.map V.int)) i2 hmc hfc
        -- if cell >= 10 ** 18
        refine ⟨_, rfl, rfl, rfl, _, _, rfl, rfl, _, rfl, iteD (fun hz => ?_) (fun hz => ?_)⟩
        · refine ⟨_, rfl, _, rfl, ⟨_, _, rfl, rfl, by walk_at "ewc", ?_⟩⟩
          refine ⟨_, rfl, dputE hd3 dkv_pl ?_ (by show 4 ≤ 1000; decide)⟩
          refine ⟨_, rfl, _, rfl, ⟨_, _, rfl, rfl, by walk_at "ewc", ?_⟩⟩
          exact k _ _ (Int.emod_nonneg _ (by omega)) (Int.emod_lt_of_pos _ m0) ⟨_, _, _, _, upd_same, get_ne ncd hc3, hs0, hs1⟩ (E3.set i1 hmd hfd)
        · refine ⟨_, rfl, dgetE hd3 rfl ⟨_, _, rfl, rfl, by walk_at "ewc", ?_⟩⟩
          refine ⟨_, rfl, ⟨_, _, rfl, rfl, by walk_at "ewc", ⟨_, _, rfl, rfl, by walk_at "ewc", ⟨_, _, rfl, rfl, ?_⟩⟩⟩⟩
          refine ⟨_, rfl, _, rfl, dgetE hd3 rfl ⟨_, _, rfl, rfl, by walk_at "ewc", ⟨_, _, rfl, rfl, ⟨_, _, rfl, rfl, by walk_at "ewc", ?_⟩⟩⟩⟩
          generalize hsd : (s * 48271 + z % 2147483629 * 69621 + 7919 * (n + 1)) % 2147483587 = sd
          have sd0 : 0 ≤ sd := by omega
          have sd1 : sd < 2147483587 := by omega
          refine ⟨_, rfl, _, rfl, ⟨_, _, rfl, rfl, by walk_at "ewc", ⟨_, _, rfl, rfl, ⟨_, _, rfl, rfl, by walk_at "ewc", ⟨_, _, rfl, rfl, by walk_at "ewc", ?_⟩⟩⟩⟩⟩
          refine ⟨_, rfl, dputE hd3 dkv_ps ?_ (by show 4 ≤ 1000; decide)⟩
          refine ⟨_, rfl, dgetE upd_same rfl ⟨_, _, rfl, rfl, by walk_at "ewc", ?_⟩⟩
          refine ⟨_, rfl, dgetE upd_same rfl ⟨_, _, rfl, rfl, ?_⟩⟩
          refine ⟨_, _, rfl, rfl, by walk_at "ewc", ⟨_, _, rfl, rfl, by walk_at "ewc", ⟨_, rfl, ⟨_, _, rfl, rfl, by walk_at "ewc", ?_⟩⟩⟩⟩
          exact k _ _ (Int.emod_nonneg _ (by omega)) (Int.emod_lt_of_pos _ m0) ⟨_, _, _, _, upd_same, get_ne ncd hc3, Int.emod_nonneg _ (by decide), Int.lt_trans (Int.emod_lt_of_pos _ (by decide)) (by decide)⟩ (E3.set i1 hmd hfd)
      · have hd3 := hd2
        have hc3 := hc2
        have E3 := E2
        -- if cell >= 10 ** 18
        refine ⟨_, rfl, rfl, rfl, _, _, rfl, rfl, _, rfl, iteD (fun hz => ?_) (fun hz => ?_)⟩
        · refine ⟨_, rfl, _, rfl, ⟨_, _, rfl, rfl, by walk_at "ewc", ?_⟩⟩
          refine ⟨_, rfl, dputE hd3 dkv_pl ?_ (by show 4 ≤ 1000; decide)⟩
          refine ⟨_, rfl, _, rfl, ⟨_, _, rfl, rfl, by walk_at "ewc", ?_⟩⟩
          exact k _ _ (Int.emod_nonneg _ (by omega)) (Int.emod_lt_of_pos _ m0) ⟨_, _, _, _, upd_same, get_ne ncd hc3, hs0, hs1⟩ (E3.set i1 hmd hfd)
        · refine ⟨_, rfl, dgetE hd3 rfl ⟨_, _, rfl, rfl, by walk_at "ewc", ?_⟩⟩
          refine ⟨_, rfl, ⟨_, _, rfl, rfl, by walk_at "ewc", ⟨_, _, rfl, rfl, by walk_at "ewc", ⟨_, _, rfl, rfl, ?_⟩⟩⟩⟩
          refine ⟨_, rfl, _, rfl, dgetE hd3 rfl ⟨_, _, rfl, rfl, by walk_at "ewc", ⟨_, _, rfl, rfl, ⟨_, _, rfl, rfl, by walk_at "ewc", ?_⟩⟩⟩⟩
          generalize hsd : (s * 48271 + 0 % 2147483629 * 69621 + 7919 * (n + 1)) % 2147483587 = sd
          have sd0 : 0 ≤ sd := by omega
          have sd1 : sd < 2147483587 := by omega
          refine ⟨_, rfl, _, rfl, ⟨_, _, rfl, rfl, by walk_at "ewc", ⟨_, _, rfl, rfl, ⟨_, _, rfl, rfl, by walk_at "ewc", ⟨_, _, rfl, rfl, by walk_at "ewc", ?_⟩⟩⟩⟩⟩
          refine ⟨_, rfl, dputE hd3 dkv_ps ?_ (by show 4 ≤ 1000; decide)⟩
          refine ⟨_, rfl, dgetE upd_same rfl ⟨_, _, rfl, rfl, by walk_at "ewc", ?_⟩⟩
          refine ⟨_, rfl, dgetE upd_same rfl ⟨_, _, rfl, rfl, ?_⟩⟩
          refine ⟨_, _, rfl, rfl, by walk_at "ewc", ⟨_, _, rfl, rfl, by walk_at "ewc", ⟨_, rfl, ⟨_, _, rfl, rfl, by walk_at "ewc", ?_⟩⟩⟩⟩
          exact k _ _ (Int.emod_nonneg _ (by omega)) (Int.emod_lt_of_pos _ m0) ⟨_, _, _, _, upd_same, get_ne ncd hc3, Int.emod_nonneg _ (by decide), Int.lt_trans (Int.emod_lt_of_pos _ (by decide)) (by decide)⟩ (E3.set i1 hmd hfd)
end
end
section
local macro_rules | `(tactic| walk_at "ewc") => `(tactic| first
  | (show (0 : Int) < _; omega)
  | (show (0 : Int) < _; decide)
  | (refine ⟨?_, ?_⟩ <;> omega)
  | exact Or.inl ⟨by omega, by omega⟩
  | exact Or.inr ⟨by omega, by omega⟩)
local macro_rules | `(tactic| walk_at "ewar") => `(tactic| first
  | omega
  | (simp only [Ew.ab]; repeat' split
     all_goals omega))
local macro_rules | `(tactic| walk_at "ewtup") => `(tactic| first
  | assumption
  | exact upd_same
  | (refine' Ew.get_new ?ew1 ?ew2; (case ew1 => assumption); (case ew2 => walk_at "ewtup"))
  | (refine' Ew.getI_mut ?ew1 ?ew2 rfl; (case ew1 => walk_at "ewlst"); (case ew2 => walk_at "ewtup"))
  | (refine' Ew.getI_mutD ?ew1 ?ew2 rfl; (case ew1 => assumption); (case ew2 => walk_at "ewtup"))
  | (refine' Ew.Evo.getI ?ew1 ?ew2 rfl; (case ew1 => assumption); (case ew2 => walk_at "ewtup")))
local macro_rules | `(tactic| walk_at "ewlst") => `(tactic| first
  | assumption
  | exact upd_same
  | (refine' Ew.get_new ?ew1 ?ew2; (case ew1 => assumption); (case ew2 => walk_at "ewlst"))
  | (refine' Ew.get_ne ?ew1 ?ew2; (case ew1 => assumption); (case ew2 => walk_at "ewlst"))
  | (refine' Ew.Evo.get ?ew1 ?ew2 ?ew3; (case ew1 => assumption); (case ew2 => walk_at "ewoff"); (case ew3 => walk_at "ewlst")))
local macro_rules | `(tactic| walk_at "ewoff") => `(tactic| first
  | assumption
  | exact List.not_mem_nil
  | (refine' Ew.Deck.off' ?ew1 ?ew2; (case ew1 => assumption); (case ew2 => walk_at "ewdeck")))
local macro_rules | `(tactic| walk_at "ewdeck") => `(tactic| first
  | assumption
  | (refine' Ew.Deck.new ?ew1 ?ew2; (case ew2 => assumption); (case ew1 => walk_at "ewdeck"))
  | (refine' Ew.Deck.mut ?ew1 ?ew2; (case ew2 => walk_at "ewoff"); (case ew1 => walk_at "ewdeck")))
local macro_rules | `(tactic| walk_at "ewevo") => `(tactic| first
  | assumption
  | exact Ew.Evo.refl _ _
  | (refine' Ew.Evo.new ?ew1 ?ew2; (case ew2 => assumption); (case ew1 => walk_at "ewevo"))
  | (refine' Ew.Evo.mut ?ew1 ?ew2; (case ew2 => assumption); (case ew1 => walk_at "ewevo"))
  | (refine' Ew.Evo.trans ?ew1 ?ew2; (case ew2 => assumption); (case ew1 => walk_at "ewevo"))
  | (refine' Ew.Evo.call0 ?ew1 ?ew2; (case ew2 => assumption); (case ew1 => walk_at "ewevo")))
local macro_rules | `(tactic| walk_at "ewlen") => `(tactic| first
  | exact Nat.le_of_ble_eq_true rfl
  | omega
  | (simp only [List.length_map, List.length_append, List.length_cons, List.length_nil]; omega))
local macro_rules | `(tactic| walk_at "ewcall") => `(tactic| fail)
local macro_rules | `(tactic| walk_at "ew") => `(tactic| first
  | walk_at "ewcall"
  | refine ⟨_, rfl, ?_⟩
  | refine iteT ?_
  | refine iteF ?_
  | refine ⟨_, _, rfl, rfl, ?_⟩
  | (refine' Ew.ixT (SqT.of ?ew1) ?ew2 ?_; (case ew1 => walk_at "ewtup"); (case ew2 => rfl))
  | (refine' Ew.ixL (SqL.of ?ew1) ?ew2 ?_; (case ew1 => walk_at "ewlst"); (case ew2 => rfl))
  | (refine' ⟨_, ?_, rfl, SqT.of ?ew1, ?ew2, ?_⟩; (case ew1 => walk_at "ewtup"); (case ew2 => rfl))
  | (refine' ⟨_, ?_, rfl, SqL.of ?ew1, ?ew2, ?_⟩; (case ew1 => walk_at "ewlst"); (case ew2 => rfl))
  | refine ⟨_, _, rfl, ?_⟩
  | (refine' ⟨_, ?_, rfl, Or.inr (SqT.of ?ew1), rfl, ?ew2, ?_⟩; (case ew1 => walk_at "ewtup"); (case ew2 => rfl))
  | refine Or.inr ⟨_, rfl, ?_⟩
  | refine ⟨rfl, rfl, ?_⟩
  | refine ⟨rfl, ?_⟩
  | refine Ew.ii_ii ?_
  | refine Ew.ii_ib ?_
  | refine Ew.ii_bb ?_
  | (refine' Ew.ii_tt ?ew1 ?_; (case ew1 => walk_at "ewtup"))
  | refine ⟨Ew.sz (Nat.le_of_ble_eq_true rfl), fun p hp => ?_⟩
  | (refine' ⟨_, ?_, ?_, rfl, SqT.of ?ew1, fun p hp => ?_⟩; (case ew1 => walk_at "ewtup"))
  | (refine' ⟨Or.inl ⟨rfl, ?_, SqL.of ?ew1⟩, ?_⟩; (case ew1 => walk_at "ewlst"))
  | (refine' Ew.apd ?ew1 ?ew2 ?_; (case ew1 => walk_at "ewlst"); (case ew2 => walk_at "ewlen"))
  | (refine' ⟨?_, Ew.eqT ?ew1 ?ew2 ?ew3 ?ew4, ?_⟩; (case ew1 => walk_at "ewtup"); (case ew2 => walk_at "ewtup"); (case ew3 => rfl); (case ew4 => rfl))
  | (refine' Ew.lenT (SqT.of ?ew1) ?_; (case ew1 => walk_at "ewtup"))
  | (refine' Ew.lenL (SqL.of ?ew1) ?_; (case ew1 => walk_at "ewlst"))
  | refine ⟨by walk_at "ewc", ?_⟩
  | (refine' Ew.ixB (SqL.of ?ew1) (fun hb => ?_) (fun hb => ?_); (case ew1 => walk_at "ewlst")))
section
variable {P : Program} {w : World} {K : PySem.W.Frag} {mg : Str → Option Value} {base : Heap}
inductive sp_steps : List V → Hp → VK → XK → Prop
  | mk {H : Hp} {Q : VK} {E : XK} {a b : Addr} {x y x' y' : Int} (h1 : H a = some (.tup [.int x, .int y])) (h2 : H b = some (.tup [.int x', .int y'])) (k : Q (.int (ab (x - x') + ab (y - y'))) H) : sp_steps [.ref a, .ref b] H Q E
theorem ok_steps (T : Tx K mg) : FnOk P w K mg base CX0 1 T.a_steps T.d_steps ["one", "other"] sp_steps := by
  refine T.F_steps.ok sc_steps (fun vs H Q E h => by cases h; rfl) (fun cdv A outer s H vs Q E hr h => ?_)
  cases h with | mk h1 h2 k =>
  refine ⟨_, (pss_one (ps_ret (pe_op op_add (pe_callB call_abs (by rfl) T.n_abs (by decide +kernel) (pa_cons (pe_op op_sub (pe_ix (r := rIxT K) ix_tup (pv 0) pe_int (fun _ _ => rfl)) (pe_ix (r := rIxT K) ix_tup (pv 1) pe_int (fun _ _ => rfl))) pa_nil)) (pe_callB call_abs (by rfl) T.n_abs (by decide +kernel) (pa_cons (pe_op op_sub (pe_ix (r := rIxT K) ix_tup (pv 0) pe_int (fun _ _ => rfl)) (pe_ix (r := rIxT K) ix_tup (pv 1) pe_int (fun _ _ => rfl))) pa_nil))))), ?_⟩
  repeat walk_at "ew"
  exact k
local macro_rules | `(tactic| walk_at "ewcall") => `(tactic| first
  | (refine' sp_steps.mk ?ew1 ?ew2 ?_; (case ew1 => walk_at "ewtup"); (case ew2 => walk_at "ewtup"))
  | (refine' sp__law_draw.mk ?ew1 ?ew2 ?ew3 ?_; (case ew1 => walk_at "ewdeck"); (case ew2 => omega); (case ew3 => omega)))
inductive sp__law_number : List V → Hp → VK → XK → Prop
  | mk {H : Hp} {Q : VK} {E : XK} {dk c : Addr} {m : Int} (hD : Deck H dk c) (m0 : 0 ≤ m) (m1 : m ≤ 2) (k : ∀ H' r, -1000000 ≤ r → r ≤ 1000000 → Deck H' dk c → Evo [dk, c] H H' → Q (.int r) H') : sp__law_number [.ref dk, .int m] H Q E
theorem ok__law_number (T : Tx K mg) : FnOk P w K mg base CX0 2 T.a__law_number T.d__law_number ["_law_deck_here", "_law_way"] sp__law_number := by
  refine T.F__law_number.ok sc__law_number (fun vs H Q E h => by cases h; rfl) (fun cdv A outer s H vs Q E hr h => ?_)
  obtain @⟨_, _, _, dk, c, m, hD, m0, m1, k⟩ := h
  refine ⟨_, (pss_cons (ps_if (pt_cmpR Ew.op_eqI (pv 1) pe_int (nomark _)) (pss_one (ps_ret (pe_call (ok__law_draw T) (hr.mono (by decide)) rfl T.g__law_draw T.F__law_draw.kp T.b__law_draw .nil pass0 (pa_cons (pv 0) (pa_cons pe_int pa_nil))))) pss_nil)
      (pss_cons (ps_if (pt_cmpR Ew.op_eqI (pv 1) pe_int (nomark _)) (pss_one (ps_ret (pe_op op_fdiv (pe_ix (r := rIxL K) ix_list (pe_lst (pa_cons (pe_op (Ew.op_powC 10 6 1000000) pe_int pe_int) (pa_cons (pe_un un_neg (pe_op (Ew.op_powC 10 6 1000000) pe_int pe_int)) pa_nil))) (pe_call (ok__law_draw T) (hr.mono (by decide)) rfl T.g__law_draw T.F__law_draw.kp T.b__law_draw .nil pass0 (pa_cons (pv 0) (pa_cons pe_int pa_nil))) (fun _ _ => rfl)) (pe_op op_add pe_int (pe_call (ok__law_draw T) (hr.mono (by decide)) rfl T.g__law_draw T.F__law_draw.kp T.b__law_draw .nil pass0 (pa_cons (pv 0) (pa_cons pe_int pa_nil))))))) pss_nil)
      (pss_one (ps_ret (pe_op op_sub (pe_call (ok__law_draw T) (hr.mono (by decide)) rfl T.g__law_draw T.F__law_draw.kp T.b__law_draw .nil pass0 (pa_cons (pv 0) (pa_cons (pe_op op_add (pe_op op_mul pe_int (pe_op (Ew.op_powC 10 6 1000000) pe_int pe_int)) pe_int) pa_nil))) (pe_op (Ew.op_powC 10 6 1000000) pe_int pe_int)))))), ?_⟩
  repeat walk_at "ew"
  refine iteD (fun h => ?_) (fun h => ?_)
  · repeat walk_at "ew"
    intro H1 r r0 r1 hD1 e1
    exact k _ _ (by omega) (by omega) hD1 e1
  · repeat walk_at "ew"
    refine iteD (fun h => ?_) (fun h => ?_)
    · repeat walk_at "ew"
      rename_i p hp
      intro H1 r r0 r1 hD1 e1
      obtain rfl | rfl : r = 0 ∨ r = 1 := by omega
      all_goals
        repeat walk_at "ew"
        intro H2 q q0 q1 hD2 e2
        repeat walk_at "ew"
        have e3 := (((Evo.refl [dk, c] H).new hp).trans e1).trans e2
        refine k _ _ ?_ ?_ hD2 e3
        · have : q = 0 ∨ q = 1 ∨ q = 2 := by omega
          rcases this with rfl | rfl | rfl <;> decide
        · have : q = 0 ∨ q = 1 ∨ q = 2 := by omega
          rcases this with rfl | rfl | rfl <;> decide
    · repeat walk_at "ew"
      intro H1 r r0 r1 hD1 e1
      repeat walk_at "ew"
      exact k _ _ (by omega) (by omega) hD1 e1
end
end
section
local macro_rules | `(tactic| walk_at "ewc") => `(tactic| first
  | (show (0 : Int) < _; omega)
  | (show (0 : Int) < _; decide)
  | (refine ⟨?_, ?_⟩ <;> omega)
  | exact Or.inl ⟨by omega, by omega⟩
  | exact Or.inr ⟨by omega, by omega⟩)
local macro_rules | `(tactic| walk_at "ewar") => `(tactic| first
  | omega
  | (simp only [Ew.ab]; repeat' split
     all_goals omega))
local macro_rules | `(tactic| walk_at "ewtup") => `(tactic| first
  | assumption
  | exact upd_same
  | (refine' Ew.get_new ?ew1 ?ew2; (case ew1 => assumption); (case ew2 => walk_at "ewtup"))
  | (refine' Ew.getI_mut ?ew1 ?ew2 rfl; (case ew1 => walk_at "ewlst"); (case ew2 => walk_at "ewtup"))
  | (refine' Ew.getI_mutD ?ew1 ?ew2 rfl; (case ew1 => assumption); (case ew2 => walk_at "ewtup"))
  | (refine' Ew.Evo.getI ?ew1 ?ew2 rfl; (case ew1 => assumption); (case ew2 => walk_at "ewtup")))
local macro_rules | `(tactic| walk_at "ewlst") => `(tactic| first
  | assumption
  | exact upd_same
  | (refine' Ew.get_new ?ew1 ?ew2; (case ew1 => assumption); (case ew2 => walk_at "ewlst"))
  | (refine' Ew.get_ne ?ew1 ?ew2; (case ew1 => assumption); (case ew2 => walk_at "ewlst"))
  | (refine' Ew.Evo.get ?ew1 ?ew2 ?ew3; (case ew1 => assumption); (case ew2 => walk_at "ewoff"); (case ew3 => walk_at "ewlst")))
local macro_rules | `(tactic| walk_at "ewoff") => `(tactic| first
  | assumption
  | exact List.not_mem_nil
  | (refine' Ew.Deck.off' ?ew1 ?ew2; (case ew1 => assumption); (case ew2 => walk_at "ewdeck")))
local macro_rules | `(tactic| walk_at "ewdeck") => `(tactic| first
  | assumption
  | (refine' Ew.Deck.new ?ew1 ?ew2; (case ew2 => assumption); (case ew1 => walk_at "ewdeck"))
  | (refine' Ew.Deck.mut ?ew1 ?ew2; (case ew2 => walk_at "ewoff"); (case ew1 => walk_at "ewdeck")))
local macro_rules | `(tactic| walk_at "ewevo") => `(tactic| first
  | assumption
  | exact Ew.Evo.refl _ _
  | (refine' Ew.Evo.new ?ew1 ?ew2; (case ew2 => assumption); (case ew1 => walk_at "ewevo"))
  | (refine' Ew.Evo.mut ?ew1 ?ew2; (case ew2 => assumption); (case ew1 => walk_at "ewevo"))
  | (refine' Ew.Evo.trans ?ew1 ?ew2; (case ew2 => assumption); (case ew1 => walk_at "ewevo"))
  | (refine' Ew.Evo.call0 ?ew1 ?ew2; (case ew2 => assumption); (case ew1 => walk_at "ewevo")))
local macro_rules | `(tactic| walk_at "ewlen") => `(tactic| first
  | exact Nat.le_of_ble_eq_true rfl
  | omega
  | (simp only [List.length_map, List.length_append, List.length_cons, List.length_nil]; omega))
local macro_rules | `(tactic| walk_at "ewcall") => `(tactic| fail)
local macro_rules | `(tactic| walk_at "ew") => `(tactic| first
  | walk_at "ewcall"
  | refine ⟨_, rfl, ?_⟩
  | refine iteT ?_
  | refine iteF ?_
  | refine ⟨_, _, rfl, rfl, ?_⟩
  | (refine' Ew.ixT (SqT.of ?ew1) ?ew2 ?_; (case ew1 => walk_at "ewtup"); (case ew2 => rfl))
  | (refine' Ew.ixL (SqL.of ?ew1) ?ew2 ?_; (case ew1 => walk_at "ewlst"); (case ew2 => rfl))
  | (refine' ⟨_, ?_, rfl, SqT.of ?ew1, ?ew2, ?_⟩; (case ew1 => walk_at "ewtup"); (case ew2 => rfl))
  | (refine' ⟨_, ?_, rfl, SqL.of ?ew1, ?ew2, ?_⟩; (case ew1 => walk_at "ewlst"); (case ew2 => rfl))
  | refine ⟨_, _, rfl, ?_⟩
  | (refine' ⟨_, ?_, rfl, Or.inr (SqT.of ?ew1), rfl, ?ew2, ?_⟩; (case ew1 => walk_at "ewtup"); (case ew2 => rfl))
  | refine Or.inr ⟨_, rfl, ?_⟩
  | refine ⟨rfl, rfl, ?_⟩
  | refine ⟨rfl, ?_⟩
  | refine Ew.ii_ii ?_
  | refine Ew.ii_ib ?_
  | refine Ew.ii_bb ?_
  | (refine' Ew.ii_tt ?ew1 ?_; (case ew1 => walk_at "ewtup"))
  | refine ⟨Ew.sz (Nat.le_of_ble_eq_true rfl), fun p hp => ?_⟩
  | (refine' ⟨_, ?_, ?_, rfl, SqT.of ?ew1, fun p hp => ?_⟩; (case ew1 => walk_at "ewtup"))
  | (refine' ⟨Or.inl ⟨rfl, ?_, SqL.of ?ew1⟩, ?_⟩; (case ew1 => walk_at "ewlst"))
  | (refine' Ew.apd ?ew1 ?ew2 ?_; (case ew1 => walk_at "ewlst"); (case ew2 => walk_at "ewlen"))
  | (refine' ⟨?_, Ew.eqT ?ew1 ?ew2 ?ew3 ?ew4, ?_⟩; (case ew1 => walk_at "ewtup"); (case ew2 => walk_at "ewtup"); (case ew3 => rfl); (case ew4 => rfl))
  | (refine' Ew.lenT (SqT.of ?ew1) ?_; (case ew1 => walk_at "ewtup"))
  | (refine' Ew.lenL (SqL.of ?ew1) ?_; (case ew1 => walk_at "ewlst"))
  | refine ⟨by walk_at "ewc", ?_⟩
  | (refine' Ew.ixB (SqL.of ?ew1) (fun hb => ?_) (fun hb => ?_); (case ew1 => walk_at "ewlst")))
local macro_rules | `(tactic| walk_at "ewcall") => `(tactic| first
  | (refine' sp_steps.mk ?ew1 ?ew2 ?_; (case ew1 => walk_at "ewtup"); (case ew2 => walk_at "ewtup"))
  | (refine' sp__law_draw.mk ?ew1 ?ew2 ?ew3 ?_; (case ew1 => walk_at "ewdeck"); (case ew2 => omega); (case ew3 => omega)))
section
variable {P : Program} {w : World} {K : PySem.W.Frag} {mg : Str → Option Value} {base : Heap}
inductive sp__law_apart : List V → Hp → VK → XK → Prop
  | mk {H : Hp} {Q : VK} {E : XK} {a b : Addr} {x y x' y' : Int} (h1 : H a = some (.tup [.int x, .int y])) (h2 : H b = some (.tup [.int x', .int y'])) (k : Q (.int (ab (x - x') + ab (y - y'))) H) : sp__law_apart [.ref a, .ref b] H Q E
theorem ok__law_apart (T : Tx K mg) : FnOk P w K mg base CX0 1 T.a__law_apart T.d__law_apart ["_law_one", "_law_other"] sp__law_apart := by
  refine T.F__law_apart.ok sc__law_apart (fun vs H Q E h => by cases h; rfl) (fun cdv A outer s H vs Q E hr h => ?_)
  obtain @⟨_, _, _, a, b, x, y, x', y', h1, h2, k⟩ := h
  refine ⟨_, (pss_one (ps_ret (pe_op op_sub (pe_op op_add (pe_op op_sub (pe_callB (call_max2 rfl) (by rfl) T.n_max (by decide +kernel) (pa_cons (pe_ix (r := rIxT K) ix_tup (pv 0) pe_int (fun _ _ => rfl)) (pa_cons (pe_ix (r := rIxT K) ix_tup (pv 1) pe_int (fun _ _ => rfl)) pa_nil))) (pe_callB (call_min2 rfl) (by rfl) T.n_min (by decide +kernel) (pa_cons (pe_ix (r := rIxT K) ix_tup (pv 0) pe_int (fun _ _ => rfl)) (pa_cons (pe_ix (r := rIxT K) ix_tup (pv 1) pe_int (fun _ _ => rfl)) pa_nil)))) (pe_callB (call_max2 rfl) (by rfl) T.n_max (by decide +kernel) (pa_cons (pe_ix (r := rIxT K) ix_tup (pv 0) pe_int (fun _ _ => rfl)) (pa_cons (pe_ix (r := rIxT K) ix_tup (pv 1) pe_int (fun _ _ => rfl)) pa_nil)))) (pe_callB (call_min2 rfl) (by rfl) T.n_min (by decide +kernel) (pa_cons (pe_ix (r := rIxT K) ix_tup (pv 0) pe_int (fun _ _ => rfl)) (pa_cons (pe_ix (r := rIxT K) ix_tup (pv 1) pe_int (fun _ _ => rfl)) pa_nil)))))), ?_⟩
  repeat walk_at "ew"
  refine Qeq (Q := Q) (congrArg V.int ?_) k
  simp only [ab]
  repeat' split
  all_goals omega
inductive sp__law_is : List V → Hp → VK → XK → Prop
  | mk {H : Hp} {Q : VK} {E : XK} {a b : Int} (k : Q (.bl (decide (a = b))) H) : sp__law_is [.int a, .int b] H Q E
theorem ok__law_is (T : Tx K mg) : FnOk P w K mg base CX0 1 T.a__law_is T.d__law_is ["_law_found", "_law_due"] sp__law_is := by
  refine T.F__law_is.ok sc__law_is (fun vs H Q E h => by cases h; rfl) (fun cdv A outer s H vs Q E hr h => ?_)
  obtain @⟨_, _, _, a, b, k⟩ := h
  refine ⟨_, (pss_one (ps_ret (pe_and (pe_callB (r := rIsi K) call_isi (by rfl) T.n_isinstance (by decide +kernel) (pa_cons (pv 0) (pa_cons (pe_bltn (v := .ty "int") (by rfl) T.n_int (by decide +kernel) rfl) pa_nil))) (pe_and (pe_not (pe_callB (r := rIsi K) call_isi (by rfl) T.n_isinstance (by decide +kernel) (pa_cons (pv 0) (pa_cons (pe_bltn (v := .ty "bool") (by rfl) T.n_bool (by decide +kernel) rfl) pa_nil)))) (pe_one (pe_cmpR Ew.op_eqI (pv 0) (pv 1) (nomark _))))))), ?_⟩
  repeat walk_at "ew"
  exact k
end
end
section
local macro_rules | `(tactic| walk_at "ewc") => `(tactic| first
  | (show (0 : Int) < _; omega)
  | (show (0 : Int) < _; decide)
  | (refine ⟨?_, ?_⟩ <;> omega)
  | exact Or.inl ⟨by omega, by omega⟩
  | exact Or.inr ⟨by omega, by omega⟩)
local macro_rules | `(tactic| walk_at "ewar") => `(tactic| first
  | omega
  | (simp only [Ew.ab]; repeat' split
     all_goals omega))
local macro_rules | `(tactic| walk_at "ewtup") => `(tactic| first
  | assumption
  | exact upd_same
  | (refine' Ew.get_new ?ew1 ?ew2; (case ew1 => assumption); (case ew2 => walk_at "ewtup"))
  | (refine' Ew.getI_mut ?ew1 ?ew2 rfl; (case ew1 => walk_at "ewlst"); (case ew2 => walk_at "ewtup"))
  | (refine' Ew.getI_mutD ?ew1 ?ew2 rfl; (case ew1 => assumption); (case ew2 => walk_at "ewtup"))
  | (refine' Ew.Evo.getI ?ew1 ?ew2 rfl; (case ew1 => assumption); (case ew2 => walk_at "ewtup")))
local macro_rules | `(tactic| walk_at "ewlst") => `(tactic| first
  | assumption
  | exact upd_same
  | (refine' Ew.get_new ?ew1 ?ew2; (case ew1 => assumption); (case ew2 => walk_at "ewlst"))
  | (refine' Ew.get_ne ?ew1 ?ew2; (case ew1 => assumption); (case ew2 => walk_at "ewlst"))
  | (refine' Ew.Evo.get ?ew1 ?ew2 ?ew3; (case ew1 => assumption); (case ew2 => walk_at "ewoff"); (case ew3 => walk_at "ewlst")))
local macro_rules | `(tactic| walk_at "ewoff") => `(tactic| first
  | assumption
  | exact List.not_mem_nil
  | (refine' Ew.Deck.off' ?ew1 ?ew2; (case ew1 => assumption); (case ew2 => walk_at "ewdeck")))
local macro_rules | `(tactic| walk_at "ewdeck") => `(tactic| first
  | assumption
  | (refine' Ew.Deck.new ?ew1 ?ew2; (case ew2 => assumption); (case ew1 => walk_at "ewdeck"))
  | (refine' Ew.Deck.mut ?ew1 ?ew2; (case ew2 => walk_at "ewoff"); (case ew1 => walk_at "ewdeck")))
local macro_rules | `(tactic| walk_at "ewevo") => `(tactic| first
  | assumption
  | exact Ew.Evo.refl _ _
  | (refine' Ew.Evo.new ?ew1 ?ew2; (case ew2 => assumption); (case ew1 => walk_at "ewevo"))
  | (refine' Ew.Evo.mut ?ew1 ?ew2; (case ew2 => assumption); (case ew1 => walk_at "ewevo"))
  | (refine' Ew.Evo.trans ?ew1 ?ew2; (case ew2 => assumption); (case ew1 => walk_at "ewevo"))
  | (refine' Ew.Evo.call0 ?ew1 ?ew2; (case ew2 => assumption); (case ew1 => walk_at "ewevo")))
local macro_rules | `(tactic| walk_at "ewlen") => `(tactic| first
  | exact Nat.le_of_ble_eq_true rfl
  | omega
  | (simp only [List.length_map, List.length_append, List.length_cons, List.length_nil]; omega))
local macro_rules | `(tactic| walk_at "ewcall") => `(tactic| fail)
local macro_rules | `(tactic| walk_at "ew") => `(tactic| first
  | walk_at "ewcall"
  | refine ⟨_, rfl, ?_⟩
  | refine iteT ?_
  | refine iteF ?_
  | refine ⟨_, _, rfl, rfl, ?_⟩
  | (refine' Ew.ixT (SqT.of ?ew1) ?ew2 ?_; (case ew1 => walk_at "ewtup"); (case ew2 => rfl))
  | (refine' Ew.ixL (SqL.of ?ew1) ?ew2 ?_; (case ew1 => walk_at "ewlst"); (case ew2 => rfl))
  | (refine' ⟨_, ?_, rfl, SqT.of ?ew1, ?ew2, ?_⟩; (case ew1 => walk_at "ewtup"); (case ew2 => rfl))
  | (refine' ⟨_, ?_, rfl, SqL.of ?ew1, ?ew2, ?_⟩; (case ew1 => walk_at "ewlst"); (case ew2 => rfl))
  | refine ⟨_, _, rfl, ?_⟩
  | (refine' ⟨_, ?_, rfl, Or.inr (SqT.of ?ew1), rfl, ?ew2, ?_⟩; (case ew1 => walk_at "ewtup"); (case ew2 => rfl))
  | refine Or.inr ⟨_, rfl, ?_⟩
  | refine ⟨rfl, rfl, ?_⟩
  | refine ⟨rfl, ?_⟩
  | refine Ew.ii_ii ?_
  | refine Ew.ii_ib ?_
  | refine Ew.ii_bb ?_
  | (refine' Ew.ii_tt ?ew1 ?_; (case ew1 => walk_at "ewtup"))
  | refine ⟨Ew.sz (Nat.le_of_ble_eq_true rfl), fun p hp => ?_⟩
  | (refine' ⟨_, ?_, ?_, rfl, SqT.of ?ew1, fun p hp => ?_⟩; (case ew1 => walk_at "ewtup"))
  | (refine' ⟨Or.inl ⟨rfl, ?_, SqL.of ?ew1⟩, ?_⟩; (case ew1 => walk_at "ewlst"))
  | (refine' Ew.apd ?ew1 ?ew2 ?_; (case ew1 => walk_at "ewlst"); (case ew2 => walk_at "ewlen"))
  | (refine' ⟨?_, Ew.eqT ?ew1 ?ew2 ?ew3 ?ew4, ?_⟩; (case ew1 => walk_at "ewtup"); (case ew2 => walk_at "ewtup"); (case ew3 => rfl); (case ew4 => rfl))
  | (refine' Ew.lenT (SqT.of ?ew1) ?_; (case ew1 => walk_at "ewtup"))
  | (refine' Ew.lenL (SqL.of ?ew1) ?_; (case ew1 => walk_at "ewlst"))
  | refine ⟨by walk_at "ewc", ?_⟩
  | (refine' Ew.ixB (SqL.of ?ew1) (fun hb => ?_) (fun hb => ?_); (case ew1 => walk_at "ewlst")))
local macro_rules | `(tactic| walk_at "ewcall") => `(tactic| first
  | (refine' sp_steps.mk ?ew1 ?ew2 ?_; (case ew1 => walk_at "ewtup"); (case ew2 => walk_at "ewtup"))
  | (refine' sp__law_apart.mk ?ew1 ?ew2 ?_; (case ew1 => walk_at "ewtup"); (case ew2 => walk_at "ewtup"))
  | refine sp__law_is.mk ?_
  | (refine' sp__law_draw.mk ?ew1 ?ew2 ?ew3 ?_; (case ew1 => walk_at "ewdeck"); (case ew2 => omega); (case ew3 => omega)))
section
variable {P : Program} {w : World} {K : PySem.W.Frag} {mg : Str → Option Value} {base : Heap}
abbrev Bd (x : Int) : Prop := -1000000 ≤ x ∧ x ≤ 1000000
inductive sp__law_moved : List V → Hp → VK → XK → Prop
  | mk {H : Hp} {Q : VK} {E : XK} {dk c a b : Addr} {x y x' y' : Int} (hD : Deck H dk c) (h1 : H a = some (.tup [.int x, .int y])) (h2 : H b = some (.tup [.int x', .int y'])) (b1 : Bd x) (b2 : Bd y) (b3 : Bd x') (b4 : Bd y')
    (k : ∀ H' l p q u v, H' l = some (.lst [.ref p, .ref q]) → H' p = some (.tup [.int (x + u), .int (y + v)]) → H' q = some (.tup [.int (x' + u), .int (y' + v)]) → Deck H' dk c → Evo [dk, c] H H' → Q (.ref l) H') : sp__law_moved [.ref dk, .ref a, .ref b] H Q E
set_option maxHeartbeats 1000000 in
theorem ok__law_moved (T : Tx K mg) : FnOk P w K mg base CX0 2 T.a__law_moved T.d__law_moved ["_law_deck_here", "_law_one", "_law_other"] sp__law_moved := by
  refine T.F__law_moved.ok sc__law_moved (fun vs H Q E h => by cases h; rfl) (fun cdv A outer s H vs Q E hr h => ?_)
  obtain @⟨_, _, _, dk, c, a, b, x, y, x', y', hD, h1, h2, b1, b2, b3, b4, k⟩ := h
  refine ⟨_, (pss_cons (ps_set (i := 3) sc__law_moved.nd rfl (Or.inr rfl) (pe_lst pa_nil))
      (pss_cons (ps_for PassesOwn.never rfl (pi_range1 (by rfl) T.n_range (pa_cons pe_int pa_nil)) (pg_name (i := 4) sc__law_moved.nd rfl (.inl rfl))
      (pss_cons (ps_set (i := 5) sc__law_moved.nd rfl (Or.inl rfl) (pe_lst (pa_cons (pe_op op_sub (pe_un un_neg (pe_op (Ew.op_powC 10 6 1000000) pe_int pe_int)) (pe_callB (call_min2 rfl) (by rfl) T.n_min (by decide +kernel) (pa_cons (pe_ix (r := rIxT K) ix_tup (pv 1) (pv 4) (fun _ _ => rfl)) (pa_cons (pe_ix (r := rIxT K) ix_tup (pv 2) (pv 4) (fun _ _ => rfl)) pa_nil)))) (pa_cons (pe_op op_sub (pe_op (Ew.op_powC 10 6 1000000) pe_int pe_int) (pe_callB (call_max2 rfl) (by rfl) T.n_max (by decide +kernel) (pa_cons (pe_ix (r := rIxT K) ix_tup (pv 1) (pv 4) (fun _ _ => rfl)) (pa_cons (pe_ix (r := rIxT K) ix_tup (pv 2) (pv 4) (fun _ _ => rfl)) pa_nil)))) pa_nil))))
      (pss_one (ps_expr (pe_bm PySem.F.plainAttrs_list PySem.F.slot_list_append PySem.F.type_list_append mt_append (pv 3) (pa_cons (pe_op op_add (pe_ix (r := rIxL K) ix_list (pv 5) pe_int (fun _ _ => rfl)) (pe_call (ok__law_draw T) (hr.mono (by decide)) rfl T.g__law_draw T.F__law_draw.kp T.b__law_draw .nil pass0 (pa_cons (pv 0) (pa_cons (pe_op op_add (pe_op op_sub (pe_ix (r := rIxL K) ix_list (pv 5) pe_int (fun _ _ => rfl)) (pe_ix (r := rIxL K) ix_list (pv 5) pe_int (fun _ _ => rfl))) pe_int) pa_nil)))) pa_nil))))))
      (pss_one (ps_ret (pe_lc (own := [("_law_place", 6)]) (g := gName 6) rfl sc__law_moved.nd (pi_tup (pe_tup (pa_cons (pv 1) (pa_cons (pv 2) pa_nil)))) (blkOk_by (N := N__law_moved) (sc := defScope s__law_moved) (by decide +kernel)) (fun _ _ _ _ _ => (pg_name (i := 6) sc__law_moved.nd rfl (.inl rfl))) (fun _ _ _ _ _ => pts_nil) (fun _ _ _ _ _ => (pe_tup (pa_cons (pe_op op_add (pe_ix (r := rIxT K) ix_tup (pv 6) pe_int (fun _ _ => rfl)) (pe_ix (r := rIxL K) ix_list (pv 3) pe_int (fun _ _ => rfl))) (pa_cons (pe_op op_add (pe_ix (r := rIxT K) ix_tup (pv 6) pe_int (fun _ _ => rfl)) (pe_ix (r := rIxL K) ix_list (pv 3) pe_int (fun _ _ => rfl))) pa_nil))))))))), ?_⟩
  refine ⟨sz (by decide), fun l hl => ?_⟩
  have ol := hD.off hl
  have E0 : Evo [dk, c] H (upd H l (.lst [])) := (Evo.refl _ H).new hl
  refine ⟨2, rfl, by decide, by decide, for_range (n := 2) (fun i σ H2 => ∃ (u3 u4 u5 : Option V) (fs : List Int), σ = [some (.ref dk), some (.ref a), some (.ref b), some (.ref l), u4, u5, u3] ∧ fs.length = i ∧ H2 l = some (.lst (fs.map V.int)) ∧ Deck H2 dk c ∧ Evo [dk, c] H H2)
    ⟨_, _, _, [], rfl, rfl, upd_same, hD.new hl, E0⟩ ?_ ?_⟩
  · rintro i σ H2 hi ⟨u3, u4, u5, fs, rfl, hf, hl2, hD2, e2⟩
    have ha := e2.tupE h1
    have hb := e2.tupE h2
    obtain rfl | rfl : i = 0 ∨ i = 1 := by omega
    all_goals
      repeat walk_at "ew"
      rename_i p hp
      intro H3 r r0 r1 hD3 e3
      repeat walk_at "ew"
      exact ⟨_, _, _, fs ++ [_], rfl, by rw [List.length_append, hf]; rfl, by rw [upd_same, List.map_append]; rfl, hD3.mut ol, ((e2.new hp).trans e3).mut hl⟩
  · rintro σ H2 ⟨u3, u4, u5, fs, rfl, hf, hl2, hD2, e2⟩
    have ha := e2.tupE h1
    have hb := e2.tupE h2
    obtain ⟨u, v, rfl⟩ : ∃ u v, fs = [u, v] := by
      match fs, hf with
      | [u, v], _ => exact ⟨u, v, rfl⟩
    repeat walk_at "ew"
    rename_i p hp
    have hl3 : upd H2 p (.tup [.ref a, .ref b]) l = some (.lst [.int u, .int v]) := get_new hp hl2
    have hD3 : Deck (upd H2 p (.tup [.ref a, .ref b])) dk c := hD2.new hp
    have e3 : Evo [dk, c] H (upd H2 p (.tup [.ref a, .ref b])) := e2.new hp
    have ha3 := get_new (o := .tup [.ref a, .ref b]) hp ha
    have hb3 := get_new (o := .tup [.ref a, .ref b]) hp hb
    have hp3 : upd H2 p (.tup [.ref a, .ref b]) p = some (.tup [.ref a, .ref b]) := upd_same
    generalize upd H2 p (.tup [.ref a, .ref b]) = H3 at *
    refine ⟨⟨_, SqT.of hp3⟩, fun D hD' => lc_tup (K := K) (a := p) (xs := [.ref a, .ref b]) (fun i H4 => Deck H4 dk c ∧ Evo [] H3 H4 ∧
      match i with
      | 0 => H4 D = some (.lst [])
      | 1 => ∃ q1, H4 D = some (.lst [.ref q1]) ∧ H4 q1 = some (.tup [.int (x + u), .int (y + v)])
      | _ => ∃ q1 q2, H4 D = some (.lst [.ref q1, .ref q2]) ∧ H4 q1 = some (.tup [.int (x + u), .int (y + v)]) ∧ H4 q2 = some (.tup [.int (x' + u), .int (y' + v)])) ?_ ?_ ?_ ?_⟩
    · exact ⟨hD3.new hD', (Evo.refl _ H3).new hD', upd_same⟩
    · rintro i H4 _ ⟨_, e4, _⟩
      exact SqT.of (e4.tupE hp3)
    · rintro i z H4 hz ⟨hD4, e4, hm⟩
      have hl4 := e4.get (by intro m; cases m) hl3
      have ha4 := e4.tupE ha3
      have hb4 := e4.tupE hb3
      have oD := hD3.off hD'
      match i, hz, hm with
      | 0, hz, hm =>
        cases hz
        have hm' : H4 D = some (.lst []) := hm
        repeat walk_at "ew"
        rename_i q hq
        exact ⟨[], get_new hq hm', szl (by decide), (hD4.new hq).mut oD, (e4.new hq).mut hD', q, upd_same, get_ne (ne_of_none hm' hq).symm upd_same⟩
      | 1, hz, hm =>
        cases hz
        obtain ⟨q1, hm', hq1⟩ := hm
        repeat walk_at "ew"
        rename_i q hq
        exact ⟨[.ref q1], get_new hq hm', szl (by show 1 < 100000; decide), (hD4.new hq).mut oD, (e4.new hq).mut hD', q1, q, upd_same, tup_mut (get_new hq hm') (get_new hq hq1), get_ne (ne_of_none hm' hq).symm upd_same⟩
    · rintro H4 ⟨hD4, e4, q1, q2, h5, h6, h7⟩
      exact k _ _ _ _ _ _ h5 h6 h7 hD4 (e3.call0 e4)
end
end
section
local macro_rules | `(tactic| walk_at "ewc") => `(tactic| first
  | (show (0 : Int) < _; omega)
  | (show (0 : Int) < _; decide)
  | (refine ⟨?_, ?_⟩ <;> omega)
  | exact Or.inl ⟨by omega, by omega⟩
  | exact Or.inr ⟨by omega, by omega⟩)
local macro_rules | `(tactic| walk_at "ewar") => `(tactic| first
  | omega
  | (simp only [Ew.ab]; repeat' split
     all_goals omega))
local macro_rules | `(tactic| walk_at "ewtup") => `(tactic| first
  | assumption
  | exact upd_same
  | (refine' Ew.get_new ?ew1 ?ew2; (case ew1 => assumption); (case ew2 => walk_at "ewtup"))
  | (refine' Ew.getI_mut ?ew1 ?ew2 rfl; (case ew1 => walk_at "ewlst"); (case ew2 => walk_at "ewtup"))
  | (refine' Ew.getI_mutD ?ew1 ?ew2 rfl; (case ew1 => assumption); (case ew2 => walk_at "ewtup"))
  | (refine' Ew.Evo.getI ?ew1 ?ew2 rfl; (case ew1 => assumption); (case ew2 => walk_at "ewtup")))
local macro_rules | `(tactic| walk_at "ewlst") => `(tactic| first
  | assumption
  | exact upd_same
  | (refine' Ew.get_new ?ew1 ?ew2; (case ew1 => assumption); (case ew2 => walk_at "ewlst"))
  | (refine' Ew.get_ne ?ew1 ?ew2; (case ew1 => assumption); (case ew2 => walk_at "ewlst"))
  | (refine' Ew.Evo.get ?ew1 ?ew2 ?ew3; (case ew1 => assumption); (case ew2 => walk_at "ewoff"); (case ew3 => walk_at "ewlst")))
local macro_rules | `(tactic| walk_at "ewoff") => `(tactic| first
  | assumption
  | exact List.not_mem_nil
  | (refine' Ew.Deck.off' ?ew1 ?ew2; (case ew1 => assumption); (case ew2 => walk_at "ewdeck")))
local macro_rules | `(tactic| walk_at "ewdeck") => `(tactic| first
  | assumption
  | (refine' Ew.Deck.new ?ew1 ?ew2; (case ew2 => assumption); (case ew1 => walk_at "ewdeck"))
  | (refine' Ew.Deck.mut ?ew1 ?ew2; (case ew2 => walk_at "ewoff"); (case ew1 => walk_at "ewdeck")))
local macro_rules | `(tactic| walk_at "ewevo") => `(tactic| first
  | assumption
  | exact Ew.Evo.refl _ _
  | (refine' Ew.Evo.new ?ew1 ?ew2; (case ew2 => assumption); (case ew1 => walk_at "ewevo"))
  | (refine' Ew.Evo.mut ?ew1 ?ew2; (case ew2 => assumption); (case ew1 => walk_at "ewevo"))
  | (refine' Ew.Evo.trans ?ew1 ?ew2; (case ew2 => assumption); (case ew1 => walk_at "ewevo"))
  | (refine' Ew.Evo.call0 ?ew1 ?ew2; (case ew2 => assumption); (case ew1 => walk_at "ewevo")))
local macro_rules | `(tactic| walk_at "ewlen") => `(tactic| first
  | exact Nat.le_of_ble_eq_true rfl
  | omega
  | (simp only [List.length_map, List.length_append, List.length_cons, List.length_nil]; omega))
local macro_rules | `(tactic| walk_at "ewcall") => `(tactic| fail)
local macro_rules | `(tactic| walk_at "ew") => `(tactic| first
  | walk_at "ewcall"
  | refine ⟨_, rfl, ?_⟩
  | refine iteT ?_
  | refine iteF ?_
  | refine ⟨_, _, rfl, rfl, ?_⟩
  | (refine' Ew.ixT (SqT.of ?ew1) ?ew2 ?_; (case ew1 => walk_at "ewtup"); (case ew2 => rfl))
  | (refine' Ew.ixL (SqL.of ?ew1) ?ew2 ?_; (case ew1 => walk_at "ewlst"); (case ew2 => rfl))
  | (refine' ⟨_, ?_, rfl, SqT.of ?ew1, ?ew2, ?_⟩; (case ew1 => walk_at "ewtup"); (case ew2 => rfl))
  | (refine' ⟨_, ?_, rfl, SqL.of ?ew1, ?ew2, ?_⟩; (case ew1 => walk_at "ewlst"); (case ew2 => rfl))
  | refine ⟨_, _, rfl, ?_⟩
  | (refine' ⟨_, ?_, rfl, Or.inr (SqT.of ?ew1), rfl, ?ew2, ?_⟩; (case ew1 => walk_at "ewtup"); (case ew2 => rfl))
  | refine Or.inr ⟨_, rfl, ?_⟩
  | refine ⟨rfl, rfl, ?_⟩
  | refine ⟨rfl, ?_⟩
  | refine Ew.ii_ii ?_
  | refine Ew.ii_ib ?_
  | refine Ew.ii_bb ?_
  | (refine' Ew.ii_tt ?ew1 ?_; (case ew1 => walk_at "ewtup"))
  | refine ⟨Ew.sz (Nat.le_of_ble_eq_true rfl), fun p hp => ?_⟩
  | (refine' ⟨_, ?_, ?_, rfl, SqT.of ?ew1, fun p hp => ?_⟩; (case ew1 => walk_at "ewtup"))
  | (refine' ⟨Or.inl ⟨rfl, ?_, SqL.of ?ew1⟩, ?_⟩; (case ew1 => walk_at "ewlst"))
  | (refine' Ew.apd ?ew1 ?ew2 ?_; (case ew1 => walk_at "ewlst"); (case ew2 => walk_at "ewlen"))
  | (refine' ⟨?_, Ew.eqT ?ew1 ?ew2 ?ew3 ?ew4, ?_⟩; (case ew1 => walk_at "ewtup"); (case ew2 => walk_at "ewtup"); (case ew3 => rfl); (case ew4 => rfl))
  | (refine' Ew.lenT (SqT.of ?ew1) ?_; (case ew1 => walk_at "ewtup"))
  | (refine' Ew.lenL (SqL.of ?ew1) ?_; (case ew1 => walk_at "ewlst"))
  | refine ⟨by walk_at "ewc", ?_⟩
  | (refine' Ew.ixB (SqL.of ?ew1) (fun hb => ?_) (fun hb => ?_); (case ew1 => walk_at "ewlst")))
local macro_rules | `(tactic| walk_at "ewcall") => `(tactic| first
  | (refine' sp_steps.mk ?ew1 ?ew2 ?_; (case ew1 => walk_at "ewtup"); (case ew2 => walk_at "ewtup"))
  | (refine' sp__law_apart.mk ?ew1 ?ew2 ?_; (case ew1 => walk_at "ewtup"); (case ew2 => walk_at "ewtup"))
  | refine sp__law_is.mk ?_
  | (refine' sp__law_moved.mk ?ew1 ?ew2 ?ew3 ?ew4 ?ew5 ?ew6 ?ew7 ?_; (case ew1 => walk_at "ewdeck"); (case ew2 => walk_at "ewtup"); (case ew3 => walk_at "ewtup"); (case ew4 => assumption); (case ew5 => assumption); (case ew6 => assumption); (case ew7 => assumption))
  | (refine' sp__law_draw.mk ?ew1 ?ew2 ?ew3 ?_; (case ew1 => walk_at "ewdeck"); (case ew2 => omega); (case ew3 => omega)))
section
variable {P : Program} {w : World} {K : PySem.W.Frag} {mg : Str → Option Value} {base : Heap}
inductive sp__law_right : List V → Hp → VK → XK → Prop
  | mk {H : Hp} {Q : VK} {E : XK} {dk c a b d : Addr} {x y x' y' x'' y'' : Int} (hD : Deck H dk c) (h1 : H a = some (.tup [.int x, .int y])) (h2 : H b = some (.tup [.int x', .int y'])) (h3 : H d = some (.tup [.int x'', .int y''])) (b1 : Bd x) (b2 : Bd y) (b3 : Bd x') (b4 : Bd y')
    (k : ∀ H', Deck H' dk c → Evo [dk, c] H H' → Q (.bl true) H') : sp__law_right [.ref dk, .ref a, .ref b, .ref d] H Q E
set_option maxHeartbeats 1000000 in
theorem ok__law_right (T : Tx K mg) : FnOk P w K mg base CX0 3 T.a__law_right T.d__law_right ["_law_deck_here", "_law_one", "_law_other", "_law_third"] sp__law_right := by
  refine T.F__law_right.ok sc__law_right (fun vs H Q E h => by cases h; rfl) (fun cdv A outer s H vs Q E hr h => ?_)
  obtain @⟨_, _, _, dk, c, a, b, d, x, y, x', y', x'', y'', hD, h1, h2, h3, b1, b2, b3, b4, k⟩ := h
  refine ⟨_, (pss_cons (ps_set (i := 4) sc__law_right.nd rfl (Or.inl rfl) (pe_call (ok__law_apart T) (hr.mono (by decide)) rfl T.g__law_apart T.F__law_apart.kp T.b__law_apart .nil pass0 (pa_cons (pv 1) (pa_cons (pv 2) pa_nil))))
      (pss_cons (ps_if (PW.pt (pw_or (pt_not (pt_val (pe_call (ok__law_is T) (hr.mono (by decide)) rfl T.g__law_is T.F__law_is.kp T.b__law_is .nil pass0 (pa_cons (pe_call (ok_steps T) (hr.mono (by decide)) rfl T.g_steps T.F_steps.kp T.b_steps .nil pass0 (pa_cons (pv 1) (pa_cons (pv 2) pa_nil))) (pa_cons (pv 4) pa_nil))))) (pw_or (pt_not (pt_val (pe_call (ok__law_is T) (hr.mono (by decide)) rfl T.g__law_is T.F__law_is.kp T.b__law_is .nil pass0 (pa_cons (pe_call (ok_steps T) (hr.mono (by decide)) rfl T.g_steps T.F_steps.kp T.b_steps .nil pass0 (pa_cons (pv 2) (pa_cons (pv 1) pa_nil))) (pa_cons (pv 4) pa_nil))))) (pw_or1 (pt_not (pt_val (pe_call (ok__law_is T) (hr.mono (by decide)) rfl T.g__law_is T.F__law_is.kp T.b__law_is .nil pass0 (pa_cons (pe_call (ok_steps T) (hr.mono (by decide)) rfl T.g_steps T.F_steps.kp T.b_steps .nil pass0 (pa_cons (pv 1) (pa_cons (pv 1) pa_nil))) (pa_cons pe_int pa_nil))))))))) (pss_one (ps_ret pe_bl)) pss_nil)
      (pss_cons (ps_for PassesOwn.never rfl (pi_list (pe_lst (pa_cons (pe_tup (pa_cons (Ew.pe_revT (pv 1)) (pa_cons (Ew.pe_revT (pv 2)) pa_nil))) (pa_cons (pe_tup (pa_cons (pe_tup (pa_cons (pe_un un_neg (pe_ix (r := rIxT K) ix_tup (pv 1) pe_int (fun _ _ => rfl))) (pa_cons (pe_ix (r := rIxT K) ix_tup (pv 1) pe_int (fun _ _ => rfl)) pa_nil))) (pa_cons (pe_tup (pa_cons (pe_un un_neg (pe_ix (r := rIxT K) ix_tup (pv 2) pe_int (fun _ _ => rfl))) (pa_cons (pe_ix (r := rIxT K) ix_tup (pv 2) pe_int (fun _ _ => rfl)) pa_nil))) pa_nil))) pa_nil)))) (pg_tup (by rfl) (pgs_cons (pg_name (i := 5) sc__law_right.nd rfl (.inl rfl)) (pgs_cons (pg_name (i := 6) sc__law_right.nd rfl (.inl rfl)) pgs_nil)))
      (pss_one (ps_if (pt_not (pt_val (pe_call (ok__law_is T) (hr.mono (by decide)) rfl T.g__law_is T.F__law_is.kp T.b__law_is .nil pass0 (pa_cons (pe_call (ok_steps T) (hr.mono (by decide)) rfl T.g_steps T.F_steps.kp T.b_steps .nil pass0 (pa_cons (pv 5) (pa_cons (pv 6) pa_nil))) (pa_cons (pv 4) pa_nil))))) (pss_one (ps_ret pe_bl)) pss_nil)))
      (pss_cons (ps_asg (pe_call (ok__law_moved T) (hr.mono (by decide)) rfl T.g__law_moved T.F__law_moved.kp T.b__law_moved .nil pass0 (pa_cons (pv 0) (pa_cons (pv 1) (pa_cons (pv 2) pa_nil)))) (pg_unl rfl (pgs_cons (pg_name (i := 5) sc__law_right.nd rfl (.inl rfl)) (pgs_cons (pg_name (i := 6) sc__law_right.nd rfl (.inl rfl)) pgs_nil))))
      (pss_cons (ps_if (PW.pt (pw_or (pt_not (pt_val (pe_call (ok__law_is T) (hr.mono (by decide)) rfl T.g__law_is T.F__law_is.kp T.b__law_is .nil pass0 (pa_cons (pe_call (ok_steps T) (hr.mono (by decide)) rfl T.g_steps T.F_steps.kp T.b_steps .nil pass0 (pa_cons (pv 5) (pa_cons (pv 6) pa_nil))) (pa_cons (pv 4) pa_nil))))) (pw_or1 (pt_cmpR op_lt (pe_op op_add (pe_call (ok_steps T) (hr.mono (by decide)) rfl T.g_steps T.F_steps.kp T.b_steps .nil pass0 (pa_cons (pv 1) (pa_cons (pv 3) pa_nil))) (pe_call (ok_steps T) (hr.mono (by decide)) rfl T.g_steps T.F_steps.kp T.b_steps .nil pass0 (pa_cons (pv 3) (pa_cons (pv 2) pa_nil)))) (pv 4) (nomark _))))) (pss_one (ps_ret pe_bl)) pss_nil)
      (pss_cons (ps_set (i := 7) sc__law_right.nd rfl (Or.inl rfl) (pe_ix (r := rIxL K) ix_list (pe_lst (pa_cons pe_int (pa_cons (pe_un un_neg pe_int) pa_nil))) (pe_callTy call_int1 (by rfl) T.n_int (by decide +kernel) (pa_cons (pe_cmpR op_gt (pe_ix (r := rIxT K) ix_tup (pv 1) pe_int (fun _ _ => rfl)) pe_int (nomark _)) pa_nil)) (fun _ _ => rfl)))
      (pss_cons (ps_set (i := 8) sc__law_right.nd rfl (Or.inl rfl) (pe_tup (pa_cons (pe_op op_add (pe_ix (r := rIxT K) ix_tup (pv 1) pe_int (fun _ _ => rfl)) (pv 7)) (pa_cons (pe_ix (r := rIxT K) ix_tup (pv 1) pe_int (fun _ _ => rfl)) pa_nil))))
      (pss_cons (ps_set (i := 9) sc__law_right.nd rfl (Or.inl rfl) (pe_call (ok_steps T) (hr.mono (by decide)) rfl T.g_steps T.F_steps.kp T.b_steps .nil pass0 (pa_cons (pv 8) (pa_cons (pv 2) pa_nil))))
      (pss_one (ps_ret (pe_and (pe_call (ok__law_is T) (hr.mono (by decide)) rfl T.g__law_is T.F__law_is.kp T.b__law_is .nil pass0 (pa_cons (pv 9) (pa_cons (pe_call (ok__law_apart T) (hr.mono (by decide)) rfl T.g__law_apart T.F__law_apart.kp T.b__law_apart .nil pass0 (pa_cons (pv 8) (pa_cons (pv 2) pa_nil))) pa_nil))) (pe_one (pe_cmpR (r := rIn K false) op_in_seq (pv 9) (pe_tup (pa_cons (pe_op op_sub (pv 4) pe_int) (pa_cons (pe_op op_add (pv 4) pe_int) pa_nil))) (by rfl)))))))))))))), ?_⟩
  repeat walk_at "ew"
  refine iteN (fun h => absurd rfl h) (fun _ => ?_)
  repeat walk_at "ew"
  refine iteN (fun h => absurd (by walk_at "ewar") h) (fun _ => ?_)
  repeat walk_at "ew"
  refine iteN (fun h => absurd (by walk_at "ewar") h) (fun _ => ?_)
  repeat walk_at "ew"
  rename_i p1 hp1 p2 hp2 p3 hp3 p4 hp4 p5 hp5 p6 hp6 p7 hp7
  refine ⟨⟨_, SqL.of upd_same⟩, for_list (K := K) (a := p7) (xs := [.ref p3, .ref p6]) (fun i σ H' => ∃ u5 u6, σ = [some (.ref dk), some (.ref a), some (.ref b), some (.ref d), some (.int (ab (x - x') + ab (y - y'))), u5, u6, none, none, none] ∧
    H' p7 = some (.lst [.ref p3, .ref p6]) ∧ H' p3 = some (.tup [.ref p1, .ref p2]) ∧ H' p6 = some (.tup [.ref p4, .ref p5]) ∧ H' p1 = some (.tup [.int y, .int x]) ∧ H' p2 = some (.tup [.int y', .int x']) ∧ H' p4 = some (.tup [.int (-x), .int y]) ∧ H' p5 = some (.tup [.int (-x'), .int y']) ∧ Deck H' dk c ∧ Evo [dk, c] H H')
    ?_ ?_ ?_ ?_⟩
  · exact ⟨_, _, rfl, upd_same, by walk_at "ewtup", by walk_at "ewtup", by walk_at "ewtup", by walk_at "ewtup", by walk_at "ewtup", by walk_at "ewtup", by walk_at "ewdeck", by walk_at "ewevo"⟩
  · rintro i σ H' _ ⟨u5, u6, rfl, g7, _⟩
    exact SqL.of g7
  · rintro i z σ H' hz ⟨u5, u6, rfl, g7, g3, g6, g1, g2, g4, g5, gD, gE⟩
    match i, hz with
    | 0, hz =>
      cases hz
      repeat walk_at "ew"
      refine iteN (fun h => absurd (by walk_at "ewar") h) (fun _ => ?_)
      exact ⟨_, _, rfl, g7, g3, g6, g1, g2, g4, g5, gD, gE⟩
    | 1, hz =>
      cases hz
      repeat walk_at "ew"
      refine iteN (fun h => absurd (by walk_at "ewar") h) (fun _ => ?_)
      exact ⟨_, _, rfl, g7, g3, g6, g1, g2, g4, g5, gD, gE⟩
  · rintro σ H' ⟨u5, u6, rfl, g7, g3, g6, g1, g2, g4, g5, gD, gE⟩
    clear g7 g3 g6 g1 g2 g4 g5 hp1 hp2 hp3 hp4 hp5 hp6 hp7
    have ha := gE.tupE h1
    have hb := gE.tupE h2
    have hd := gE.tupE h3
    repeat walk_at "ew"
    intro H2 l p q u v hl hp hq hD2 e2
    repeat walk_at "ew"
    refine iteN (fun h => absurd (by walk_at "ewar") h) (fun _ => ?_)
    repeat walk_at "ew"
    refine iteD (fun h => absurd h (by walk_at "ewar")) (fun _ => ?_)
    repeat walk_at "ew"
    all_goals
      repeat walk_at "ew"
      refine iteD (fun _ => ?_) (fun h => absurd (by rfl) h)
      repeat walk_at "ew"
      refine Qeq (Q := Q) (congrArg V.bl ?_) (k _ (by walk_at "ewdeck") (by walk_at "ewevo"))
      refine Eq.symm ?_
      show inV _ ([_, _].map V.int) = true
      rw [inI, decide_eq_true_eq]
      simp only [List.mem_cons, List.not_mem_nil, or_false]
      first | (have hb'' : 0 < x := of_decide_eq_true ‹decide (0 < x) = true›; walk_at "ewar") | (have hb'' : ¬ 0 < x := of_decide_eq_false ‹decide (0 < x) = false›; walk_at "ewar")
end
end
section
local macro_rules | `(tactic| walk_at "ewc") => `(tactic| first
  | (show (0 : Int) < _; omega)
  | (show (0 : Int) < _; decide)
  | (refine ⟨?_, ?_⟩ <;> omega)
  | exact Or.inl ⟨by omega, by omega⟩
  | exact Or.inr ⟨by omega, by omega⟩)
local macro_rules | `(tactic| walk_at "ewar") => `(tactic| first
  | omega
  | (simp only [Ew.ab]; repeat' split
     all_goals omega))
local macro_rules | `(tactic| walk_at "ewtup") => `(tactic| first
  | assumption
  | exact upd_same
  | (refine' Ew.get_new ?ew1 ?ew2; (case ew1 => assumption); (case ew2 => walk_at "ewtup"))
  | (refine' Ew.getI_mut ?ew1 ?ew2 rfl; (case ew1 => walk_at "ewlst"); (case ew2 => walk_at "ewtup"))
  | (refine' Ew.getI_mutD ?ew1 ?ew2 rfl; (case ew1 => assumption); (case ew2 => walk_at "ewtup"))
  | (refine' Ew.Evo.getI ?ew1 ?ew2 rfl; (case ew1 => assumption); (case ew2 => walk_at "ewtup")))
local macro_rules | `(tactic| walk_at "ewlst") => `(tactic| first
  | assumption
  | exact upd_same
  | (refine' Ew.get_new ?ew1 ?ew2; (case ew1 => assumption); (case ew2 => walk_at "ewlst"))
  | (refine' Ew.get_ne ?ew1 ?ew2; (case ew1 => assumption); (case ew2 => walk_at "ewlst"))
  | (refine' Ew.Evo.get ?ew1 ?ew2 ?ew3; (case ew1 => assumption); (case ew2 => walk_at "ewoff"); (case ew3 => walk_at "ewlst")))
local macro_rules | `(tactic| walk_at "ewoff") => `(tactic| first
  | assumption
  | exact List.not_mem_nil
  | (refine' Ew.Deck.off' ?ew1 ?ew2; (case ew1 => assumption); (case ew2 => walk_at "ewdeck")))
local macro_rules | `(tactic| walk_at "ewdeck") => `(tactic| first
  | assumption
  | (refine' Ew.Deck.new ?ew1 ?ew2; (case ew2 => assumption); (case ew1 => walk_at "ewdeck"))
  | (refine' Ew.Deck.mut ?ew1 ?ew2; (case ew2 => walk_at "ewoff"); (case ew1 => walk_at "ewdeck")))
local macro_rules | `(tactic| walk_at "ewevo") => `(tactic| first
  | assumption
  | exact Ew.Evo.refl _ _
  | (refine' Ew.Evo.new ?ew1 ?ew2; (case ew2 => assumption); (case ew1 => walk_at "ewevo"))
  | (refine' Ew.Evo.mut ?ew1 ?ew2; (case ew2 => assumption); (case ew1 => walk_at "ewevo"))
  | (refine' Ew.Evo.trans ?ew1 ?ew2; (case ew2 => assumption); (case ew1 => walk_at "ewevo"))
  | (refine' Ew.Evo.call0 ?ew1 ?ew2; (case ew2 => assumption); (case ew1 => walk_at "ewevo")))
local macro_rules | `(tactic| walk_at "ewlen") => `(tactic| first
  | exact Nat.le_of_ble_eq_true rfl
  | omega
  | (simp only [List.length_map, List.length_append, List.length_cons, List.length_nil]; omega))
local macro_rules | `(tactic| walk_at "ewcall") => `(tactic| fail)
local macro_rules | `(tactic| walk_at "ew") => `(tactic| first
  | walk_at "ewcall"
  | refine ⟨_, rfl, ?_⟩
  | refine iteT ?_
  | refine iteF ?_
  | refine ⟨_, _, rfl, rfl, ?_⟩
  | (refine' Ew.ixT (SqT.of ?ew1) ?ew2 ?_; (case ew1 => walk_at "ewtup"); (case ew2 => rfl))
  | (refine' Ew.ixL (SqL.of ?ew1) ?ew2 ?_; (case ew1 => walk_at "ewlst"); (case ew2 => rfl))
  | (refine' ⟨_, ?_, rfl, SqT.of ?ew1, ?ew2, ?_⟩; (case ew1 => walk_at "ewtup"); (case ew2 => rfl))
  | (refine' ⟨_, ?_, rfl, SqL.of ?ew1, ?ew2, ?_⟩; (case ew1 => walk_at "ewlst"); (case ew2 => rfl))
  | refine ⟨_, _, rfl, ?_⟩
  | (refine' ⟨_, ?_, rfl, Or.inr (SqT.of ?ew1), rfl, ?ew2, ?_⟩; (case ew1 => walk_at "ewtup"); (case ew2 => rfl))
  | refine Or.inr ⟨_, rfl, ?_⟩
  | refine ⟨rfl, rfl, ?_⟩
  | refine ⟨rfl, ?_⟩
  | refine Ew.ii_ii ?_
  | refine Ew.ii_ib ?_
  | refine Ew.ii_bb ?_
  | (refine' Ew.ii_tt ?ew1 ?_; (case ew1 => walk_at "ewtup"))
  | refine ⟨Ew.sz (Nat.le_of_ble_eq_true rfl), fun p hp => ?_⟩
  | (refine' ⟨_, ?_, ?_, rfl, SqT.of ?ew1, fun p hp => ?_⟩; (case ew1 => walk_at "ewtup"))
  | (refine' ⟨Or.inl ⟨rfl, ?_, SqL.of ?ew1⟩, ?_⟩; (case ew1 => walk_at "ewlst"))
  | (refine' Ew.apd ?ew1 ?ew2 ?_; (case ew1 => walk_at "ewlst"); (case ew2 => walk_at "ewlen"))
  | (refine' ⟨?_, Ew.eqT ?ew1 ?ew2 ?ew3 ?ew4, ?_⟩; (case ew1 => walk_at "ewtup"); (case ew2 => walk_at "ewtup"); (case ew3 => rfl); (case ew4 => rfl))
  | (refine' Ew.lenT (SqT.of ?ew1) ?_; (case ew1 => walk_at "ewtup"))
  | (refine' Ew.lenL (SqL.of ?ew1) ?_; (case ew1 => walk_at "ewlst"))
  | refine ⟨by walk_at "ewc", ?_⟩
  | (refine' Ew.ixB (SqL.of ?ew1) (fun hb => ?_) (fun hb => ?_); (case ew1 => walk_at "ewlst")))
local macro_rules | `(tactic| walk_at "ewcall") => `(tactic| first
  | (refine' sp__law_number.mk ?ew1 ?ew2 ?ew3 ?_; (case ew1 => walk_at "ewdeck"); (case ew2 => omega); (case ew3 => omega))
  | (refine' sp__law_draw.mk ?ew1 ?ew2 ?ew3 ?_; (case ew1 => walk_at "ewdeck"); (case ew2 => omega); (case ew3 => omega)))
section
variable {P : Program} {w : World} {K : PySem.W.Frag} {mg : Str → Option Value} {base : Heap}
/-- a list of places -/
def PlacesAt (H : Hp) (l : Addr) (rs : List (List Int)) : Prop := ∃ vs, H l = some (.lst vs) ∧ RowsAt H vs rs ∧ ∀ r ∈ rs, ∃ x y, r = [x, y] ∧ Bd x ∧ Bd y
def sp_law (K : PySem.W.Frag) : Sp := fun vs H Q _ => ∃ (a : Addr) (ns : List Int), vs = [.ref a] ∧ SqL K H a (ns.map V.int) ∧ ns.length ≤ 63 ∧ ∀ H', Q (.bl true) H'
set_option maxHeartbeats 2000000 in
theorem ok_law (T : Tx K mg) : FnOk P w K mg base CX0 4 T.a_law T.d_law ["_law_script"] (sp_law K) := by
  refine T.F_law.ok sc_law (fun vs H Q E h => ?_) (fun cdv A outer s H vs Q E hr h => ?_)
  · obtain ⟨a, ns, rfl, _⟩ := h
    rfl
  obtain ⟨a, ns, rfl, hS, hn, k⟩ := h
  refine ⟨_, (pss_cons (ps_set (i := 1) sc_law.nd rfl (Or.inl rfl) (pe_call (ok__law_deck T) (hr.mono (by decide)) rfl T.g__law_deck T.F__law_deck.kp T.b__law_deck .nil pass0 (pa_cons (pv 0) pa_nil)))
      (pss_cons (ps_for PassesOwn.never rfl (pi_range1 (by rfl) T.n_range (pa_cons pe_int pa_nil)) (pg_name (i := 2) sc_law.nd rfl (.inl rfl))
      (pss_cons (ps_set (i := 3) sc_law.nd rfl (Or.inl rfl) (pe_call (ok__law_draw T) (hr.mono (by decide)) rfl T.g__law_draw T.F__law_draw.kp T.b__law_draw .nil pass0 (pa_cons (pv 1) (pa_cons pe_int pa_nil))))
      (pss_cons (ps_set (i := 4) sc_law.nd rfl (Or.inl rfl) (pe_lst pa_nil))
      (pss_cons (ps_for PassesOwn.never rfl (pi_range1 (by rfl) T.n_range (pa_cons pe_int pa_nil)) (pg_name (i := 5) sc_law.nd rfl (.inl rfl))
      (pss_cons (ps_set (i := 6) sc_law.nd rfl (Or.inl rfl) (pe_cmpR Ew.op_eqI (pe_call (ok__law_draw T) (hr.mono (by decide)) rfl T.g__law_draw T.F__law_draw.kp T.b__law_draw .nil pass0 (pa_cons (pv 1) (pa_cons pe_int pa_nil))) pe_int (nomark _)))
      (pss_cons (ps_set (i := 7) sc_law.nd rfl (Or.inl rfl) (pe_tup (pa_cons (pe_call (ok__law_number T) (hr.mono (by decide)) rfl T.g__law_number T.F__law_number.kp T.b__law_number .nil pass0 (pa_cons (pv 1) (pa_cons (pv 3) pa_nil))) (pa_cons (pe_call (ok__law_number T) (hr.mono (by decide)) rfl T.g__law_number T.F__law_number.kp T.b__law_number .nil pass0 (pa_cons (pv 1) (pa_cons (pv 3) pa_nil))) pa_nil))))
      (pss_cons (ps_if (PW.pt (pw_and (pt_val (pv 6)) (pw_and1 (pt_cmpR (r := Ew.rNeX K) (Ew.op_neX hr.units) (pv 4) (pe_lst pa_nil) (nomark _))))) (pss_one (ps_set (i := 7) sc_law.nd rfl (Or.inl rfl) (pe_ix (r := rIxL K) ix_list (pe_lst (pa_cons (pe_ix (r := rIxL K) ix_list (pv 4) (pe_un un_neg pe_int) (fun _ _ => rfl)) (pa_cons (pe_tup (pa_cons (pe_ix (r := rIxT K) ix_tup (pe_ix (r := rIxL K) ix_list (pv 4) (pe_un un_neg pe_int) (fun _ _ => rfl)) pe_int (fun _ _ => rfl)) (pa_cons (pe_ix (r := rIxT K) ix_tup (pv 7) pe_int (fun _ _ => rfl)) pa_nil))) pa_nil))) (pe_call (ok__law_draw T) (hr.mono (by decide)) rfl T.g__law_draw T.F__law_draw.kp T.b__law_draw .nil pass0 (pa_cons (pv 1) (pa_cons pe_int pa_nil))) (fun _ _ => rfl)))) pss_nil)
      (pss_one (ps_expr (pe_bm PySem.F.plainAttrs_list PySem.F.slot_list_append PySem.F.type_list_append mt_append (pv 4) (pa_cons (pv 7) pa_nil))))))))
      (pss_one (ps_if (pt_not (pt_val (pe_call (ok__law_right T) (hr.mono (by decide)) rfl T.g__law_right T.F__law_right.kp T.b__law_right .nil pass0 (pa_cons (pv 1) (pa_cons (pe_ix (r := rIxL K) ix_list (pv 4) pe_int (fun _ _ => rfl)) (pa_cons (pe_ix (r := rIxL K) ix_list (pv 4) pe_int (fun _ _ => rfl)) (pa_cons (pe_ix (r := rIxL K) ix_list (pv 4) pe_int (fun _ _ => rfl)) pa_nil))))))) (pss_one (ps_ret pe_bl)) pss_nil))))))
      (pss_one (ps_ret pe_bl)))), ?_⟩
  refine ⟨_, rfl, sp__law_deck.mk hS hn (fun H1 dk c hD1 _ _ _ => ?_)⟩
  refine ⟨8, rfl, by decide, by decide, for_range (n := 8) (fun i σ H' => ∃ u2 u3 u4 u5 u6 u7, σ = [some (.ref a), some (.ref dk), u2, u3, u4, u5, u6, u7] ∧ Deck H' dk c)
    ⟨_, _, _, _, _, _, rfl, hD1⟩ ?_ ?_⟩
  · rintro i σ H2 hi ⟨u2, u3, u4, u5, u6, u7, rfl, hD2⟩
    repeat walk_at "ew"
    intro H3 way w0 w1 hD3 _
    refine ⟨sz (by decide), fun l hl => ?_⟩
    have ol := hD3.off hl
    refine ⟨3, rfl, by decide, by decide, for_range (n := 3) (fun j σ H' => ∃ v5 v6 v7 rs, σ = [some (.ref a), some (.ref dk), some (.int (0 + i)), some (.int way), some (.ref l), v5, v6, v7] ∧ Deck H' dk c ∧ PlacesAt H' l rs ∧ rs.length = j)
      ⟨_, _, _, [], rfl, hD3.new hl, ⟨[], upd_same, .nil, by intro r h; cases h⟩, rfl⟩ ?_ ?_⟩
    · rintro j σ H4 hj ⟨v5, v6, v7, rs, rfl, hD4, ⟨vs, hl4, hR4, hB⟩, hlen⟩
      repeat walk_at "ew"
      intro H5 r r0 r1 hD5 e5
      repeat walk_at "ew"
      intro H6 x x0 x1 hD6 e6
      repeat walk_at "ew"
      intro H7 y y0 y1 hD7 e7
      repeat walk_at "ew"
      rename_i p hp
      have hl7 : H7 l = some (.lst vs) := by walk_at "ewlst"
      have hR7 : RowsAt H7 vs rs := ((hR4.evo e5).evo e6).evo e7
      have hvl : vs.length ≤ 3 := by rw [hR4.length]; omega
      have hl8 : upd H7 p (.tup [.int x, .int y]) l = some (.lst vs) := get_new hp hl7
      have hR8 : RowsAt (upd H7 p (.tup [.int x, .int y])) vs rs := hR7.new hp
      have hD8 : Deck (upd H7 p (.tup [.int x, .int y])) dk c := hD7.new hp
      have hp8 : upd H7 p (.tup [.int x, .int y]) p = some (.tup [.int x, .int y]) := upd_same
      refine iteD (fun _ => ?_) (fun _ => ?_)
      · repeat walk_at "ew"
        rename_i e he
        refine ⟨_, eqNil (get_new he hl8) (hR8.new he) upd_same, ?_⟩
        repeat walk_at "ew"
        refine iteN (fun hne => ?_) (fun hnil => ?_)
        · obtain ⟨vs', q, rs', r', rfl, rfl, hq⟩ := hR7.last hne
          obtain ⟨x', y', rfl, bx, bY⟩ := hB r' (List.mem_append_right _ List.mem_cons_self)
          have hq' : H7 q = some (.tup [.int x', .int y']) := hq
          repeat walk_at "ew"
          refine Ew.ixL (SqL.of (by walk_at "ewlst")) (atI_last _ _) ?_
          repeat walk_at "ew"
          refine Ew.ixL (SqL.of (by walk_at "ewlst")) (atI_last _ _) ?_
          repeat walk_at "ew"
          rename_i p2 hp2 p3 hp3
          intro H8 z z0 z1 hD9 e9
          have hl9 : H8 l = some (.lst (vs' ++ [.ref q])) := by walk_at "ewlst"
          have hR9 : RowsAt H8 (vs' ++ [.ref q]) (rs' ++ [[x', y']]) := (((hR8.new he).new hp2).new hp3).evo e9
          obtain rfl | rfl : z = 0 ∨ z = 1 := by omega
          · repeat walk_at "ew"
            have h9 : H8 q = some (.tup ([x', y'].map V.int)) := by walk_at "ewtup"
            refine ⟨_, _, _, _ ++ [[x', y']], rfl, hD9.mut ol, ⟨_, upd_same, (hR9.snoc h9).mut hl9, ?_⟩, by rw [List.length_append, hlen]; rfl⟩
            intro r hr
            rcases List.mem_append.mp hr with h | h
            · exact hB r h
            · rw [List.mem_singleton.mp h]; exact ⟨_, _, rfl, bx, bY⟩
          · repeat walk_at "ew"
            have h9 : H8 p2 = some (.tup ([x', y].map V.int)) := by walk_at "ewtup"
            refine ⟨_, _, _, _ ++ [[x', y]], rfl, hD9.mut ol, ⟨_, upd_same, (hR9.snoc h9).mut hl9, ?_⟩, by rw [List.length_append, hlen]; rfl⟩
            intro r hr
            rcases List.mem_append.mp hr with h | h
            · exact hB r h
            · rw [List.mem_singleton.mp h]; exact ⟨_, _, rfl, bx, ⟨y0, y1⟩⟩
        · repeat walk_at "ew"
          refine ⟨_, _, _, _ ++ [[x, y]], rfl, (hD8.new he).mut ol, ⟨_, upd_same, ((hR8.new he).snoc (r := [x, y]) (get_new he hp8)).mut (get_new he hl8), ?_⟩, by rw [List.length_append, hlen]; rfl⟩
          intro r hr
          rcases List.mem_append.mp hr with h | h
          · exact hB r h
          · rw [List.mem_singleton.mp h]; exact ⟨_, _, rfl, ⟨x0, x1⟩, ⟨y0, y1⟩⟩
      · repeat walk_at "ew"
        refine ⟨_, _, _, _ ++ [[x, y]], rfl, hD8.mut ol, ⟨_, upd_same, (hR8.snoc (r := [x, y]) hp8).mut hl8, ?_⟩, by rw [List.length_append, hlen]; rfl⟩
        intro r hr
        rcases List.mem_append.mp hr with h | h
        · exact hB r h
        · rw [List.mem_singleton.mp h]; exact ⟨_, _, rfl, ⟨x0, x1⟩, ⟨y0, y1⟩⟩
    · rintro σ H4 ⟨v5, v6, v7, rs, rfl, hD4, ⟨vs, hl4, hR4, hB⟩, hlen⟩
      match rs, hlen, hR4 with
      | [r1, r2, r3], _, .cons (a := q1) g1 (.cons (a := q2) g2 (.cons (a := q3) g3 .nil)) =>
        obtain ⟨x1, y1, rfl, b1, b2⟩ := hB r1 (by simp)
        obtain ⟨x2, y2, rfl, b3, b4⟩ := hB r2 (by simp)
        obtain ⟨x3, y3, rfl, b5, b6⟩ := hB r3 (by simp)
        have g1' : H4 q1 = some (.tup [.int x1, .int y1]) := g1
        have g2' : H4 q2 = some (.tup [.int x2, .int y2]) := g2
        have g3' : H4 q3 = some (.tup [.int x3, .int y3]) := g3
        repeat walk_at "ew"
        refine sp__law_right.mk hD4 g1' g2' g3' b1 b2 b3 b4 (fun H5 hD5 _ => ?_)
        repeat walk_at "ew"
        exact ⟨_, _, _, _, _, _, rfl, hD5⟩
  · rintro σ H2 ⟨u2, u3, u4, u5, u6, u7, rfl, hD2⟩
    exact k _
end
end
theorem all_mk {l : PySem.W.OpenLaw} {w : World} {K : PySem.W.Frag} {h : Heap} {mg : Str → Option Value} {fa : Addr} (X : K.In h) (G : h.Ns mainGlobals mg) (hfa : mg "law" = some (.ref fa))
    {f0 f1 f2 f3 f4 f5 f6 f7 f8 : Addr}
    {od0 an0 od1 an1 od2 an2 od3 an3 od4 an4 od5 an5 od6 an6 od7 an7 od8 an8 : Option Addr} {sl0 sl1 sl2 sl3 sl4 sl5 sl6 sl7 sl8 : Array (Option Value)} {oc0 kV0 dc0 pm0 cd0 ct0 oc1 kV1 dc1 pm1 cd1 ct1 oc2 kV2 dc2 pm2 cd2 ct2 oc3 kV3 dc3 pm3 cd3 ct3 oc4 kV4 dc4 pm4 cd4 ct4 oc5 kV5 dc5 pm5 cd5 ct5 oc6 kV6 dc6 pm6 cd6 ct6 oc7 kV7 dc7 pm7 cd7 ct7 oc8 kV8 dc8 pm8 cd8 ct8 : Value}
    (a0 : PySem.W.nsIn K mainGlobals "steps" = some (some (.ref f0))) (l0 : K.lookup f0 = some ⟨oc0, od0, .func (PySem.W.fnOf "steps" "steps" (defArgs s_steps) (defBody s_steps) (defScope s_steps) .none kV0 dc0 pm0 an0 cd0 ct0), sl0⟩) (c0 : PySem.W.codeIn K cd0 "steps" = true) (k0 : PySem.W.keepIn K (.ref f0) = true)
    (a1 : PySem.W.nsIn K mainGlobals "_law_deck" = some (some (.ref f1))) (l1 : K.lookup f1 = some ⟨oc1, od1, .func (PySem.W.fnOf "_law_deck" "_law_deck" (defArgs s__law_deck) (defBody s__law_deck) (defScope s__law_deck) .none kV1 dc1 pm1 an1 cd1 ct1), sl1⟩) (c1 : PySem.W.codeIn K cd1 "_law_deck" = true) (k1 : PySem.W.keepIn K (.ref f1) = true)
    (a2 : PySem.W.nsIn K mainGlobals "_law_draw" = some (some (.ref f2))) (l2 : K.lookup f2 = some ⟨oc2, od2, .func (PySem.W.fnOf "_law_draw" "_law_draw" (defArgs s__law_draw) (defBody s__law_draw) (defScope s__law_draw) .none kV2 dc2 pm2 an2 cd2 ct2), sl2⟩) (c2 : PySem.W.codeIn K cd2 "_law_draw" = true) (k2 : PySem.W.keepIn K (.ref f2) = true)
    (a3 : PySem.W.nsIn K mainGlobals "_law_number" = some (some (.ref f3))) (l3 : K.lookup f3 = some ⟨oc3, od3, .func (PySem.W.fnOf "_law_number" "_law_number" (defArgs s__law_number) (defBody s__law_number) (defScope s__law_number) .none kV3 dc3 pm3 an3 cd3 ct3), sl3⟩) (c3 : PySem.W.codeIn K cd3 "_law_number" = true) (k3 : PySem.W.keepIn K (.ref f3) = true)
    (a4 : PySem.W.nsIn K mainGlobals "_law_apart" = some (some (.ref f4))) (l4 : K.lookup f4 = some ⟨oc4, od4, .func (PySem.W.fnOf "_law_apart" "_law_apart" (defArgs s__law_apart) (defBody s__law_apart) (defScope s__law_apart) .none kV4 dc4 pm4 an4 cd4 ct4), sl4⟩) (c4 : PySem.W.codeIn K cd4 "_law_apart" = true) (k4 : PySem.W.keepIn K (.ref f4) = true)
    (a5 : PySem.W.nsIn K mainGlobals "_law_is" = some (some (.ref f5))) (l5 : K.lookup f5 = some ⟨oc5, od5, .func (PySem.W.fnOf "_law_is" "_law_is" (defArgs s__law_is) (defBody s__law_is) (defScope s__law_is) .none kV5 dc5 pm5 an5 cd5 ct5), sl5⟩) (c5 : PySem.W.codeIn K cd5 "_law_is" = true) (k5 : PySem.W.keepIn K (.ref f5) = true)
    (a6 : PySem.W.nsIn K mainGlobals "_law_moved" = some (some (.ref f6))) (l6 : K.lookup f6 = some ⟨oc6, od6, .func (PySem.W.fnOf "_law_moved" "_law_moved" (defArgs s__law_moved) (defBody s__law_moved) (defScope s__law_moved) .none kV6 dc6 pm6 an6 cd6 ct6), sl6⟩) (c6 : PySem.W.codeIn K cd6 "_law_moved" = true) (k6 : PySem.W.keepIn K (.ref f6) = true)
    (a7 : PySem.W.nsIn K mainGlobals "_law_right" = some (some (.ref f7))) (l7 : K.lookup f7 = some ⟨oc7, od7, .func (PySem.W.fnOf "_law_right" "_law_right" (defArgs s__law_right) (defBody s__law_right) (defScope s__law_right) .none kV7 dc7 pm7 an7 cd7 ct7), sl7⟩) (c7 : PySem.W.codeIn K cd7 "_law_right" = true) (k7 : PySem.W.keepIn K (.ref f7) = true)
    (a8 : PySem.W.nsIn K mainGlobals "law" = some (some (.ref f8))) (l8 : K.lookup f8 = some ⟨oc8, od8, .func (PySem.W.fnOf "law" "law" (defArgs s_law) (defBody s_law) (defScope s_law) .none kV8 dc8 pm8 an8 cd8 ct8), sl8⟩) (c8 : PySem.W.codeIn K cd8 "law" = true) (k8 : PySem.W.keepIn K (.ref f8) = true)
    (z_abs : PySem.W.nsIn K mainGlobals "abs" = some none)
    (z_sum : PySem.W.nsIn K mainGlobals "sum" = some none)
    (z_list : PySem.W.nsIn K mainGlobals "list" = some none)
    (z_max : PySem.W.nsIn K mainGlobals "max" = some none)
    (z_min : PySem.W.nsIn K mainGlobals "min" = some none)
    (z_isinstance : PySem.W.nsIn K mainGlobals "isinstance" = some none)
    (z_bool : PySem.W.nsIn K mainGlobals "bool" = some none)
    (z_int : PySem.W.nsIn K mainGlobals "int" = some none)
    (z_range : PySem.W.nsIn K mainGlobals "range" = some none)
    : ∃ fd : FuncData, (∀ (s : Shared) (v : Value), BindsTo s fd ⟨[v], []⟩ [("_law_script", v)]) ∧ ∀ base : Heap, K.In base → base.Ns mainGlobals mg → FnOk l.prog w K mg base CX0 4 fa fd ["_law_script"] (sp_law K) := by
  have e := hfa.symm.trans (PySem.W.mg_of X G a8)
  cases e
  have F0 := fun_mk (st := s_steps) l0 c0 k0
  have F1 := fun_mk (st := s__law_deck) l1 c1 k1
  have F2 := fun_mk (st := s__law_draw) l2 c2 k2
  have F3 := fun_mk (st := s__law_number) l3 c3 k3
  have F4 := fun_mk (st := s__law_apart) l4 c4 k4
  have F5 := fun_mk (st := s__law_is) l5 c5 k5
  have F6 := fun_mk (st := s__law_moved) l6 c6 k6
  have F7 := fun_mk (st := s__law_right) l7 c7 k7
  have F8 := fun_mk (st := s_law) l8 c8 k8
  have b0 := F0.binds (ps := ["one", "other"]) fun _ _ _ _ _ _ us hl => match us, hl with | [_, _], _ => rfl
  have b1 := F1.binds (ps := ["_law_script"]) fun _ _ _ _ _ _ us hl => match us, hl with | [_], _ => rfl
  have b2 := F2.binds (ps := ["_law_deck_here", "_law_most"]) fun _ _ _ _ _ _ us hl => match us, hl with | [_, _], _ => rfl
  have b3 := F3.binds (ps := ["_law_deck_here", "_law_way"]) fun _ _ _ _ _ _ us hl => match us, hl with | [_, _], _ => rfl
  have b4 := F4.binds (ps := ["_law_one", "_law_other"]) fun _ _ _ _ _ _ us hl => match us, hl with | [_, _], _ => rfl
  have b5 := F5.binds (ps := ["_law_found", "_law_due"]) fun _ _ _ _ _ _ us hl => match us, hl with | [_, _], _ => rfl
  have b6 := F6.binds (ps := ["_law_deck_here", "_law_one", "_law_other"]) fun _ _ _ _ _ _ us hl => match us, hl with | [_, _, _], _ => rfl
  have b7 := F7.binds (ps := ["_law_deck_here", "_law_one", "_law_other", "_law_third"]) fun _ _ _ _ _ _ us hl => match us, hl with | [_, _, _, _], _ => rfl
  have b8 := F8.binds (ps := ["_law_script"]) fun _ _ _ _ _ _ us hl => match us, hl with | [_], _ => rfl
  let T : Tx K mg := ⟨_, _, F0, b0, PySem.W.mg_of X G a0, _, _, F1, b1, PySem.W.mg_of X G a1, _, _, F2, b2, PySem.W.mg_of X G a2, _, _, F3, b3, PySem.W.mg_of X G a3, _, _, F4, b4, PySem.W.mg_of X G a4, _, _, F5, b5, PySem.W.mg_of X G a5, _, _, F6, b6, PySem.W.mg_of X G a6, _, _, F7, b7, PySem.W.mg_of X G a7, _, _, F8, b8, PySem.W.mg_of X G a8, PySem.W.mg_none_of X G z_abs, PySem.W.mg_none_of X G z_sum, PySem.W.mg_none_of X G z_list, PySem.W.mg_none_of X G z_max, PySem.W.mg_none_of X G z_min, PySem.W.mg_none_of X G z_isinstance, PySem.W.mg_none_of X G z_bool, PySem.W.mg_none_of X G z_int, PySem.W.mg_none_of X G z_range⟩
  exact ⟨PySem.W.fnOf "law" "law" (defArgs s_law) (defBody s_law) (defScope s_law) .none kV8 dc8 pm8 an8 cd8 ct8, fun s v => .of_eq rfl, fun base _ _ => ok_law T⟩
theorem walk {l : PySem.W.OpenLaw} {q : Program} {loose : List Str} {XP : (Str → Option Value) → Heap → Prop} {YP : World → Heap → Prop} {d : DefRec} {K : Params → PySem.W.Frag} (hn : l.most = some 63) (hdf : d.params.defaults = [])
    (hY : ∀ (w : World) (h : Heap), YP w h → (K w.params).In h)
    (F : ∀ (w : World) (mg : Str → Option Value) (fa : Addr) (h : Heap), (K w.params).In h → h.Ns mainGlobals mg → mg d.name = some (.ref fa) →
      ∃ fd : FuncData, (∀ (s : Shared) (u : Value), BindsTo s fd ⟨[u], []⟩ [("_law_script", u)]) ∧ ∀ base : Heap, (K w.params).In base → base.Ns mainGlobals mg → FnOk l.prog w (K w.params) mg base CX0 4 fa fd ["_law_script"] (sp_law (K w.params))) :
    PySem.W.WalkO q loose XP YP l.row.toRowW d [] (fun f vs => PySem.call f vs) :=
  L2.walk_of (n := 63) (k := 4) (x := "_law_script") (CX := fun _ => CX0) (sp := fun w => sp_law (K w.params)) hn (by decide) hdf ⟨rfl, by decide, by decide⟩ hY F (fun _ _ a ns hl _ hS => ⟨a, ns, rfl, hS, hl, fun _ => rfl⟩) fun _ _ _ _ _ z => z
end Ew
open PySem PySem.W PyProof.Rows
set_option maxRecDepth 100000 in
set_option maxHeartbeats 0 in
theorem PySem.Challenge.cw_evenwires_k03_steps_along_streets_holds : PySem.Challenge.rw_evenwires_k03_steps_along_streets.Holds := by
  w_on; o_law; k_head; (case hw => w_witness2)
  k_fill
  refine Ew.walk (l := PySem.Challenge.rw_evenwires_k03_steps_along_streets) rfl rfl (fun w h Y => PySem.W.kIn_of Y) ?F
  case F =>
    intro w mg fa h KX G hmg
    refine' Ew.all_mk KX G hmg ?a0 ?l0 ?c0 ?k0 ?a1 ?l1 ?c1 ?k1 ?a2 ?l2 ?c2 ?k2 ?a3 ?l3 ?c3 ?k3 ?a4 ?l4 ?c4 ?k4 ?a5 ?l5 ?c5 ?k5 ?a6 ?l6 ?c6 ?k6 ?a7 ?l7 ?c7 ?k7 ?a8 ?l8 ?c8 ?k8 ?z_abs ?z_sum ?z_list ?z_max ?z_min ?z_isinstance ?z_bool ?z_int ?z_range
    (case a0 => k_is)
    (case l0 => k_is)
    (case c0 => k_is)
    (case k0 => k_is)
    (case a1 => k_is)
    (case l1 => k_is)
    (case c1 => k_is)
    (case k1 => k_is)
    (case a2 => k_is)
    (case l2 => k_is)
    (case c2 => k_is)
    (case k2 => k_is)
    (case a3 => k_is)
    (case l3 => k_is)
    (case c3 => k_is)
    (case k3 => k_is)
    (case a4 => k_is)
    (case l4 => k_is)
    (case c4 => k_is)
    (case k4 => k_is)
    (case a5 => k_is)
    (case l5 => k_is)
    (case c5 => k_is)
    (case k5 => k_is)
    (case a6 => k_is)
    (case l6 => k_is)
    (case c6 => k_is)
    (case k6 => k_is)
    (case a7 => k_is)
    (case l7 => k_is)
    (case c7 => k_is)
    (case k7 => k_is)
    (case a8 => k_is)
    (case l8 => k_is)
    (case c8 => k_is)
    (case k8 => k_is)
    (case z_abs => k_is)
    (case z_sum => k_is)
    (case z_list => k_is)
    (case z_max => k_is)
    (case z_min => k_is)
    (case z_isinstance => k_is)
    (case z_bool => k_is)
    (case z_int => k_is)
    (case z_range => k_is)

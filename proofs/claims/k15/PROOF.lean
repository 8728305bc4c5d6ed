import PyProof.Rows.All
import Wide.All
import OpenK.AllK
import Wide.FinOn
import HandS.ForMost
import HandS.IsInst
import HandS.Style
import HandS.Wide
import HandS.NoneIn
import HandS.Codes
import PySem.Challenge.RW_evenwires_k15_what_two_ends_want
set_option Elab.async false
set_option linter.all false
set_option maxRecDepth 100000
namespace Ew
open PySem PySem.Spec PyProof.Rows L2

/-- what may have happened between two heaps: only what stands in S is changed; tuples and locked things stay -/
structure Evo (S : List Addr) (H H' : Hp) : Prop where
  old : ∀ a o, H a = some o → a ∉ S → H' a = some o
  tup : ∀ a xs, H a = some (.tup xs) → H' a = some (.tup xs)
  frz : ∀ a o u, H a = some (.frz o u) → H' a = some (.frz o u)
section
variable {K : PySem.W.Frag} {S S' : List Addr} {H H1 H2 H' : Hp} {a p q : Addr} {o x y : HO} {xs ys : List V}
theorem get_new (hp : H p = none) (h : H a = some x) : upd H p o a = some x := by rw [upd_ne (ne_of_none h hp)]; exact h
theorem get_ne (hn : a ≠ p) (h : H a = some x) : upd H p o a = some x := by rw [upd_ne hn]; exact h
theorem Evo.refl (S : List Addr) (H : Hp) : Evo S H H := ⟨fun _ _ h _ => h, fun _ _ h => h, fun _ _ _ h => h⟩
theorem Evo.trans (e : Evo S H H1) (f : Evo S H1 H2) : Evo S H H2 := ⟨fun a o h n => f.old a o (e.old a o h n) n, fun a xs h => f.tup a xs (e.tup a xs h), fun a o u h => f.frz a o u (e.frz a o u h)⟩
/-- a new thing -/
theorem Evo.new (e : Evo S H H1) (hp : H1 p = none) : Evo S H (upd H1 p o) :=
  ⟨fun a u h n => get_new hp (e.old a u h n), fun a ys h => get_new hp (e.tup a ys h), fun a u v h => get_new hp (e.frz a u v h)⟩
/-- a thing that was not there at the beginning is changed -/
theorem Evo.mut (e : Evo S H H1) (hp : H p = none) : Evo S H (upd H1 p o) :=
  ⟨fun a u h n => get_ne (ne_of_none h hp) (e.old a u h n), fun a ys h => get_ne (ne_of_none h hp) (e.tup a ys h), fun a u v h => get_ne (ne_of_none h hp) (e.frz a u v h)⟩
/-- a thing of S is changed -/
theorem Evo.set (e : Evo S H H1) (hp : p ∈ S) (hm : ∀ ys, H p ≠ some (.tup ys)) (hf : ∀ u v, H p ≠ some (.frz u v)) : Evo S H (upd H1 p o) :=
  ⟨fun a u h n => get_ne (fun z => n (z ▸ hp)) (e.old a u h n), fun a ys h => get_ne (fun z => hm ys (z ▸ h)) (e.tup a ys h), fun a u v h => get_ne (fun z => hf u v (z ▸ h)) (e.frz a u v h)⟩
/-- a callee's changes -/
theorem Evo.call (e : Evo S H H1) (f : Evo S' H1 H2) (h : ∀ s ∈ S', s ∈ S ∨ H s = none) : Evo S H H2 :=
  ⟨fun a o ha n => f.old a o (e.old a o ha n) fun m => (h a m).elim n (fun z => nomatch (ha.symm.trans z)), fun a xs h => f.tup a xs (e.tup a xs h), fun a o u h => f.frz a o u (e.frz a o u h)⟩
theorem Evo.call0 (e : Evo S H H1) (f : Evo [] H1 H2) : Evo S H H2 := e.call f fun _ h => by cases h
theorem Evo.get (e : Evo S H H') (hn : a ∉ S) (h : H a = some x) : H' a = some x := e.old a x h hn
theorem Evo.sqT (e : Evo S H H') (h : SqT K H a xs) : SqT K H' a xs := by
  rcases h with (h | ⟨o, h⟩) | h
  · exact .inl (.inl (e.tup _ _ h))
  · exact .inl (.inr ⟨o, e.frz _ _ _ h⟩)
  · exact .inr h
theorem Evo.fresh (e : Evo [] H H') (h : H' p = none) : H p = none := by
  cases q : H p with
  | none => rfl
  | some o =>
    rw [e.old p o q (by intro z; cases z)] at h
    cases h
theorem sqT_new (hp : H p = none) (h : SqT K H a xs) : SqT K (upd H p o) a xs := ((Evo.refl [] H).new hp).sqT h
theorem sqT_mut (hm : H p = some (.lst ys)) (h : SqT K H a xs) : SqT K (upd H p o) a xs := by
  rcases h with (h | ⟨o, h⟩) | h
  · exact .inl (.inl (get_ne (ne_of h hm (by intro z; cases z)) h))
  · exact .inl (.inr ⟨o, get_ne (ne_of h hm (by intro z; cases z)) h⟩)
  · exact .inr h
theorem sqT_mutD {kvs : List (Key × V)} (hm : H p = some (.dK kvs)) (h : SqT K H a xs) : SqT K (upd H p o) a xs := by
  rcases h with (h | ⟨o, h⟩) | h
  · exact .inl (.inl (get_ne (ne_of h hm (by intro z; cases z)) h))
  · exact .inl (.inr ⟨o, get_ne (ne_of h hm (by intro z; cases z)) h⟩)
  · exact .inr h
end
theorem sz {n : Nat} (h : n ≤ 100000) : n ≤ sizeLine := Nat.le_trans h (by decide)
theorem szl {n : Nat} (h : n < 100000) : n < sizeLine := Nat.lt_of_lt_of_le h (by decide)
section
variable {H : Hp} {a : Addr} {kvs kvs' : List (Key × V)} {s : Str} {v : V}
theorem dget (h : H a = some (.dK kvs)) (e : valV kvs (.inr s) = some v) : DGet H a (.str s) (some v) := e ▸ DGet.k (k := Sum.inr s) h
theorem dput (h : H a = some (.dK kvs)) (hl : kvs.length ≤ 1000) (e : putK kvs (.inr s) v = kvs') : DPut H a (.str s) v (upd H a (.dK kvs')) := e ▸ DPut.k (k := Sum.inr s) h (small1000 hl)
end
/-- a test by its answer -/
theorem iteD {c : Prop} [Decidable c] {A B : Prop} (h1 : c → A) (h2 : ¬ c → B) : if decide c = true then A else B := by
  by_cases h : c
  · rw [if_pos (decide_eq_true h)]; exact h1 h
  · rw [if_neg (by rw [decide_eq_false h]; exact Bool.false_ne_true)]; exact h2 h
theorem iteN {c : Prop} [Decidable c] {A B : Prop} (h1 : ¬ c → A) (h2 : c → B) : if (!decide c) = true then A else B := by
  by_cases h : c
  · rw [if_neg (by rw [decide_eq_true h]; exact Bool.false_ne_true)]; exact h2 h
  · rw [if_pos (by rw [decide_eq_false h]; rfl)]; exact h1 h
theorem iteB {b : Bool} {A B : Prop} (h1 : b = true → A) (h2 : b = false → B) : if b = true then A else B := by
  cases b with
  | true => exact h1 rfl
  | false => exact h2 rfl
end Ew
namespace Ew
open PySem PySem.Spec PyProof.Rows L2
/-! readings by lemmas: what is asked, in the form that it has when it is asked -/
section
variable {K : PySem.W.Frag} {H : Hp} {a b p : Addr} {xs ys : List V} {i : Int} {v x y : V} {R : V → Prop} {kvs kvs' : List (Key × V)} {s : Str}
theorem ixT (h : SqT K H p xs) (e : atI xs i = some v) (k : R v) : ∃ p' xs' i' v', V.ref p = .ref p' ∧ V.int i = .int i' ∧ SqT K H p' xs' ∧ atI xs' i' = some v' ∧ R v' := ⟨p, xs, i, v, rfl, rfl, h, e, k⟩
theorem ixL (h : SqL K H p xs) (e : atI xs i = some v) (k : R v) : ∃ p' xs' i' v', V.ref p = .ref p' ∧ V.int i = .int i' ∧ SqL K H p' xs' ∧ atI xs' i' = some v' ∧ R v' := ⟨p, xs, i, v, rfl, rfl, h, e, k⟩
theorem dgetE (h : H a = some (.dK kvs)) (e : valV kvs (.inr s) = some v) (k : R v) : ∃ a' v', V.ref a = .ref a' ∧ DGet H a' (.str s) (some v') ∧ R v' := ⟨a, v, rfl, dget h e, k⟩
theorem dputE {R : Hp → Prop} (h : H a = some (.dK kvs)) (e : putK kvs (.inr s) v = kvs') (k : R (upd H a (.dK kvs'))) (hl : kvs.length ≤ 1000) : ∃ a' H4, V.ref a = .ref a' ∧ DPut H a' (.str s) v H4 ∧ R H4 := ⟨a, _, rfl, dput h hl e, k⟩
theorem lenT {R : List V → Prop} (h : SqT K H p xs) (k : R xs) : ∃ p' ys, [V.ref p] = [.ref p'] ∧ (SqL K H p' ys ∨ SqT K H p' ys) ∧ R ys := ⟨p, xs, rfl, .inr h, k⟩
theorem lenL {R : List V → Prop} (h : SqL K H p xs) (k : R xs) : ∃ p' ys, [V.ref p] = [.ref p'] ∧ (SqL K H p' ys ∨ SqT K H p' ys) ∧ R ys := ⟨p, xs, rfl, .inl h, k⟩
theorem iib {R : Bool → Prop} {x : V} {n : String} {t : Value} {r : Bool} (ht : TyOf K H x t) (hb : PySem.W.kitOne K t (.type n) = some r) (k : R r) : ∃ (x' c : V) (t u : Value) (b : Bool), [x, V.ty n] = [x', c] ∧ ClsV c u ∧ TyX K H x' t ∧ PySem.W.kitOne K t u = some b ∧ R b :=
  ⟨x, .ty n, t, .type n, r, rfl, .ty n, .base ht, hb, k⟩
theorem lt2 {b : Bool} {r : V} : ∀ {i : Int}, 0 ≤ i → i < 2 → i = 0 ∨ i = 1 := by intro i h1 h2; omega
end
theorem apd {H : Hp} {l : Addr} {xs : List V} {y : V} {R : Addr → List V → V → Prop} (h : H l = some (.lst xs)) (hl : xs.length ≤ 1000) (k : R l xs y) : ∃ l' xs' y', V.ref l = .ref l' ∧ [y] = [y'] ∧ H l' = some (.lst xs') ∧ xs'.length < sizeLine ∧ R l' xs' y' :=
  ⟨l, xs, y, rfl, rfl, h, small1000 hl, k⟩
end Ew
namespace Ew
open PySem PySem.Spec PyProof.Rows L2
theorem tup_mut {H : Hp} {a p : Addr} {o : HO} {xs ys : List V} (hm : H p = some (.lst ys)) (h : H a = some (.tup xs)) : upd H p o a = some (.tup xs) := get_ne (ne_of h hm (by intro z; cases z)) h
theorem tup_mutD {H : Hp} {a p : Addr} {o : HO} {xs : List V} {kvs : List (Key × V)} (hm : H p = some (.dK kvs)) (h : H a = some (.tup xs)) : upd H p o a = some (.tup xs) := get_ne (ne_of h hm (by intro z; cases z)) h
theorem Evo.tupE {S : List Addr} {H H' : Hp} {a : Addr} {xs : List V} (e : Evo S H H') (h : H a = some (.tup xs)) : H' a = some (.tup xs) := e.tup a xs h
/-- a written power -/
theorem op_powC {X : Cx} (b e r : Int) (hc : CPow b e := by exact ⟨by decide, by decide, by decide⟩) (hr : b ^ e.toNat = r := by rfl) : OpR X (binaryOp .Pow) (fun x y H Q => x = .int b ∧ y = .int e ∧ Q (.int r) H) :=
  fun pins s σ H x y v u Q I rx ry h => op_pow pins s σ H x y v u Q I rx ry ⟨b, e, h.1, h.2.1, hc, by show Q (.int (b ^ e.toNat)) H; rw [hr]; exact h.2.2⟩
end Ew
namespace Ew
open PySem PySem.Spec PyProof.Rows L2
/-! data that are rows of whole numbers -/
def intsOf : List V → Option (List Int)
  | [] => some []
  | .int i :: r => match intsOf r with
    | some z => some (i :: z)
    | none => none
  | _ => none
theorem intsOf_map : ∀ {vs : List V} {xs : List Int}, intsOf vs = some xs → vs = xs.map V.int
  | [], _, h => by cases h; rfl
  | .int i :: r, xs, h => by
    unfold intsOf at h
    cases e : intsOf r with
    | none => rw [e] at h; cases h
    | some z =>
      rw [e] at h
      cases h
      rw [intsOf_map e]
      rfl
  | .non :: _, _, h => by cases h
  | .bl _ :: _, _, h => by cases h
  | .str _ :: _, _, h => by cases h
  | .byt _ :: _, _, h => by cases h
  | .flt _ :: _, _, h => by cases h
  | .ref _ :: _, _, h => by cases h
  | .ty _ :: _, _, h => by cases h
theorem intsOf_of : ∀ xs : List Int, intsOf (xs.map V.int) = some xs
  | [] => rfl
  | x :: r => by
    show (match intsOf (r.map V.int) with | some z => some (x :: z) | none => none) = _
    rw [intsOf_of r]
theorem dpInts {K : PySem.W.Frag} {H : Hp} : ∀ xs : List Int, DpAll K H (xs.map V.int) (xs.map PyData.int)
  | [] => .nil
  | x :: r => .cons (.int x) (dpInts r)
theorem canInts : ∀ xs : List Int, PyData.canLayAll0 (xs.map PyData.int) = true
  | [] => by simp [PyData.canLayAll0]
  | x :: r => by
    show PyData.canLayAll0 (PyData.int x :: r.map PyData.int) = true
    simp [PyData.canLayAll0, PyData.canLay0, canInts r]
theorem depInts : ∀ xs : List Int, PyData.depthAll (xs.map PyData.int) ≤ 1
  | [] => by simp [PyData.depthAll]
  | x :: r => by
    show PyData.depthAll (PyData.int x :: r.map PyData.int) ≤ 1
    have h := depInts r
    simp [PyData.depthAll, PyData.depth]
    omega
theorem shInts (xs : List Int) : SeqAt.shaped (.tuple (xs.map PyData.int)) = true := by
  have h := depInts xs
  simp [SeqAt.shaped, PyData.canLay0, canInts xs, PyData.depth]
  omega
theorem shIntsL (xs : List Int) : SeqAt.shaped (.list (xs.map PyData.int)) = true := by
  have h := depInts xs
  simp [SeqAt.shaped, PyData.canLay0, canInts xs, PyData.depth]
  omega
theorem eqvAllInts : ∀ xs ys : List Int, PyData.eqvAll (xs.map PyData.int) (ys.map PyData.int) = decide (xs = ys)
  | [], [] => by simp [PyData.eqvAll]
  | [], y :: _ => by simp [PyData.eqvAll]
  | x :: _, [] => by simp [PyData.eqvAll]
  | x :: r, y :: q => by
    show PyData.eqvAll (PyData.int x :: r.map PyData.int) (PyData.int y :: q.map PyData.int) = _
    have e : PyData.eqvAll (PyData.int x :: r.map PyData.int) (PyData.int y :: q.map PyData.int) = ((x == y) && PyData.eqvAll (r.map PyData.int) (q.map PyData.int)) := by simp [PyData.eqvAll, PyData.eqv]
    rw [e, eqvAllInts r q]
    by_cases h : x = y
    · by_cases h2 : r = q
      · simp [h, h2]
      · simp [h, h2]
    · simp [h]
theorem eqvT (xs ys : List Int) : PyData.eqv (.tuple (xs.map PyData.int)) (.tuple (ys.map PyData.int)) = decide (xs = ys) := by
  rw [← eqvAllInts]; simp [PyData.eqv]
theorem eqvL (xs ys : List Int) : PyData.eqv (.list (xs.map PyData.int)) (.list (ys.map PyData.int)) = decide (xs = ys) := by
  rw [← eqvAllInts]; simp [PyData.eqv]
section
variable {K : PySem.W.Frag} {H : Hp} {a b p : Addr} {vs us : List V} {xs ys : List Int} {R : V → Prop}
/-- == of data: its answer -/
def EqR (K : PySem.W.Frag) (H : Hp) (x y : V) (c : Bool) : Prop := ∃ d e, Dp K H x d ∧ Dp K H y e ∧ SeqAt.shaped d = true ∧ SeqAt.shaped e = true ∧ PyData.eqv d e = c
def rEqX (K : PySem.W.Frag) : R2 := fun x y H Q => ∃ c, EqR K H x y c ∧ Q (.bl c) H
def rNeX (K : PySem.W.Frag) : R2 := fun x y H Q => ∃ c, EqR K H x y c ∧ Q (.bl (!c)) H
theorem op_eqX {X : Cx} (hu : X.A.units + 64 < cLine) : OpR X (compareOp .Eq) (rEqX X.K) := fun pins s σ H x y v u Q I rx ry ⟨c, ⟨d, e, h1, h2, h3, h4, h5⟩, q⟩ =>
  op_eqD hu pins s σ H x y v u Q I rx ry ⟨d, e, h1, h2, h3, h4, h5 ▸ q⟩
theorem op_neX {X : Cx} (hu : X.A.units + 64 < cLine) : OpR X (compareOp .NotEq) (rNeX X.K) := fun pins s σ H x y v u Q I rx ry ⟨c, ⟨d, e, h1, h2, h3, h4, h5⟩, q⟩ =>
  op_neD hu pins s σ H x y v u Q I rx ry ⟨d, e, h1, h2, h3, h4, h5 ▸ q⟩
theorem eqT (h1 : H a = some (.tup vs)) (h2 : H b = some (.tup us)) (e1 : intsOf vs = some xs) (e2 : intsOf us = some ys) : EqR K H (.ref a) (.ref b) (decide (xs = ys)) := by
  have q1 := intsOf_map e1; have q2 := intsOf_map e2; subst q1 q2
  exact ⟨_, _, .tup (SqT.of h1) (dpInts xs), .tup (SqT.of h2) (dpInts ys), shInts _, shInts _, eqvT _ _⟩
theorem eqL (h1 : H a = some (.lst vs)) (h2 : H b = some (.lst us)) (e1 : intsOf vs = some xs) (e2 : intsOf us = some ys) : EqR K H (.ref a) (.ref b) (decide (xs = ys)) := by
  have q1 := intsOf_map e1; have q2 := intsOf_map e2; subst q1 q2
  exact ⟨_, _, .lst (SqL.of h1) (dpInts xs), .lst (SqL.of h2) (dpInts ys), shIntsL _, shIntsL _, eqvL _ _⟩
end
theorem sqL_new {K : PySem.W.Frag} {H : Hp} {a p : Addr} {o : HO} {xs : List V} (hp : H p = none) (h : SqL K H a xs) : SqL K (upd H p o) a xs := by
  rcases h with (h | ⟨o, h⟩) | h
  · exact .inl (.inl (get_new hp h))
  · exact .inl (.inr ⟨o, get_new hp h⟩)
  · exact .inr h
theorem cut63 {xs : List V} (h : xs.length ≤ 63) : cutV xs none (some 63) = xs := by
  unfold cutV
  rw [show HT.sIx xs.length xs.length (some 63) = min 63 xs.length from HT.sIx_nat xs.length xs.length 63, HT.sIx_none, List.drop_zero, Nat.sub_zero]
  exact List.take_of_length_le (by omega)
end Ew
namespace Ew
open PySem PySem.Spec PyProof.Rows L2
/-! == of whole numbers, of truths -/
theorem decV {i j : Int} : decide (V.int i = V.int j) = decide (i = j) := by
  by_cases h : i = j
  · subst h; simp
  · rw [decide_eq_false h, decide_eq_false fun e => h (V.int.inj e)]
theorem decB {i j : Bool} : decide (V.bl i = V.bl j) = decide (i = j) := by
  by_cases h : i = j
  · subst h; simp
  · rw [decide_eq_false h, decide_eq_false fun e => h (V.bl.inj e)]
section
variable {X : Cx}
theorem op_eqI : OpR X (compareOp .Eq) (fun x y H Q => ∃ i j, x = .int i ∧ y = .int j ∧ Q (.bl (decide (i = j))) H) := fun pins s σ H x y v u Q I rx ry ⟨i, j, h1, h2, q⟩ =>
  op_eq pins s σ H x y v u Q I rx ry ⟨by rw [h1, h2]; rfl, by rw [h1, h2, decV]; exact q⟩
theorem op_neI : OpR X (compareOp .NotEq) (fun x y H Q => ∃ i j, x = .int i ∧ y = .int j ∧ Q (.bl (!decide (i = j))) H) := fun pins s σ H x y v u Q I rx ry ⟨i, j, h1, h2, q⟩ =>
  op_ne pins s σ H x y v u Q I rx ry ⟨by rw [h1, h2]; rfl, by rw [h1, h2, decV]; exact q⟩
theorem op_eqB : OpR X (compareOp .Eq) (fun x y H Q => ∃ i j, x = .bl i ∧ y = .bl j ∧ Q (.bl (decide (i = j))) H) := fun pins s σ H x y v u Q I rx ry ⟨i, j, h1, h2, q⟩ =>
  op_eq pins s σ H x y v u Q I rx ry ⟨by rw [h1, h2]; rfl, by rw [h1, h2, decB]; exact q⟩
theorem op_neB : OpR X (compareOp .NotEq) (fun x y H Q => ∃ i j, x = .bl i ∧ y = .bl j ∧ Q (.bl (!decide (i = j))) H) := fun pins s σ H x y v u Q I rx ry ⟨i, j, h1, h2, q⟩ =>
  op_ne pins s σ H x y v u Q I rx ry ⟨by rw [h1, h2]; rfl, by rw [h1, h2, decB]; exact q⟩
end
end Ew
namespace Ew
open PySem PySem.Spec PyProof.Rows L2
theorem Qeq {Q : VK} {H : Hp} {v v' : V} (e : v = v') (k : Q v H) : Q v' H := e ▸ k
section
variable {K : PySem.W.Frag} {H : Hp} {R : Bool → Prop}
theorem ii_ii {a : Int} (k : R true) : ∃ (x' c : V) (t u : Value) (b : Bool), [V.int a, V.ty "int"] = [x', c] ∧ ClsV c u ∧ TyX K H x' t ∧ PySem.W.kitOne K t u = some b ∧ R b := iib (.int _) (kit_ty (by decide +kernel)) k
theorem ii_ib {a : Int} (k : R false) : ∃ (x' c : V) (t u : Value) (b : Bool), [V.int a, V.ty "bool"] = [x', c] ∧ ClsV c u ∧ TyX K H x' t ∧ PySem.W.kitOne K t u = some b ∧ R b := iib (.int _) (kit_ty (by decide +kernel)) k
theorem ii_it {a : Int} (k : R false) : ∃ (x' c : V) (t u : Value) (b : Bool), [V.int a, V.ty "tuple"] = [x', c] ∧ ClsV c u ∧ TyX K H x' t ∧ PySem.W.kitOne K t u = some b ∧ R b := iib (.int _) (kit_ty (by decide +kernel)) k
theorem ii_bb {a : Bool} (k : R true) : ∃ (x' c : V) (t u : Value) (b : Bool), [V.bl a, V.ty "bool"] = [x', c] ∧ ClsV c u ∧ TyX K H x' t ∧ PySem.W.kitOne K t u = some b ∧ R b := iib (.bl _) (kit_ty (by decide +kernel)) k
theorem ii_bi {a : Bool} (k : R true) : ∃ (x' c : V) (t u : Value) (b : Bool), [V.bl a, V.ty "int"] = [x', c] ∧ ClsV c u ∧ TyX K H x' t ∧ PySem.W.kitOne K t u = some b ∧ R b := iib (.bl _) (kit_ty (by decide +kernel)) k
theorem ii_tt {a : Addr} {xs : List V} (h : H a = some (.tup xs)) (k : R true) : ∃ (x' c : V) (t u : Value) (b : Bool), [V.ref a, V.ty "tuple"] = [x', c] ∧ ClsV c u ∧ TyX K H x' t ∧ PySem.W.kitOne K t u = some b ∧ R b := iib (.tup h) (kit_ty (by decide +kernel)) k
end
end Ew
namespace Ew
open PySem PySem.Spec PyProof.Rows L2
def rLen (K : PySem.W.Frag) : List V → Hp → VK → Prop := fun xs H Q => ∃ p ys, xs = [.ref p] ∧ (SqL K H p ys ∨ SqT K H p ys) ∧ Q (.int ys.length) H
theorem call_len {X : Cx} : CallR X (.builtin "len") (rLen X.K) := call_len_seq
def rTupleOf (K : PySem.W.Frag) : List V → Hp → VK → Prop := fun xs H Q => ∃ p ys, xs = [.ref p] ∧ ((SqL K H p ys ∧ ∀ l, H l = none → Q (.ref l) (upd H l (.tup ys))) ∨ (SqT K H p ys ∧ Q (.ref p) H))
theorem call_tuple {X : Cx} : CallR X (.type "tuple") (rTupleOf X.K) := call_tuple_of
end Ew
namespace Ew
open PySem PySem.Spec PyProof.Rows L2
/-- [a, b][int(test)] -/
theorem ixB {K : PySem.W.Frag} {H : Hp} {p : Addr} {a0 a1 : V} {b : Bool} {R : V → Prop} (h : SqL K H p [a0, a1]) (k0 : b = false → R a0) (k1 : b = true → R a1) :
    ∃ p' xs' i' v', V.ref p = .ref p' ∧ V.int (if b = true then 1 else 0) = .int i' ∧ SqL K H p' xs' ∧ atI xs' i' = some v' ∧ R v' := by
  cases b with
  | false => exact ⟨p, _, 0, a0, rfl, rfl, h, rfl, k0 rfl⟩
  | true => exact ⟨p, _, 1, a1, rfl, rfl, h, rfl, k1 rfl⟩
theorem inI {x : Int} {xs : List Int} : inV (.int x) (xs.map V.int) = decide (x ∈ xs) := by
  induction xs with
  | nil => rfl
  | cons y r ih =>
    have e : inV (.int x) ((y :: r).map V.int) = (eqV (.int y) (.int x) || inV (.int x) (r.map V.int)) := rfl
    rw [e, ih]
    have e2 : eqV (.int y) (.int x) = decide (y = x) := by
      show (y == x) = _
      by_cases h : y = x
      · simp [h]
      · simp [h]
    rw [e2]
    by_cases h : y = x
    · simp [h]
    · have h' : ¬ x = y := fun e => h e.symm
      simp [h, h']
end Ew
namespace Ew
abbrev ab (x : Int) : Int := if x < 0 then -x else x
end Ew
namespace Ew
open PySem PySem.Spec PyProof.Rows L2
def isImm : HO → Bool
  | .tup _ => true
  | _ => false
theorem Evo.getI {S : List Addr} {H H' : Hp} {a : Addr} {x : HO} (e : Evo S H H') (h : H a = some x) (hx : isImm x = true) : H' a = some x := by
  cases x with
  | tup xs => exact e.tup a xs h
  | _ => cases hx
theorem getI_mut {H : Hp} {a p : Addr} {o x : HO} {ys : List V} (hm : H p = some (.lst ys)) (h : H a = some x) (hx : isImm x = true) : upd H p o a = some x :=
  get_ne (ne_of h hm (by intro z; rw [z] at hx; cases hx)) h
theorem getI_mutD {H : Hp} {a p : Addr} {o x : HO} {kvs : List (Key × V)} (hm : H p = some (.dK kvs)) (h : H a = some x) (hx : isImm x = true) : upd H p o a = some x :=
  get_ne (ne_of h hm (by intro z; rw [z] at hx; cases hx)) h
end Ew
namespace Ew
open PySem PySem.Spec PyProof.Rows L2
/-! lists of rows of whole numbers -/
inductive RowsAt (H : Hp) : List V → List (List Int) → Prop
  | nil : RowsAt H [] []
  | cons {a : Addr} {vs : List V} {r : List Int} {rs : List (List Int)} : H a = some (.tup (r.map V.int)) → RowsAt H vs rs → RowsAt H (.ref a :: vs) (r :: rs)
theorem RowsAt.mono {H H' : Hp} (f : ∀ a xs, H a = some (.tup xs) → H' a = some (.tup xs)) : ∀ {vs : List V} {rs : List (List Int)}, RowsAt H vs rs → RowsAt H' vs rs
  | _, _, .nil => .nil
  | _, _, .cons h t => .cons (f _ _ h) (RowsAt.mono f t)
theorem RowsAt.evo {S : List Addr} {H H' : Hp} {vs : List V} {rs : List (List Int)} (e : Evo S H H') (h : RowsAt H vs rs) : RowsAt H' vs rs := h.mono e.tup
theorem RowsAt.new {H : Hp} {p : Addr} {o : HO} {vs : List V} {rs : List (List Int)} (h : RowsAt H vs rs) (hp : H p = none) : RowsAt (upd H p o) vs rs := h.mono fun _ _ q => get_new hp q
theorem RowsAt.mut {H : Hp} {p : Addr} {o : HO} {ys vs : List V} {rs : List (List Int)} (h : RowsAt H vs rs) (hp : H p = some (.lst ys)) : RowsAt (upd H p o) vs rs := h.mono fun _ _ q => tup_mut hp q
theorem RowsAt.length {H : Hp} : ∀ {vs : List V} {rs : List (List Int)}, RowsAt H vs rs → vs.length = rs.length
  | _, _, .nil => rfl
  | _, _, .cons _ t => congrArg Nat.succ (RowsAt.length t)
theorem RowsAt.snoc {H : Hp} {a : Addr} {r : List Int} (h : H a = some (.tup (r.map V.int))) : ∀ {vs : List V} {rs : List (List Int)}, RowsAt H vs rs → RowsAt H (vs ++ [.ref a]) (rs ++ [r])
  | _, _, .nil => .cons h .nil
  | _, _, .cons q t => .cons q (RowsAt.snoc h t)
theorem RowsAt.get {H : Hp} : ∀ {vs : List V} {rs : List (List Int)} {i : Nat} {r : List Int}, RowsAt H vs rs → rs[i]? = some r → ∃ a, vs[i]? = some (.ref a) ∧ H a = some (.tup (r.map V.int))
  | _, _, _, _, .nil, e => by cases e
  | _, _, 0, _, .cons q _, e => by cases e; exact ⟨_, rfl, q⟩
  | _, _, i + 1, _, .cons _ t, e => RowsAt.get (i := i) t e
theorem RowsAt.dp {K : PySem.W.Frag} {H : Hp} : ∀ {vs : List V} {rs : List (List Int)}, RowsAt H vs rs → DpAll K H vs (rs.map fun r => .tuple (r.map PyData.int))
  | _, _, .nil => .nil
  | _, _, .cons h t => .cons (.tup (SqT.of h) (dpInts _)) (RowsAt.dp t)
theorem canRows : ∀ rs : List (List Int), PyData.canLayAll0 (rs.map fun r => .tuple (r.map PyData.int)) = true
  | [] => by simp [PyData.canLayAll0]
  | r :: q => by
    show PyData.canLayAll0 (PyData.tuple (r.map PyData.int) :: q.map fun r => .tuple (r.map PyData.int)) = true
    have h := canRows q
    simp only [PyData.canLayAll0, PyData.canLay0, canInts r, h]
    rfl
theorem depRows : ∀ rs : List (List Int), PyData.depthAll (rs.map fun r => .tuple (r.map PyData.int)) ≤ 2
  | [] => by simp [PyData.depthAll]
  | r :: q => by
    show PyData.depthAll (PyData.tuple (r.map PyData.int) :: q.map fun r => .tuple (r.map PyData.int)) ≤ 2
    have h := depRows q
    have h2 := depInts r
    simp only [PyData.depthAll, PyData.depth]
    omega
theorem shRows (rs : List (List Int)) : SeqAt.shaped (.list (rs.map fun r => .tuple (r.map PyData.int))) = true := by
  have h := depRows rs
  have h2 := canRows rs
  simp [SeqAt.shaped, PyData.canLay0, h2, PyData.depth]
  omega
theorem shRowsT (rs : List (List Int)) : SeqAt.shaped (.tuple (rs.map fun r => .tuple (r.map PyData.int))) = true := by
  have h := depRows rs
  have h2 := canRows rs
  simp [SeqAt.shaped, PyData.canLay0, h2, PyData.depth]
  omega
theorem eqNil {K : PySem.W.Frag} {H : Hp} {l e : Addr} {vs : List V} {rs : List (List Int)} (h : H l = some (.lst vs)) (hr : RowsAt H vs rs) (he : H e = some (.lst [])) : EqR K H (.ref l) (.ref e) (decide (rs = [])) := by
  refine ⟨_, _, .lst (SqL.of h) hr.dp, .lst (SqL.of he) .nil, shRows rs, shRows [], ?_⟩
  cases rs with
  | nil => simp [PyData.eqv, PyData.eqvAll]
  | cons r q => simp [PyData.eqv, PyData.eqvAll]
end Ew
namespace Ew
open PySem PySem.Spec PyProof.Rows L2
theorem RowsAt.last {H : Hp} : ∀ {vs : List V} {rs : List (List Int)}, RowsAt H vs rs → rs ≠ [] → ∃ vs' q rs' r, vs = vs' ++ [.ref q] ∧ rs = rs' ++ [r] ∧ H q = some (.tup (r.map V.int))
  | _, _, .nil, h => absurd rfl h
  | _, _, @RowsAt.cons _ a vs r rs h t, _ => by
    cases rs with
    | nil =>
      cases t
      exact ⟨[], a, [], r, rfl, rfl, h⟩
    | cons r1 rs1 =>
      obtain ⟨vs', q, rs', r', e1, e2, hq⟩ := RowsAt.last t (by intro z; cases z)
      exact ⟨.ref a :: vs', q, r :: rs', r', by rw [e1]; rfl, by rw [e2]; rfl, hq⟩
end Ew
namespace Ew
open PySem PySem.Spec PyProof.Rows L2
/-- an item of a written row of whole numbers, at any place within it -/
theorem ixI {K : PySem.W.Frag} {H : Hp} {p : Addr} {vs : List V} {ns : List Int} {i : Int} {R : V → Prop} (h : SqL K H p vs) (e : intsOf vs = some ns) (h0 : 0 ≤ i) (h1 : i < ns.length) (k : ∀ z, z ∈ ns → R (.int z)) :
    ∃ p' xs' i' v', V.ref p = .ref p' ∧ V.int i = .int i' ∧ SqL K H p' xs' ∧ atI xs' i' = some v' ∧ R v' := by
  have q := intsOf_map e
  subst q
  have hi : i.toNat < ns.length := by omega
  refine ⟨p, _, i, .int ns[i.toNat], rfl, rfl, h, ?_, k _ (List.getElem_mem hi)⟩
  exact at_of (j := i.toNat) (by omega) (by rw [List.getElem?_map, List.getElem?_eq_getElem hi]; rfl)
/-- a list or a tuple -/
def Sq2 (H : Hp) (a : Addr) (vs : List V) : Prop := H a = some (.lst vs) ∨ H a = some (.tup vs)
theorem ixQ {K : PySem.W.Frag} {H : Hp} {p : Addr} {xs : List V} {i : Int} {v : V} {R : V → Prop} {Z : Prop} (h : Sq2 H p xs) (e : atI xs i = some v) (k : R v) :
    (∃ p' xs' i' v', V.ref p = .ref p' ∧ V.int i = .int i' ∧ SqL K H p' xs' ∧ atI xs' i' = some v' ∧ R v') ∨ (∃ p' xs' i' v', V.ref p = .ref p' ∧ V.int i = .int i' ∧ SqT K H p' xs' ∧ atI xs' i' = some v' ∧ R v') ∨ Z := by
  rcases h with h | h
  · exact .inl (ixL (SqL.of h) e k)
  · exact .inr (.inl (ixT (SqT.of h) e k))
end Ew
namespace Ew
open PySem PySem.Spec PyProof.Rows L2
/-! slices, by what they come to -/
def rSlE (K : PySem.W.Frag) : V → Option Int → Option Int → Hp → VK → Prop := fun x lo hi H Q => ∃ a xs ys, x = .ref a ∧ SqL K H a xs ∧ cutV xs lo hi = ys ∧ ∀ p, H p = none → Q (.ref p) (upd H p (.lst ys))
theorem sl_listE {X : Cx} : SlR X (rSlE X.K) := fun pins s σ H x v vl vu lo hi sl Q I rx hs pl pu ⟨a, xs, ys, h1, h2, h3, h4⟩ =>
  sl_list pins s σ H x v vl vu lo hi sl Q I rx hs pl pu ⟨a, xs, h1, h2, fun p hp => h3 ▸ h4 p hp⟩
def rSlTE (K : PySem.W.Frag) : V → Option Int → Option Int → Hp → VK → Prop := fun x lo hi H Q => ∃ a xs ys, x = .ref a ∧ SqT K H a xs ∧ cutV xs lo hi = ys ∧ ys.length < xs.length ∧ ∀ p, H p = none → Q (.ref p) (upd H p (.tup ys))
theorem sl_tupE {X : Cx} : SlR X (rSlTE X.K) := fun pins s σ H x v vl vu lo hi sl Q I rx hs pl pu ⟨a, xs, ys, h1, h2, h3, h5, h4⟩ =>
  sl_tup pins s σ H x v vl vu lo hi sl Q I rx hs pl pu ⟨a, xs, h1, h2, fun ⟨e1, e2⟩ => by
    have e3 : cutV xs lo hi = xs := by unfold cutV; rw [e1, e2]; simp
    rw [← h3, e3] at h5
    exact Nat.lt_irrefl _ h5, fun p hp => h3 ▸ h4 p hp⟩
section
variable {a b c d : V}
theorem cut_lo2 : cutV [a, b, c, d] none (some 2) = [a, b] := rfl
theorem cut_hi2 : cutV [a, b, c, d] (some 2) none = [c, d] := rfl
end
end Ew

namespace Ew
open PySem PySem.Spec PyProof.Rows L2
section
variable {prog : Program} {w : World} {A : Around} {E : Value → Shared → Prop} {s : Shared}
/-- what max asks of the tuple of its arguments -/
def Askmax (prog : Program) (w : World) (A : Around) (Q : Value → Shared → Prop) (it : Value) (s₂ : Shared) : Prop := ∃ I fp wr n P St bt, it = .ref I ∧ Walks prog w A.in1 I fp wr n P St ∧ St 0 s₂.heap ∧ (∀ b ∈ fp, b < s₂.heap.objs.size) ∧ 0 < n ∧ CmpOf prog w A.in1 .Gt P bt ∧
  ∀ v h' tk, P (argBest bt (n - 1)) v → (∀ b o, b ∉ wr → s₂.heap.get? b = some o → h'.get? b = some o) → Q v { s₂ with heap := h', toks := tk }
theorem ask_max {xs : Array (Int × Tok)} {Q : Value → Shared → Prop} {c : Sem Value} (hh : A.handled = none) (hne : 0 < xs.size)
    (hc : wpAny (model prog w) A.in1 (pyIter (.ref s.heap.objs.size)) (Askmax prog w A Q) E { s with heap := s.heap.push { cls := .type "tuple", data := .seq (intItems xs) } } → wpAny (model prog w) A c Q E s)
    (h : ∀ h' tk M t', (∀ d o, s.heap.get? d = some o → h'.get? d = some o) → M ∈ xs.toList.map (·.1) → (∀ a, a ∈ xs.toList.map (·.1) → a ≤ M) → Q (.int M t') { s with heap := h', toks := tk }) : wpAny (model prog w) A c Q E s := by
  have hT : (s.heap.push { cls := .type "tuple", data := .seq (intItems xs) }).IsTuple s.heap.objs.size (intItems xs) := ⟨_, Heap.get?_push_size _ rfl, rfl, 0, rfl⟩
  have hsz : (s.heap.push { cls := .type "tuple", data := .seq (intItems xs) }).objs.size = s.heap.objs.size + 1 := Heap.size_push ..
  have hln : (intItems xs).size = xs.size := by simp [intItems]
  refine hc (wpAny_pyIter_tuple hT ?_)
  refine ⟨_, [_, s.heap.objs.size], [_], _, _, _, _, rfl, Walks.tuple (A := A.in1) hh _ s.heap.objs.size (by rw [hsz]; exact Nat.ne_of_lt (Nat.lt_succ_self _)) (intItems xs),
    ⟨⟨_, Heap.get?_push_size _ rfl, rfl, rfl⟩, hT.push _⟩, fun d hd => ?_, by rw [hln]; exact hne, CmpOf.ints_gt (numAt xs) (fun _ _ => intItems_at), fun v h' tk hP hk => ?_⟩
  · show d < ((s.heap.push _).push _).objs.size
    rw [Heap.size_push, hsz]
    rcases List.mem_cons.mp hd with e | hd
    · rw [e, hsz]; exact Nat.lt_succ_self _
    · rw [List.mem_singleton.mp hd]; exact Nat.lt_succ_of_lt (Nat.lt_succ_self _)
  · have hold : ∀ d o, s.heap.get? d = some o → h'.get? d = some o := fun d o e => by
      refine hk d o (fun hm => ?_) (Heap.get?_push_of_some _ (Heap.get?_push_of_some _ e))
      have := Heap.lt_size e
      rw [List.mem_singleton.mp hm, hsz] at this
      exact Nat.lt_irrefl _ (Nat.lt_of_succ_lt this)
    obtain ⟨t, rfl⟩ := intItems_at hP
    obtain ⟨h1, h2⟩ := argBest_gt (numAt xs) ((intItems xs).size - 1)
    refine h h' tk _ t hold ?_ fun a ha => ?_
    · rw [numAt_eq]; exact PySem.getD_mem (by rw [List.length_map, Array.length_toList]; omega)
    · obtain ⟨j, hj, rfl⟩ := PySem.mem_getD ha
      rw [List.length_map, Array.length_toList] at hj
      rw [← numAt_eq]; exact h2 j (by omega)
theorem args_max3 (a0 a1 a2 : Value) : argsOk "max" ⟨[a0, a1, a2], []⟩ := by unfold argsOk; kernel_rfl
theorem tree_max3 {a0 a1 a2 : Value} {Q : Value → Shared → Prop} (h : wpAny (model prog w) A.in1 (pyIter (.ref s.heap.objs.size)) (Askmax prog w A Q) E { s with heap := s.heap.push { cls := .type "tuple", data := .seq #[a0, a1, a2] } }) : wpAny (model prog w) A (call (.builtin "max") [a0, a1, a2]) Q E s := by
  have hname : (toString "max" ++ toString ".loop" : String) = "max.loop" := by decide
  refine call_function_tree F.kind_max F.plain_max F.entry_max (args_max3 _ _ _) ?_
  show wpAny _ A.in1 (Builtin.Builtins.bindParams "max" ["key", "default"] 0 ⟨[], []⟩ >>= _) _ _ s
  refine wpAny_bind (wpAny_of_eq (show Builtin.Builtins.bindParams "max" ["key", "default"] 0 ⟨[], []⟩ = pure [none, none] from rfl) ?_)
  show wpAny _ A.in1 (newTuple [a0, a1, a2] >>= _) _ _ s
  refine wpAny_bind (wpAny_newObj_type ?_)
  refine wpAny_bind (wpAny_mono h (fun it s₂ h₂ => ?_) fun _ _ e => e)
  obtain ⟨I, fp, wr, n, P, St, bt, rfl, W, hst, hfp, hn, hcmp, hQ⟩ := h₂
  refine wpAny_bind (wpAny_newObj_type ?_)
  have hSf : s₂.heap.objs.size ∉ fp := fun hm => Nat.lt_irrefl _ (hfp _ hm)
  rw [hname]
  refine wpAny_pure ⟨plainId_quiet F.plain_max_loop _, codeAny_max_loop_first W bt hcmp s₂.heap.objs.size hSf hn (W.frame _ _ _ hst fun b _ o e => Heap.get?_push_of_some _ e) (Heap.get?_push_size _ rfl) fun v h' tk hP hk => ?_⟩
  exact hQ v h' tk hP fun b o hbw e => hk b o hbw (Nat.ne_of_lt (Heap.lt_size e)) (Heap.get?_push_of_some _ e)
theorem args_max4 (a0 a1 a2 a3 : Value) : argsOk "max" ⟨[a0, a1, a2, a3], []⟩ := by unfold argsOk; kernel_rfl
theorem tree_max4 {a0 a1 a2 a3 : Value} {Q : Value → Shared → Prop} (h : wpAny (model prog w) A.in1 (pyIter (.ref s.heap.objs.size)) (Askmax prog w A Q) E { s with heap := s.heap.push { cls := .type "tuple", data := .seq #[a0, a1, a2, a3] } }) : wpAny (model prog w) A (call (.builtin "max") [a0, a1, a2, a3]) Q E s := by
  have hname : (toString "max" ++ toString ".loop" : String) = "max.loop" := by decide
  refine call_function_tree F.kind_max F.plain_max F.entry_max (args_max4 _ _ _ _) ?_
  show wpAny _ A.in1 (Builtin.Builtins.bindParams "max" ["key", "default"] 0 ⟨[], []⟩ >>= _) _ _ s
  refine wpAny_bind (wpAny_of_eq (show Builtin.Builtins.bindParams "max" ["key", "default"] 0 ⟨[], []⟩ = pure [none, none] from rfl) ?_)
  show wpAny _ A.in1 (newTuple [a0, a1, a2, a3] >>= _) _ _ s
  refine wpAny_bind (wpAny_newObj_type ?_)
  refine wpAny_bind (wpAny_mono h (fun it s₂ h₂ => ?_) fun _ _ e => e)
  obtain ⟨I, fp, wr, n, P, St, bt, rfl, W, hst, hfp, hn, hcmp, hQ⟩ := h₂
  refine wpAny_bind (wpAny_newObj_type ?_)
  have hSf : s₂.heap.objs.size ∉ fp := fun hm => Nat.lt_irrefl _ (hfp _ hm)
  rw [hname]
  refine wpAny_pure ⟨plainId_quiet F.plain_max_loop _, codeAny_max_loop_first W bt hcmp s₂.heap.objs.size hSf hn (W.frame _ _ _ hst fun b _ o e => Heap.get?_push_of_some _ e) (Heap.get?_push_size _ rfl) fun v h' tk hP hk => ?_⟩
  exact hQ v h' tk hP fun b o hbw e => hk b o hbw (Nat.ne_of_lt (Heap.lt_size e)) (Heap.get?_push_of_some _ e)
theorem args_max5 (a0 a1 a2 a3 a4 : Value) : argsOk "max" ⟨[a0, a1, a2, a3, a4], []⟩ := by unfold argsOk; kernel_rfl
theorem tree_max5 {a0 a1 a2 a3 a4 : Value} {Q : Value → Shared → Prop} (h : wpAny (model prog w) A.in1 (pyIter (.ref s.heap.objs.size)) (Askmax prog w A Q) E { s with heap := s.heap.push { cls := .type "tuple", data := .seq #[a0, a1, a2, a3, a4] } }) : wpAny (model prog w) A (call (.builtin "max") [a0, a1, a2, a3, a4]) Q E s := by
  have hname : (toString "max" ++ toString ".loop" : String) = "max.loop" := by decide
  refine call_function_tree F.kind_max F.plain_max F.entry_max (args_max5 _ _ _ _ _) ?_
  show wpAny _ A.in1 (Builtin.Builtins.bindParams "max" ["key", "default"] 0 ⟨[], []⟩ >>= _) _ _ s
  refine wpAny_bind (wpAny_of_eq (show Builtin.Builtins.bindParams "max" ["key", "default"] 0 ⟨[], []⟩ = pure [none, none] from rfl) ?_)
  show wpAny _ A.in1 (newTuple [a0, a1, a2, a3, a4] >>= _) _ _ s
  refine wpAny_bind (wpAny_newObj_type ?_)
  refine wpAny_bind (wpAny_mono h (fun it s₂ h₂ => ?_) fun _ _ e => e)
  obtain ⟨I, fp, wr, n, P, St, bt, rfl, W, hst, hfp, hn, hcmp, hQ⟩ := h₂
  refine wpAny_bind (wpAny_newObj_type ?_)
  have hSf : s₂.heap.objs.size ∉ fp := fun hm => Nat.lt_irrefl _ (hfp _ hm)
  rw [hname]
  refine wpAny_pure ⟨plainId_quiet F.plain_max_loop _, codeAny_max_loop_first W bt hcmp s₂.heap.objs.size hSf hn (W.frame _ _ _ hst fun b _ o e => Heap.get?_push_of_some _ e) (Heap.get?_push_size _ rfl) fun v h' tk hP hk => ?_⟩
  exact hQ v h' tk hP fun b o hbw e => hk b o hbw (Nat.ne_of_lt (Heap.lt_size e)) (Heap.get?_push_of_some _ e)
end
section
variable {X : Cx}
theorem call_max3 (hc : X.calm = true) : CallR X (.builtin "max") (fun xs H Q => ∃ a0 a1 a2 : Int, xs = [.int a0, .int a1, .int a2] ∧ ∀ m, (m = a0 ∨ m = a1 ∨ m = a2) → a0 ≤ m → a1 ≤ m → a2 ≤ m → Q (.int m) H) := by
  intro pins s σ H xs us Q I r h
  obtain ⟨a0, a1, a2, rfl, q⟩ := h
  cases r with | cons q0 r0 =>
  obtain ⟨t0, rfl⟩ := q0
  cases r0 with | cons q1 r1 =>
  obtain ⟨t1, rfl⟩ := q1
  cases r1 with | cons q2 r2 =>
  obtain ⟨t2, rfl⟩ := q2
  cases r2
  refine ask_max (xs := #[(a0, t0), (a1, t1), (a2, t2)]) (I.ok.hd hc) (by simp) (fun h => tree_max3 (by simpa [intItems] using h)) fun h' tk M t' hk hm hle => ⟨.int M, H, I.kept hk, ⟨_, rfl⟩, q M ?_ (hle _ (by simp)) (hle _ (by simp)) (hle _ (by simp))⟩
  · simpa using hm
theorem call_max4 (hc : X.calm = true) : CallR X (.builtin "max") (fun xs H Q => ∃ a0 a1 a2 a3 : Int, xs = [.int a0, .int a1, .int a2, .int a3] ∧ ∀ m, (m = a0 ∨ m = a1 ∨ m = a2 ∨ m = a3) → a0 ≤ m → a1 ≤ m → a2 ≤ m → a3 ≤ m → Q (.int m) H) := by
  intro pins s σ H xs us Q I r h
  obtain ⟨a0, a1, a2, a3, rfl, q⟩ := h
  cases r with | cons q0 r0 =>
  obtain ⟨t0, rfl⟩ := q0
  cases r0 with | cons q1 r1 =>
  obtain ⟨t1, rfl⟩ := q1
  cases r1 with | cons q2 r2 =>
  obtain ⟨t2, rfl⟩ := q2
  cases r2 with | cons q3 r3 =>
  obtain ⟨t3, rfl⟩ := q3
  cases r3
  refine ask_max (xs := #[(a0, t0), (a1, t1), (a2, t2), (a3, t3)]) (I.ok.hd hc) (by simp) (fun h => tree_max4 (by simpa [intItems] using h)) fun h' tk M t' hk hm hle => ⟨.int M, H, I.kept hk, ⟨_, rfl⟩, q M ?_ (hle _ (by simp)) (hle _ (by simp)) (hle _ (by simp)) (hle _ (by simp))⟩
  · simpa using hm
theorem call_max5 (hc : X.calm = true) : CallR X (.builtin "max") (fun xs H Q => ∃ a0 a1 a2 a3 a4 : Int, xs = [.int a0, .int a1, .int a2, .int a3, .int a4] ∧ ∀ m, (m = a0 ∨ m = a1 ∨ m = a2 ∨ m = a3 ∨ m = a4) → a0 ≤ m → a1 ≤ m → a2 ≤ m → a3 ≤ m → a4 ≤ m → Q (.int m) H) := by
  intro pins s σ H xs us Q I r h
  obtain ⟨a0, a1, a2, a3, a4, rfl, q⟩ := h
  cases r with | cons q0 r0 =>
  obtain ⟨t0, rfl⟩ := q0
  cases r0 with | cons q1 r1 =>
  obtain ⟨t1, rfl⟩ := q1
  cases r1 with | cons q2 r2 =>
  obtain ⟨t2, rfl⟩ := q2
  cases r2 with | cons q3 r3 =>
  obtain ⟨t3, rfl⟩ := q3
  cases r3 with | cons q4 r4 =>
  obtain ⟨t4, rfl⟩ := q4
  cases r4
  refine ask_max (xs := #[(a0, t0), (a1, t1), (a2, t2), (a3, t3), (a4, t4)]) (I.ok.hd hc) (by simp) (fun h => tree_max5 (by simpa [intItems] using h)) fun h' tk M t' hk hm hle => ⟨.int M, H, I.kept hk, ⟨_, rfl⟩, q M ?_ (hle _ (by simp)) (hle _ (by simp)) (hle _ (by simp)) (hle _ (by simp)) (hle _ (by simp))⟩
  · simpa using hm
end
section
variable {prog : Program} {w : World} {A : Around} {E : Value → Shared → Prop} {s : Shared}
/-- what min asks of the tuple of its arguments -/
def Askmin (prog : Program) (w : World) (A : Around) (Q : Value → Shared → Prop) (it : Value) (s₂ : Shared) : Prop := ∃ I fp wr n P St bt, it = .ref I ∧ Walks prog w A.in1 I fp wr n P St ∧ St 0 s₂.heap ∧ (∀ b ∈ fp, b < s₂.heap.objs.size) ∧ 0 < n ∧ CmpOf prog w A.in1 .Lt P bt ∧
  ∀ v h' tk, P (argBest bt (n - 1)) v → (∀ b o, b ∉ wr → s₂.heap.get? b = some o → h'.get? b = some o) → Q v { s₂ with heap := h', toks := tk }
theorem ask_min {xs : Array (Int × Tok)} {Q : Value → Shared → Prop} {c : Sem Value} (hh : A.handled = none) (hne : 0 < xs.size)
    (hc : wpAny (model prog w) A.in1 (pyIter (.ref s.heap.objs.size)) (Askmin prog w A Q) E { s with heap := s.heap.push { cls := .type "tuple", data := .seq (intItems xs) } } → wpAny (model prog w) A c Q E s)
    (h : ∀ h' tk M t', (∀ d o, s.heap.get? d = some o → h'.get? d = some o) → M ∈ xs.toList.map (·.1) → (∀ a, a ∈ xs.toList.map (·.1) → M ≤ a) → Q (.int M t') { s with heap := h', toks := tk }) : wpAny (model prog w) A c Q E s := by
  have hT : (s.heap.push { cls := .type "tuple", data := .seq (intItems xs) }).IsTuple s.heap.objs.size (intItems xs) := ⟨_, Heap.get?_push_size _ rfl, rfl, 0, rfl⟩
  have hsz : (s.heap.push { cls := .type "tuple", data := .seq (intItems xs) }).objs.size = s.heap.objs.size + 1 := Heap.size_push ..
  have hln : (intItems xs).size = xs.size := by simp [intItems]
  refine hc (wpAny_pyIter_tuple hT ?_)
  refine ⟨_, [_, s.heap.objs.size], [_], _, _, _, _, rfl, Walks.tuple (A := A.in1) hh _ s.heap.objs.size (by rw [hsz]; exact Nat.ne_of_lt (Nat.lt_succ_self _)) (intItems xs),
    ⟨⟨_, Heap.get?_push_size _ rfl, rfl, rfl⟩, hT.push _⟩, fun d hd => ?_, by rw [hln]; exact hne, CmpOf.ints_lt (numAt xs) (fun _ _ => intItems_at), fun v h' tk hP hk => ?_⟩
  · show d < ((s.heap.push _).push _).objs.size
    rw [Heap.size_push, hsz]
    rcases List.mem_cons.mp hd with e | hd
    · rw [e, hsz]; exact Nat.lt_succ_self _
    · rw [List.mem_singleton.mp hd]; exact Nat.lt_succ_of_lt (Nat.lt_succ_self _)
  · have hold : ∀ d o, s.heap.get? d = some o → h'.get? d = some o := fun d o e => by
      refine hk d o (fun hm => ?_) (Heap.get?_push_of_some _ (Heap.get?_push_of_some _ e))
      have := Heap.lt_size e
      rw [List.mem_singleton.mp hm, hsz] at this
      exact Nat.lt_irrefl _ (Nat.lt_of_succ_lt this)
    obtain ⟨t, rfl⟩ := intItems_at hP
    obtain ⟨h1, h2⟩ := argBest_lt (numAt xs) ((intItems xs).size - 1)
    refine h h' tk _ t hold ?_ fun a ha => ?_
    · rw [numAt_eq]; exact PySem.getD_mem (by rw [List.length_map, Array.length_toList]; omega)
    · obtain ⟨j, hj, rfl⟩ := PySem.mem_getD ha
      rw [List.length_map, Array.length_toList] at hj
      rw [← numAt_eq]; exact h2 j (by omega)
theorem args_min3 (a0 a1 a2 : Value) : argsOk "min" ⟨[a0, a1, a2], []⟩ := by unfold argsOk; kernel_rfl
theorem tree_min3 {a0 a1 a2 : Value} {Q : Value → Shared → Prop} (h : wpAny (model prog w) A.in1 (pyIter (.ref s.heap.objs.size)) (Askmin prog w A Q) E { s with heap := s.heap.push { cls := .type "tuple", data := .seq #[a0, a1, a2] } }) : wpAny (model prog w) A (call (.builtin "min") [a0, a1, a2]) Q E s := by
  have hname : (toString "min" ++ toString ".loop" : String) = "min.loop" := by decide
  refine call_function_tree F.kind_min F.plain_min F.entry_min (args_min3 _ _ _) ?_
  show wpAny _ A.in1 (Builtin.Builtins.bindParams "min" ["key", "default"] 0 ⟨[], []⟩ >>= _) _ _ s
  refine wpAny_bind (wpAny_of_eq (show Builtin.Builtins.bindParams "min" ["key", "default"] 0 ⟨[], []⟩ = pure [none, none] from rfl) ?_)
  show wpAny _ A.in1 (newTuple [a0, a1, a2] >>= _) _ _ s
  refine wpAny_bind (wpAny_newObj_type ?_)
  refine wpAny_bind (wpAny_mono h (fun it s₂ h₂ => ?_) fun _ _ e => e)
  obtain ⟨I, fp, wr, n, P, St, bt, rfl, W, hst, hfp, hn, hcmp, hQ⟩ := h₂
  refine wpAny_bind (wpAny_newObj_type ?_)
  have hSf : s₂.heap.objs.size ∉ fp := fun hm => Nat.lt_irrefl _ (hfp _ hm)
  rw [hname]
  refine wpAny_pure ⟨plainId_quiet F.plain_min_loop _, codeAny_min_loop_first W bt hcmp s₂.heap.objs.size hSf hn (W.frame _ _ _ hst fun b _ o e => Heap.get?_push_of_some _ e) (Heap.get?_push_size _ rfl) fun v h' tk hP hk => ?_⟩
  exact hQ v h' tk hP fun b o hbw e => hk b o hbw (Nat.ne_of_lt (Heap.lt_size e)) (Heap.get?_push_of_some _ e)
theorem args_min4 (a0 a1 a2 a3 : Value) : argsOk "min" ⟨[a0, a1, a2, a3], []⟩ := by unfold argsOk; kernel_rfl
theorem tree_min4 {a0 a1 a2 a3 : Value} {Q : Value → Shared → Prop} (h : wpAny (model prog w) A.in1 (pyIter (.ref s.heap.objs.size)) (Askmin prog w A Q) E { s with heap := s.heap.push { cls := .type "tuple", data := .seq #[a0, a1, a2, a3] } }) : wpAny (model prog w) A (call (.builtin "min") [a0, a1, a2, a3]) Q E s := by
  have hname : (toString "min" ++ toString ".loop" : String) = "min.loop" := by decide
  refine call_function_tree F.kind_min F.plain_min F.entry_min (args_min4 _ _ _ _) ?_
  show wpAny _ A.in1 (Builtin.Builtins.bindParams "min" ["key", "default"] 0 ⟨[], []⟩ >>= _) _ _ s
  refine wpAny_bind (wpAny_of_eq (show Builtin.Builtins.bindParams "min" ["key", "default"] 0 ⟨[], []⟩ = pure [none, none] from rfl) ?_)
  show wpAny _ A.in1 (newTuple [a0, a1, a2, a3] >>= _) _ _ s
  refine wpAny_bind (wpAny_newObj_type ?_)
  refine wpAny_bind (wpAny_mono h (fun it s₂ h₂ => ?_) fun _ _ e => e)
  obtain ⟨I, fp, wr, n, P, St, bt, rfl, W, hst, hfp, hn, hcmp, hQ⟩ := h₂
  refine wpAny_bind (wpAny_newObj_type ?_)
  have hSf : s₂.heap.objs.size ∉ fp := fun hm => Nat.lt_irrefl _ (hfp _ hm)
  rw [hname]
  refine wpAny_pure ⟨plainId_quiet F.plain_min_loop _, codeAny_min_loop_first W bt hcmp s₂.heap.objs.size hSf hn (W.frame _ _ _ hst fun b _ o e => Heap.get?_push_of_some _ e) (Heap.get?_push_size _ rfl) fun v h' tk hP hk => ?_⟩
  exact hQ v h' tk hP fun b o hbw e => hk b o hbw (Nat.ne_of_lt (Heap.lt_size e)) (Heap.get?_push_of_some _ e)
theorem args_min5 (a0 a1 a2 a3 a4 : Value) : argsOk "min" ⟨[a0, a1, a2, a3, a4], []⟩ := by unfold argsOk; kernel_rfl
theorem tree_min5 {a0 a1 a2 a3 a4 : Value} {Q : Value → Shared → Prop} (h : wpAny (model prog w) A.in1 (pyIter (.ref s.heap.objs.size)) (Askmin prog w A Q) E { s with heap := s.heap.push { cls := .type "tuple", data := .seq #[a0, a1, a2, a3, a4] } }) : wpAny (model prog w) A (call (.builtin "min") [a0, a1, a2, a3, a4]) Q E s := by
  have hname : (toString "min" ++ toString ".loop" : String) = "min.loop" := by decide
  refine call_function_tree F.kind_min F.plain_min F.entry_min (args_min5 _ _ _ _ _) ?_
  show wpAny _ A.in1 (Builtin.Builtins.bindParams "min" ["key", "default"] 0 ⟨[], []⟩ >>= _) _ _ s
  refine wpAny_bind (wpAny_of_eq (show Builtin.Builtins.bindParams "min" ["key", "default"] 0 ⟨[], []⟩ = pure [none, none] from rfl) ?_)
  show wpAny _ A.in1 (newTuple [a0, a1, a2, a3, a4] >>= _) _ _ s
  refine wpAny_bind (wpAny_newObj_type ?_)
  refine wpAny_bind (wpAny_mono h (fun it s₂ h₂ => ?_) fun _ _ e => e)
  obtain ⟨I, fp, wr, n, P, St, bt, rfl, W, hst, hfp, hn, hcmp, hQ⟩ := h₂
  refine wpAny_bind (wpAny_newObj_type ?_)
  have hSf : s₂.heap.objs.size ∉ fp := fun hm => Nat.lt_irrefl _ (hfp _ hm)
  rw [hname]
  refine wpAny_pure ⟨plainId_quiet F.plain_min_loop _, codeAny_min_loop_first W bt hcmp s₂.heap.objs.size hSf hn (W.frame _ _ _ hst fun b _ o e => Heap.get?_push_of_some _ e) (Heap.get?_push_size _ rfl) fun v h' tk hP hk => ?_⟩
  exact hQ v h' tk hP fun b o hbw e => hk b o hbw (Nat.ne_of_lt (Heap.lt_size e)) (Heap.get?_push_of_some _ e)
end
section
variable {X : Cx}
theorem call_min3 (hc : X.calm = true) : CallR X (.builtin "min") (fun xs H Q => ∃ a0 a1 a2 : Int, xs = [.int a0, .int a1, .int a2] ∧ ∀ m, (m = a0 ∨ m = a1 ∨ m = a2) → m ≤ a0 → m ≤ a1 → m ≤ a2 → Q (.int m) H) := by
  intro pins s σ H xs us Q I r h
  obtain ⟨a0, a1, a2, rfl, q⟩ := h
  cases r with | cons q0 r0 =>
  obtain ⟨t0, rfl⟩ := q0
  cases r0 with | cons q1 r1 =>
  obtain ⟨t1, rfl⟩ := q1
  cases r1 with | cons q2 r2 =>
  obtain ⟨t2, rfl⟩ := q2
  cases r2
  refine ask_min (xs := #[(a0, t0), (a1, t1), (a2, t2)]) (I.ok.hd hc) (by simp) (fun h => tree_min3 (by simpa [intItems] using h)) fun h' tk M t' hk hm hle => ⟨.int M, H, I.kept hk, ⟨_, rfl⟩, q M ?_ (hle _ (by simp)) (hle _ (by simp)) (hle _ (by simp))⟩
  · simpa using hm
theorem call_min4 (hc : X.calm = true) : CallR X (.builtin "min") (fun xs H Q => ∃ a0 a1 a2 a3 : Int, xs = [.int a0, .int a1, .int a2, .int a3] ∧ ∀ m, (m = a0 ∨ m = a1 ∨ m = a2 ∨ m = a3) → m ≤ a0 → m ≤ a1 → m ≤ a2 → m ≤ a3 → Q (.int m) H) := by
  intro pins s σ H xs us Q I r h
  obtain ⟨a0, a1, a2, a3, rfl, q⟩ := h
  cases r with | cons q0 r0 =>
  obtain ⟨t0, rfl⟩ := q0
  cases r0 with | cons q1 r1 =>
  obtain ⟨t1, rfl⟩ := q1
  cases r1 with | cons q2 r2 =>
  obtain ⟨t2, rfl⟩ := q2
  cases r2 with | cons q3 r3 =>
  obtain ⟨t3, rfl⟩ := q3
  cases r3
  refine ask_min (xs := #[(a0, t0), (a1, t1), (a2, t2), (a3, t3)]) (I.ok.hd hc) (by simp) (fun h => tree_min4 (by simpa [intItems] using h)) fun h' tk M t' hk hm hle => ⟨.int M, H, I.kept hk, ⟨_, rfl⟩, q M ?_ (hle _ (by simp)) (hle _ (by simp)) (hle _ (by simp)) (hle _ (by simp))⟩
  · simpa using hm
theorem call_min5 (hc : X.calm = true) : CallR X (.builtin "min") (fun xs H Q => ∃ a0 a1 a2 a3 a4 : Int, xs = [.int a0, .int a1, .int a2, .int a3, .int a4] ∧ ∀ m, (m = a0 ∨ m = a1 ∨ m = a2 ∨ m = a3 ∨ m = a4) → m ≤ a0 → m ≤ a1 → m ≤ a2 → m ≤ a3 → m ≤ a4 → Q (.int m) H) := by
  intro pins s σ H xs us Q I r h
  obtain ⟨a0, a1, a2, a3, a4, rfl, q⟩ := h
  cases r with | cons q0 r0 =>
  obtain ⟨t0, rfl⟩ := q0
  cases r0 with | cons q1 r1 =>
  obtain ⟨t1, rfl⟩ := q1
  cases r1 with | cons q2 r2 =>
  obtain ⟨t2, rfl⟩ := q2
  cases r2 with | cons q3 r3 =>
  obtain ⟨t3, rfl⟩ := q3
  cases r3 with | cons q4 r4 =>
  obtain ⟨t4, rfl⟩ := q4
  cases r4
  refine ask_min (xs := #[(a0, t0), (a1, t1), (a2, t2), (a3, t3), (a4, t4)]) (I.ok.hd hc) (by simp) (fun h => tree_min5 (by simpa [intItems] using h)) fun h' tk M t' hk hm hle => ⟨.int M, H, I.kept hk, ⟨_, rfl⟩, q M ?_ (hle _ (by simp)) (hle _ (by simp)) (hle _ (by simp)) (hle _ (by simp)) (hle _ (by simp))⟩
  · simpa using hm
end
end Ew

namespace Ew
open PySem PySem.Spec PyProof.Rows L2
/-- an end: x, y, start, load -/
structure En where
  x : Int
  y : Int
  s : Int
  l : Int
def En.row (e : En) : List Int := [e.x, e.y, e.s, e.l]
/-- in the bounds -/
structure En.Ok (e : En) : Prop where
  x0 : -1000000 ≤ e.x
  x1 : e.x ≤ 1000000
  y0 : -1000000 ≤ e.y
  y1 : e.y ≤ 1000000
  s0 : 0 ≤ e.s
  s1 : e.s ≤ 1000000
  l0 : 0 ≤ e.l
  l1 : e.l ≤ 1000000
/-- ends, a tuple of tuples -/
def EndsAt (H : Hp) (a : Addr) (es : List En) : Prop := ∃ vs, H a = some (.tup vs) ∧ RowsAt H vs (es.map En.row)
theorem EndsAt.evo {S : List Addr} {H H' : Hp} {a : Addr} {es : List En} (e : Evo S H H') (h : EndsAt H a es) : EndsAt H' a es := by
  obtain ⟨vs, h1, h2⟩ := h
  exact ⟨vs, e.tupE h1, h2.evo e⟩
theorem EndsAt.new {H : Hp} {a p : Addr} {o : HO} {es : List En} (hp : H p = none) (h : EndsAt H a es) : EndsAt (upd H p o) a es := h.evo ((Evo.refl [] H).new hp)
theorem EndsAt.mut {H : Hp} {a p : Addr} {o : HO} {ys : List V} {es : List En} (hp : H p = some (.lst ys)) (h : EndsAt H a es) : EndsAt (upd H p o) a es := by
  obtain ⟨vs, h1, h2⟩ := h
  exact ⟨vs, tup_mut hp h1, h2.mut hp⟩
theorem RowsAt.at {H : Hp} {vs : List V} {es : List En} {i : Nat} {e : En} (h : RowsAt H vs (es.map En.row)) (he : es[i]? = some e) : ∃ a, vs[i]? = some (.ref a) ∧ H a = some (.tup [.int e.x, .int e.y, .int e.s, .int e.l]) :=
  h.get (r := e.row) (by rw [List.getElem?_map, he]; rfl)
section
variable {K : PySem.W.Frag} {H : Hp} {a p : Addr} {es : List En} {e : En} {i : Int} {vs : List V} {R : V → Prop}
/-- ends[i] -/
theorem ixE (h : EndsAt H a es) (h0 : 0 ≤ i) (he : es[i.toNat]? = some e) (k : ∀ q, H q = some (.tup [.int e.x, .int e.y, .int e.s, .int e.l]) → R (.ref q)) : ∃ p' xs' i' v', V.ref a = .ref p' ∧ V.int i = .int i' ∧ SqT K H p' xs' ∧ atI xs' i' = some v' ∧ R v' := by
  obtain ⟨vs, h1, h2⟩ := h
  obtain ⟨q, h3, h4⟩ := h2.at he
  exact ⟨a, vs, i, .ref q, rfl, rfl, SqT.of h1, at_of (j := i.toNat) (by omega) h3, k q h4⟩
/-- an item of a list of ends -/
theorem ixEL (h : H a = some (.lst vs)) (h2 : RowsAt H vs (es.map En.row)) (h0 : 0 ≤ i) (he : es[i.toNat]? = some e) (k : ∀ q, H q = some (.tup [.int e.x, .int e.y, .int e.s, .int e.l]) → R (.ref q)) : ∃ p' xs' i' v', V.ref a = .ref p' ∧ V.int i = .int i' ∧ SqL K H p' xs' ∧ atI xs' i' = some v' ∧ R v' := by
  obtain ⟨q, h3, h4⟩ := h2.at he
  exact ⟨a, vs, i, .ref q, rfl, rfl, SqL.of h, at_of (j := i.toNat) (by omega) h3, k q h4⟩
theorem lenE {R : List V → Prop} (h : EndsAt H a es) (k : ∀ vs : List V, vs.length = es.length → R vs) : ∃ p' ys, [V.ref a] = [.ref p'] ∧ (SqL K H p' ys ∨ SqT K H p' ys) ∧ R ys := by
  obtain ⟨vs, h1, h2⟩ := h
  exact ⟨a, vs, rfl, .inr (SqT.of h1), k vs (by rw [h2.length, List.length_map])⟩
theorem catE {b : Addr} {xs ys : List V} {R : Addr → List V → List V → Prop} {Z : Addr → Prop} (h1 : H a = some (.tup xs)) (h2 : H b = some (.tup ys)) (hx : xs ≠ []) (hy : ys ≠ []) (hl : xs.length + ys.length ≤ 1000) (k : ∀ p, H p = none → R p xs ys) :
    ∃ a' b' xs' ys', V.ref a = .ref a' ∧ V.ref b = .ref b' ∧ SqT K H a' xs' ∧ SqT K H b' ys' ∧ xs' ≠ [] ∧ xs'.length + ys'.length ≤ sizeLine ∧ (ys' = [] → Z a') ∧ (ys' ≠ [] → ∀ p, H p = none → R p xs' ys') :=
  ⟨a, b, xs, ys, rfl, rfl, SqT.of h1, SqT.of h2, hx, sz (by omega), fun e => absurd e hy, fun _ => k⟩
end
/-- what two ends want -/
def want (p q : En) : Int := p.s + q.s + (ab (p.x - q.x) + ab (p.y - q.y))
theorem want_comm (p q : En) : want p q = want q p := by
  simp only [want, ab]
  repeat' split
  all_goals omega
theorem want_self (p : En) : want p p = 2 * p.s := by
  simp only [want, ab]
  repeat' split
  all_goals omega
theorem want_tri (p q r : En) : want p q + 2 * r.s ≤ want p r + want r q := by
  simp only [want, ab]
  repeat' split
  all_goals omega
end Ew

namespace Ew
open PySem PySem.Spec PyProof.Rows L2
section
def topS (i : Nat) : Stmt := PySem.Challenge.pw_evenwires_k15_what_two_ends_want.main.body.getD i (.Pass ⟨0, 0, 0, 0⟩)
abbrev s_steps : Stmt := topS 1
abbrev N_steps : List Str := ["one", "other"]
theorem sc_steps : FnScope N_steps ["one", "other"] (defScope s_steps) := ⟨rfl, rfl, rfl, by decide +kernel, rfl, by decide +kernel, by decide +kernel⟩
abbrev s_wanted : Stmt := topS 3
abbrev N_wanted : List Str := ["ends", "one", "other", "first", "second"]
theorem sc_wanted : FnScope N_wanted ["ends", "one", "other"] (defScope s_wanted) := ⟨rfl, rfl, rfl, by decide +kernel, rfl, by decide +kernel, by decide +kernel⟩
abbrev s__law_deck : Stmt := topS 5
abbrev N__law_deck : List Str := ["_law_script"]
theorem sc__law_deck : FnScope N__law_deck ["_law_script"] (defScope s__law_deck) := ⟨rfl, rfl, rfl, by decide +kernel, rfl, by decide +kernel, by decide +kernel⟩
abbrev s__law_draw : Stmt := topS 6
abbrev N__law_draw : List Str := ["_law_deck_here", "_law_many", "_law_digit", "_law_cell", "_law_seed", "_law_number_here"]
theorem sc__law_draw : FnScope N__law_draw ["_law_deck_here", "_law_many"] (defScope s__law_draw) := ⟨rfl, rfl, rfl, by decide +kernel, rfl, by decide +kernel, by decide +kernel⟩
abbrev s__law_number : Stmt := topS 7
abbrev N__law_number : List Str := ["_law_deck_here", "_law_way"]
theorem sc__law_number : FnScope N__law_number ["_law_deck_here", "_law_way"] (defScope s__law_number) := ⟨rfl, rfl, rfl, by decide +kernel, rfl, by decide +kernel, by decide +kernel⟩
abbrev s__law_place : Stmt := topS 8
abbrev N__law_place : List Str := ["_law_deck_here", "_law_way", "_law_x", "_law_far_ones"]
theorem sc__law_place : FnScope N__law_place ["_law_deck_here", "_law_way"] (defScope s__law_place) := ⟨rfl, rfl, rfl, by decide +kernel, rfl, by decide +kernel, by decide +kernel⟩
abbrev s__law_start : Stmt := topS 9
abbrev N__law_start : List Str := ["_law_deck_here", "_law_way"]
theorem sc__law_start : FnScope N__law_start ["_law_deck_here", "_law_way"] (defScope s__law_start) := ⟨rfl, rfl, rfl, by decide +kernel, rfl, by decide +kernel, by decide +kernel⟩
abbrev s__law_ends : Stmt := topS 10
abbrev N__law_ends : List Str := ["_law_deck_here", "_law_great", "_law_ways", "_law_many", "_law_ends_here", "_law_k", "_law_again", "_law_place_here"]
theorem sc__law_ends : FnScope N__law_ends ["_law_deck_here"] (defScope s__law_ends) := ⟨rfl, rfl, rfl, by decide +kernel, rfl, by decide +kernel, by decide +kernel⟩
abbrev s__law_right : Stmt := topS 11
abbrev N__law_right : List Str := ["_law_ends_here", "_law_one", "_law_other", "_law_told", "_law_here", "_law_there", "_law_due"]
theorem sc__law_right : FnScope N__law_right ["_law_ends_here", "_law_one", "_law_other"] (defScope s__law_right) := ⟨rfl, rfl, rfl, by decide +kernel, rfl, by decide +kernel, by decide +kernel⟩
abbrev s_law : Stmt := topS 12
abbrev N_law : List Str := ["_law_script", "_law_deck_here", "_law_third", "_law_ends_here", "_law_one", "_law_other", "_law_both"]
theorem sc_law : FnScope N_law ["_law_script"] (defScope s_law) := ⟨rfl, rfl, rfl, by decide +kernel, rfl, by decide +kernel, by decide +kernel⟩
/-- what the top has left: the defs, and the built-ins that are not bound anew -/
structure Tx (K : PySem.W.Frag) (mg : Str → Option Value) where
  a_steps : Addr
  d_steps : FuncData
  F_steps : Fun K "steps" "steps" s_steps a_steps d_steps
  b_steps : Binds K d_steps ["one", "other"] []
  g_steps : mg "steps" = some (.ref a_steps)
  a_wanted : Addr
  d_wanted : FuncData
  F_wanted : Fun K "wanted" "wanted" s_wanted a_wanted d_wanted
  b_wanted : Binds K d_wanted ["ends", "one", "other"] []
  g_wanted : mg "wanted" = some (.ref a_wanted)
  a__law_deck : Addr
  d__law_deck : FuncData
  F__law_deck : Fun K "_law_deck" "_law_deck" s__law_deck a__law_deck d__law_deck
  b__law_deck : Binds K d__law_deck ["_law_script"] []
  g__law_deck : mg "_law_deck" = some (.ref a__law_deck)
  a__law_draw : Addr
  d__law_draw : FuncData
  F__law_draw : Fun K "_law_draw" "_law_draw" s__law_draw a__law_draw d__law_draw
  b__law_draw : Binds K d__law_draw ["_law_deck_here", "_law_many"] []
  g__law_draw : mg "_law_draw" = some (.ref a__law_draw)
  a__law_number : Addr
  d__law_number : FuncData
  F__law_number : Fun K "_law_number" "_law_number" s__law_number a__law_number d__law_number
  b__law_number : Binds K d__law_number ["_law_deck_here", "_law_way"] []
  g__law_number : mg "_law_number" = some (.ref a__law_number)
  a__law_place : Addr
  d__law_place : FuncData
  F__law_place : Fun K "_law_place" "_law_place" s__law_place a__law_place d__law_place
  b__law_place : Binds K d__law_place ["_law_deck_here", "_law_way"] []
  g__law_place : mg "_law_place" = some (.ref a__law_place)
  a__law_start : Addr
  d__law_start : FuncData
  F__law_start : Fun K "_law_start" "_law_start" s__law_start a__law_start d__law_start
  b__law_start : Binds K d__law_start ["_law_deck_here", "_law_way"] []
  g__law_start : mg "_law_start" = some (.ref a__law_start)
  a__law_ends : Addr
  d__law_ends : FuncData
  F__law_ends : Fun K "_law_ends" "_law_ends" s__law_ends a__law_ends d__law_ends
  b__law_ends : Binds K d__law_ends ["_law_deck_here"] []
  g__law_ends : mg "_law_ends" = some (.ref a__law_ends)
  a__law_right : Addr
  d__law_right : FuncData
  F__law_right : Fun K "_law_right" "_law_right" s__law_right a__law_right d__law_right
  b__law_right : Binds K d__law_right ["_law_ends_here", "_law_one", "_law_other"] []
  g__law_right : mg "_law_right" = some (.ref a__law_right)
  a_law : Addr
  d_law : FuncData
  F_law : Fun K "law" "law" s_law a_law d_law
  b_law : Binds K d_law ["_law_script"] []
  g_law : mg "law" = some (.ref a_law)
  n_abs : mg "abs" = none
  n_list : mg "list" = none
  n_len : mg "len" = none
  n_int : mg "int" = none
  n_range : mg "range" = none
  n_tuple : mg "tuple" = none
  n_isinstance : mg "isinstance" = none
  n_bool : mg "bool" = none
  n_max : mg "max" = none
  n_min : mg "min" = none
local macro_rules | `(tactic| walk_at "ewc") => `(tactic| first
  | (show (0 : Int) < _; omega)
  | (show (0 : Int) < _; decide)
  | (refine ⟨?_, ?_⟩ <;> omega)
  | exact Or.inl ⟨by omega, by omega⟩
  | exact Or.inr ⟨by omega, by omega⟩)
def dkv (c : Addr) (a r s : Int) : List (Key × V) := [(.inr "cells", .ref c), (.inr "at", .int a), (.inr "rest", .int r), (.inr "seed", .int s)]
theorem dkv_pa {c : Addr} {a r s a' : Int} : putK (dkv c a r s) (.inr "at") (.int a') = dkv c a' r s := rfl
theorem dkv_pr {c : Addr} {a r s a' : Int} : putK (dkv c a r s) (.inr "rest") (.int a') = dkv c a a' s := rfl
theorem dkv_ps {c : Addr} {a r s a' : Int} : putK (dkv c a r s) (.inr "seed") (.int a') = dkv c a r a' := rfl
/-- a deck stands at dk, its cells at c -/
structure Deck (H : Hp) (dk c : Addr) : Prop where
  ex : ∃ (a r s : Int) (cs : List Int), H dk = some (.dK (dkv c a r s)) ∧ H c = some (.lst (cs.map V.int)) ∧ 0 ≤ a ∧ 0 ≤ s ∧ s < 4294967296
theorem Deck.new {H : Hp} {dk c p : Addr} {o : HO} (h : Deck H dk c) (hp : H p = none) : Deck (upd H p o) dk c := by
  obtain ⟨L, s, n, cs, h1, h2, h3⟩ := h
  exact ⟨L, s, n, cs, get_new hp h1, get_new hp h2, h3⟩
theorem Deck.mut {H : Hp} {dk c p : Addr} {o : HO} (h : Deck H dk c) (hp : p ∉ [dk, c]) : Deck (upd H p o) dk c := by
  obtain ⟨L, s, n, cs, h1, h2, h3⟩ := h
  exact ⟨L, s, n, cs, get_ne (fun e => hp (e ▸ List.mem_cons_self)) h1, get_ne (fun e => hp (e ▸ List.mem_cons_of_mem _ List.mem_cons_self)) h2, h3⟩
theorem Deck.off' {H : Hp} {dk c p : Addr} (hp : H p = none) (h : Deck H dk c) : p ∉ [dk, c] := by
  obtain ⟨L, s, n, cs, h1, h2, h3⟩ := h
  intro m
  rcases List.mem_cons.mp m with e | m
  · rw [e, h1] at hp; cases hp
  · rcases List.mem_cons.mp m with e | m
    · rw [e, h2] at hp; cases hp
    · cases m
theorem Deck.off {H : Hp} {dk c p : Addr} (h : Deck H dk c) (hp : H p = none) : p ∉ [dk, c] := Deck.off' hp h
theorem Deck.evo0 {H H' : Hp} {dk c : Addr} (h : Deck H dk c) (e : Evo [] H H') : Deck H' dk c := by
  obtain ⟨L, s, n, cs, h1, h2, h3⟩ := h
  exact ⟨L, s, n, cs, e.get List.not_mem_nil h1, e.get List.not_mem_nil h2, h3⟩
section
variable {P : Program} {w : World} {K : PySem.W.Frag} {mg : Str → Option Value} {base : Heap}
inductive sp__law_deck (K : PySem.W.Frag) : List V → Hp → VK → XK → Prop
  | mk {H : Hp} {Q : VK} {E : XK} {a : Addr} {ns : List Int} (hS : SqL K H a (ns.map V.int)) (hn : ns.length ≤ 63) (k : ∀ H' dk c, Deck H' dk c → H dk = none → H c = none → Evo [] H H' → Q (.ref dk) H') : sp__law_deck K [.ref a] H Q E
theorem ok__law_deck (T : Tx K mg) : FnOk P w K mg base CX0 1 T.a__law_deck T.d__law_deck ["_law_script"] (sp__law_deck K) := by
  refine T.F__law_deck.ok sc__law_deck (fun vs H Q E h => ?_) (fun cdv A outer s H vs Q E hr h => ?_)
  · cases h
    rfl
  · obtain @⟨_, _, _, a, ns, hS, hn, k⟩ := h
    have hlen : (ns.map V.int).length ≤ 63 := by rw [List.length_map]; exact hn
    refine ⟨_, (pss_one (ps_ret (pe_disp (pps_cons pe_str (pe_callTy call_list_of (by rfl) T.n_list (by decide +kernel) (pa_cons (pe_slice (r := Ew.rSlE K) Ew.sl_listE (pv 0) po_none (po_some pe_int)) pa_nil)) (pps_cons pe_str pe_int (pps_cons pe_str pe_int (pps_cons pe_str pe_int pps_nil)))) (by rfl) (by rfl) (fun z => by cases z) (by decide)))), ?_⟩
    intro dk hdk
    refine ⟨_, rfl, _, rfl, _, _, _, rfl, sqL_new hdk hS, cut63 hlen, fun q hq => ?_⟩
    refine ⟨_, _, rfl, .inl (SqL.of upd_same), fun c hc => ?_⟩
    have e0 : Evo [] H (upd H dk (.dK [])) := (Evo.refl [] H).new hdk
    have e1 := e0.new (o := .lst (ns.map V.int)) hq
    have e2 := e1.new (o := .lst (ns.map V.int)) hc
    refine ⟨get_new hc (get_new hq upd_same), [(.inr "cells", .ref c), (.inr "at", .int 0), (.inr "rest", .int 0), (.inr "seed", .int 31)], rfl, by show 4 ≤ 15; decide, ?_⟩
    have ncd : c ≠ dk := fun e => by rw [e, get_new hq upd_same] at hc; cases hc
    exact k _ dk c ⟨0, 0, 31, ns, upd_same, get_ne ncd upd_same, by decide, by decide, by decide⟩ hdk (e1.fresh hc) (e2.mut hdk)
inductive sp__law_draw : List V → Hp → VK → XK → Prop
  | mk {H : Hp} {Q : VK} {E : XK} {dk c : Addr} {m : Int} (hD : Deck H dk c) (m0 : 0 < m) (m1 : m < 1073741824) (k : ∀ H' r, 0 ≤ r → r < m → Deck H' dk c → Evo [dk, c] H H' → Q (.int r) H') : sp__law_draw [.ref dk, .int m] H Q E
set_option maxHeartbeats 1000000 in
theorem ok__law_draw (T : Tx K mg) : FnOk P w K mg base CX0 1 T.a__law_draw T.d__law_draw ["_law_deck_here", "_law_many"] sp__law_draw := by
  refine T.F__law_draw.ok sc__law_draw (fun vs H Q E h => ?_) (fun cdv A outer s H vs Q E hr h => ?_)
  · cases h
    rfl
  · obtain @⟨_, _, _, dk, c, m, ⟨a, r, s, cs, hd, hc, ha0, hs0, hs1⟩, m0, m1, k⟩ := h
    have hu := hu_of hr
    have ncd : c ≠ dk := ne_of hc hd (by intro z; cases z)
    have hmd : ∀ ys, H dk ≠ some (.tup ys) := fun ys e => by rw [hd] at e; cases e
    have hfd : ∀ u v, H dk ≠ some (.frz u v) := fun ys _ e => by rw [hd] at e; cases e
    have i1 : dk ∈ [dk, c] := List.mem_cons_self
    refine ⟨_, (pss_cons (ps_if (pt_cmpR op_gt (pe_dget hu (pv 0) pe_str (fun _ _ => rfl)) pe_int (nomark _)) (pss_cons (ps_set (i := 2) sc__law_draw.nd rfl (Or.inl rfl) (pe_op op_mod (pe_dget hu (pv 0) pe_str (fun _ _ => rfl)) (pv 1)))
      (pss_cons (ps_dput hu (pv 0) pe_str (pe_op op_fdiv (pe_dget hu (pv 0) pe_str (fun _ _ => rfl)) (pv 1)) rfl)
      (pss_one (ps_ret (pv 2))))) pss_nil)
      (pss_cons (ps_set (i := 3) sc__law_draw.nd rfl (Or.inl rfl) pe_int)
      (pss_cons (ps_if (pt_cmpR op_lt (pe_dget hu (pv 0) pe_str (fun _ _ => rfl)) (pe_callB (r := Ew.rLen K) Ew.call_len (by rfl) T.n_len (by decide +kernel) (pa_cons (pe_dget hu (pv 0) pe_str (fun _ _ => rfl)) pa_nil)) (nomark _)) (pss_one (ps_set (i := 3) sc__law_draw.nd rfl (Or.inl rfl) (pe_ix (r := rIxL K) ix_list (pe_dget hu (pv 0) pe_str (fun _ _ => rfl)) (pe_dget hu (pv 0) pe_str (fun _ _ => rfl)) (fun _ _ => rfl)))) pss_nil)
      (pss_cons (ps_dput hu (pv 0) pe_str (pe_op op_add (pe_dget hu (pv 0) pe_str (fun _ _ => rfl)) pe_int) rfl)
      (pss_cons (ps_set (i := 4) sc__law_draw.nd rfl (Or.inl rfl) (pe_op op_add (pe_op op_mul (pe_dget hu (pv 0) pe_str (fun _ _ => rfl)) pe_int) (pe_op op_mul pe_int (pe_dget hu (pv 0) pe_str (fun _ _ => rfl)))))
      (pss_cons (ps_dput hu (pv 0) pe_str (pe_op op_mod (pe_op op_add (pv 4) (pe_op op_mod (pv 3) pe_int)) pe_int) rfl)
      (pss_cons (ps_if (pt_cmpR op_ge (pv 3) (pe_op (Ew.op_powC 10 18 1000000000000000000) pe_int pe_int) (nomark _)) (pss_cons (ps_dput hu (pv 0) pe_str (pe_op op_fdiv (pv 3) (pv 1)) rfl)
      (pss_one (ps_ret (pe_op op_mod (pv 3) (pv 1))))) pss_nil)
      (pss_cons (ps_set (i := 5) sc__law_draw.nd rfl (Or.inl rfl) (pe_op op_mod (pe_op op_mul (pe_dget hu (pv 0) pe_str (fun _ _ => rfl)) (pe_op op_add (pe_op op_fdiv (pe_dget hu (pv 0) pe_str (fun _ _ => rfl)) pe_int) pe_int)) pe_int))
      (pss_one (ps_ret (pe_op op_mod (pe_op op_fdiv (pe_op op_mod (pe_op op_mul (pv 5) (pe_op op_add (pe_op op_fdiv (pv 5) pe_int) pe_int)) pe_int) pe_int) (pv 1)))))))))))), ?_⟩
    refine ⟨_, rfl, dgetE hd rfl ⟨_, _, rfl, rfl, _, rfl, iteD (fun hL => ?_) (fun hL => ?_)⟩⟩
    · refine ⟨_, rfl, dgetE hd rfl ⟨_, rfl, ⟨_, _, rfl, rfl, by walk_at "ewc", ?_⟩⟩⟩
      refine ⟨_, rfl, dgetE hd rfl ⟨_, rfl, ⟨_, _, rfl, rfl, by walk_at "ewc", ?_⟩⟩⟩
      refine ⟨_, rfl, dputE hd dkv_pr ?_ (by show 4 ≤ 1000; decide)⟩
      refine ⟨_, rfl, ?_⟩
      exact k _ _ (Int.emod_nonneg _ (by omega)) (Int.emod_lt_of_pos _ m0) ⟨_, _, _, _, upd_same, get_ne ncd hc, ha0, hs0, hs1⟩ ((Evo.refl _ H).set i1 hmd hfd)
    · refine ⟨_, rfl, dgetE hd rfl ⟨_, rfl, dgetE hd rfl ?_⟩⟩
      refine lenL (SqL.of hc) ⟨_, _, rfl, rfl, _, rfl, iteD (fun hlt => ?_) (fun hge => ?_)⟩
      · have hlt' : a.toNat < cs.length := by rw [List.length_map] at hlt; omega
        refine ⟨_, rfl, dgetE hd rfl ⟨_, rfl, dgetE hd rfl ?_⟩⟩
        refine ixL (SqL.of hc) (v := .int cs[a.toNat]) ?_ ?_
        · exact at_of (j := a.toNat) (by omega) (by rw [List.getElem?_map, List.getElem?_eq_getElem hlt']; rfl)
        generalize cs[a.toNat] = z
        refine ⟨_, rfl, dgetE hd rfl ⟨_, _, rfl, rfl, ?_⟩⟩
        refine ⟨_, rfl, dputE hd dkv_pa ?_ (by show 4 ≤ 1000; decide)⟩
        refine ⟨_, rfl, dgetE upd_same rfl ⟨_, _, rfl, rfl, by walk_at "ewc", ?_⟩⟩
        refine ⟨_, rfl, dgetE upd_same rfl ⟨_, _, rfl, rfl, by walk_at "ewc", ⟨_, _, rfl, rfl, ?_⟩⟩⟩
        refine ⟨_, rfl, _, rfl, ⟨_, _, rfl, rfl, by walk_at "ewc", ⟨_, _, rfl, rfl, ⟨_, _, rfl, rfl, by walk_at "ewc", ?_⟩⟩⟩⟩
        refine ⟨_, rfl, dputE upd_same dkv_ps ?_ (by show 4 ≤ 1000; decide)⟩
        have E3 : Evo [dk, c] H (upd (upd H dk (.dK (dkv c (a + 1) r s))) dk (.dK (dkv c (a + 1) r ((s * 48271 + 7919 * (a + 1) + z % 2147483629) % 2147483587)))) := ((Evo.refl _ H).set i1 hmd hfd).set i1 hmd hfd
        have hc3 : (upd (upd H dk (.dK (dkv c (a + 1) r s))) dk (.dK (dkv c (a + 1) r ((s * 48271 + 7919 * (a + 1) + z % 2147483629) % 2147483587)))) c = some (.lst (cs.map V.int)) := get_ne ncd (get_ne ncd hc)
        have s0 : 0 ≤ (s * 48271 + 7919 * (a + 1) + z % 2147483629) % 2147483587 := by omega
        have s1 : (s * 48271 + 7919 * (a + 1) + z % 2147483629) % 2147483587 < 2147483587 := by omega
        have hd3 : (upd (upd H dk (.dK (dkv c (a + 1) r s))) dk (.dK (dkv c (a + 1) r ((s * 48271 + 7919 * (a + 1) + z % 2147483629) % 2147483587)))) dk = some (.dK (dkv c (a + 1) r ((s * 48271 + 7919 * (a + 1) + z % 2147483629) % 2147483587))) := upd_same
        refine ⟨_, rfl, rfl, rfl, _, _, rfl, rfl, _, rfl, iteD (fun hz => ?_) (fun hz => ?_)⟩
        · refine ⟨_, rfl, _, rfl, ⟨_, _, rfl, rfl, by walk_at "ewc", ?_⟩⟩
          refine ⟨_, rfl, dputE hd3 dkv_pr ?_ (by show 4 ≤ 1000; decide)⟩
          refine ⟨_, rfl, _, rfl, ⟨_, _, rfl, rfl, by walk_at "ewc", ?_⟩⟩
          exact k _ _ (Int.emod_nonneg _ (by omega)) (Int.emod_lt_of_pos _ m0) ⟨_, _, _, _, upd_same, get_ne ncd hc3, by omega, s0, by omega⟩ (E3.set i1 hmd hfd)
        · refine ⟨_, rfl, dgetE hd3 rfl ⟨_, rfl, dgetE hd3 rfl ⟨_, _, rfl, rfl, by walk_at "ewc", ⟨_, _, rfl, rfl, ⟨_, _, rfl, rfl, ?_, ⟨_, _, rfl, rfl, by walk_at "ewc", ?_⟩⟩⟩⟩⟩⟩
          · exact Or.inl ⟨by omega, by omega⟩
          have n0 : ∀ z : Int, 0 ≤ z % 2147483563 := fun z => by omega
          have n1 : ∀ z : Int, z % 2147483563 < 2147483563 := fun z => by omega
          refine ⟨_, rfl, _, rfl, ⟨_, _, rfl, rfl, by walk_at "ewc", ⟨_, _, rfl, rfl, ⟨_, _, rfl, rfl, ?_, ⟨_, _, rfl, rfl, by walk_at "ewc", ⟨_, _, rfl, rfl, by walk_at "ewc", ⟨_, rfl, ⟨_, _, rfl, rfl, by walk_at "ewc", ?_⟩⟩⟩⟩⟩⟩⟩⟩
          · exact Or.inl ⟨Int.lt_of_lt_of_le (by decide) (n0 _), Int.lt_trans (n1 _) (by decide)⟩
          exact k _ _ (Int.emod_nonneg _ (by omega)) (Int.emod_lt_of_pos _ m0) ⟨_, _, _, _, hd3, hc3, by omega, s0, by omega⟩ E3
      · refine ⟨_, rfl, dgetE hd rfl ⟨_, _, rfl, rfl, ?_⟩⟩
        refine ⟨_, rfl, dputE hd dkv_pa ?_ (by show 4 ≤ 1000; decide)⟩
        refine ⟨_, rfl, dgetE upd_same rfl ⟨_, _, rfl, rfl, by walk_at "ewc", ?_⟩⟩
        refine ⟨_, rfl, dgetE upd_same rfl ⟨_, _, rfl, rfl, by walk_at "ewc", ⟨_, _, rfl, rfl, ?_⟩⟩⟩
        refine ⟨_, rfl, _, rfl, ⟨_, _, rfl, rfl, by walk_at "ewc", ⟨_, _, rfl, rfl, ⟨_, _, rfl, rfl, by walk_at "ewc", ?_⟩⟩⟩⟩
        refine ⟨_, rfl, dputE upd_same dkv_ps ?_ (by show 4 ≤ 1000; decide)⟩
        have E3 : Evo [dk, c] H (upd (upd H dk (.dK (dkv c (a + 1) r s))) dk (.dK (dkv c (a + 1) r ((s * 48271 + 7919 * (a + 1) + 0 % 2147483629) % 2147483587)))) := ((Evo.refl _ H).set i1 hmd hfd).set i1 hmd hfd
        have hc3 : (upd (upd H dk (.dK (dkv c (a + 1) r s))) dk (.dK (dkv c (a + 1) r ((s * 48271 + 7919 * (a + 1) + 0 % 2147483629) % 2147483587)))) c = some (.lst (cs.map V.int)) := get_ne ncd (get_ne ncd hc)
        have s0 : 0 ≤ (s * 48271 + 7919 * (a + 1) + 0 % 2147483629) % 2147483587 := by omega
        have s1 : (s * 48271 + 7919 * (a + 1) + 0 % 2147483629) % 2147483587 < 2147483587 := by omega
        have hd3 : (upd (upd H dk (.dK (dkv c (a + 1) r s))) dk (.dK (dkv c (a + 1) r ((s * 48271 + 7919 * (a + 1) + 0 % 2147483629) % 2147483587)))) dk = some (.dK (dkv c (a + 1) r ((s * 48271 + 7919 * (a + 1) + 0 % 2147483629) % 2147483587))) := upd_same
        refine ⟨_, rfl, rfl, rfl, _, _, rfl, rfl, _, rfl, iteD (fun hz => ?_) (fun hz => ?_)⟩
        · refine ⟨_, rfl, _, rfl, ⟨_, _, rfl, rfl, by walk_at "ewc", ?_⟩⟩
          refine ⟨_, rfl, dputE hd3 dkv_pr ?_ (by show 4 ≤ 1000; decide)⟩
          refine ⟨_, rfl, _, rfl, ⟨_, _, rfl, rfl, by walk_at "ewc", ?_⟩⟩
          exact k _ _ (Int.emod_nonneg _ (by omega)) (Int.emod_lt_of_pos _ m0) ⟨_, _, _, _, upd_same, get_ne ncd hc3, by omega, s0, by omega⟩ (E3.set i1 hmd hfd)
        · refine ⟨_, rfl, dgetE hd3 rfl ⟨_, rfl, dgetE hd3 rfl ⟨_, _, rfl, rfl, by walk_at "ewc", ⟨_, _, rfl, rfl, ⟨_, _, rfl, rfl, ?_, ⟨_, _, rfl, rfl, by walk_at "ewc", ?_⟩⟩⟩⟩⟩⟩
          · exact Or.inl ⟨by omega, by omega⟩
          have n0 : ∀ z : Int, 0 ≤ z % 2147483563 := fun z => by omega
          have n1 : ∀ z : Int, z % 2147483563 < 2147483563 := fun z => by omega
          refine ⟨_, rfl, _, rfl, ⟨_, _, rfl, rfl, by walk_at "ewc", ⟨_, _, rfl, rfl, ⟨_, _, rfl, rfl, ?_, ⟨_, _, rfl, rfl, by walk_at "ewc", ⟨_, _, rfl, rfl, by walk_at "ewc", ⟨_, rfl, ⟨_, _, rfl, rfl, by walk_at "ewc", ?_⟩⟩⟩⟩⟩⟩⟩⟩
          · exact Or.inl ⟨Int.lt_of_lt_of_le (by decide) (n0 _), Int.lt_trans (n1 _) (by decide)⟩
          exact k _ _ (Int.emod_nonneg _ (by omega)) (Int.emod_lt_of_pos _ m0) ⟨_, _, _, _, hd3, hc3, by omega, s0, by omega⟩ E3
end
end
section
local macro_rules | `(tactic| walk_at "ewc") => `(tactic| first
  | (show (0 : Int) < _; omega)
  | (show (0 : Int) < _; decide)
  | (refine ⟨?_, ?_⟩ <;> omega)
  | exact Or.inl ⟨by omega, by omega⟩
  | exact Or.inr ⟨by omega, by omega⟩)
local macro_rules | `(tactic| walk_at "ewar") => `(tactic| first
  | omega
  | (simp only [Ew.ab]; repeat' split
     all_goals omega))
local macro_rules | `(tactic| walk_at "ewtup") => `(tactic| first
  | assumption
  | exact upd_same
  | (refine' Ew.get_new ?ew1 ?ew2; (case ew1 => assumption); (case ew2 => walk_at "ewtup"))
  | (refine' Ew.getI_mut ?ew1 ?ew2 rfl; (case ew1 => walk_at "ewlst"); (case ew2 => walk_at "ewtup"))
  | (refine' Ew.getI_mutD ?ew1 ?ew2 rfl; (case ew1 => assumption); (case ew2 => walk_at "ewtup"))
  | (refine' Ew.Evo.getI ?ew1 ?ew2 rfl; (case ew1 => assumption); (case ew2 => walk_at "ewtup")))
local macro_rules | `(tactic| walk_at "ewlst") => `(tactic| first
  | assumption
  | exact upd_same
  | (refine' Ew.get_new ?ew1 ?ew2; (case ew1 => assumption); (case ew2 => walk_at "ewlst"))
  | (refine' Ew.get_ne ?ew1 ?ew2; (case ew1 => assumption); (case ew2 => walk_at "ewlst"))
  | (refine' Ew.Evo.get ?ew1 ?ew2 ?ew3; (case ew1 => assumption); (case ew2 => walk_at "ewoff"); (case ew3 => walk_at "ewlst")))
local macro_rules | `(tactic| walk_at "ewoff") => `(tactic| first
  | assumption
  | exact List.not_mem_nil
  | (refine' Ew.Deck.off' ?ew1 ?ew2; (case ew1 => assumption); (case ew2 => walk_at "ewdeck")))
local macro_rules | `(tactic| walk_at "ewdeck") => `(tactic| first
  | assumption
  | (refine' Ew.Deck.new ?ew1 ?ew2; (case ew2 => assumption); (case ew1 => walk_at "ewdeck"))
  | (refine' Ew.Deck.mut ?ew1 ?ew2; (case ew2 => walk_at "ewoff"); (case ew1 => walk_at "ewdeck"))
  | (refine' Ew.Deck.evo0 ?ew1 ?ew2; (case ew2 => assumption); (case ew1 => walk_at "ewdeck")))
local macro_rules | `(tactic| walk_at "ewevo") => `(tactic| first
  | assumption
  | exact Ew.Evo.refl _ _
  | (refine' Ew.Evo.new ?ew1 ?ew2; (case ew2 => assumption); (case ew1 => walk_at "ewevo"))
  | (refine' Ew.Evo.mut ?ew1 ?ew2; (case ew2 => assumption); (case ew1 => walk_at "ewevo"))
  | (refine' Ew.Evo.trans ?ew1 ?ew2; (case ew2 => assumption); (case ew1 => walk_at "ewevo"))
  | (refine' Ew.Evo.call0 ?ew1 ?ew2; (case ew2 => assumption); (case ew1 => walk_at "ewevo")))
local macro_rules | `(tactic| walk_at "ewlen") => `(tactic| first
  | exact Nat.le_of_ble_eq_true rfl
  | omega
  | (simp only [List.length_map, List.length_append, List.length_cons, List.length_nil]; omega))
local macro_rules | `(tactic| walk_at "ewcall") => `(tactic| fail)
local macro_rules | `(tactic| walk_at "ew") => `(tactic| first
  | walk_at "ewcall"
  | refine ⟨_, rfl, ?_⟩
  | refine iteT ?_
  | refine iteF ?_
  | refine ⟨_, _, rfl, rfl, ?_⟩
  | (refine' Ew.ixT (SqT.of ?ew1) ?ew2 ?_; (case ew1 => walk_at "ewtup"); (case ew2 => rfl))
  | (refine' Ew.ixL (SqL.of ?ew1) ?ew2 ?_; (case ew1 => walk_at "ewlst"); (case ew2 => rfl))
  | (refine' ⟨_, ?_, rfl, SqT.of ?ew1, ?ew2, ?_⟩; (case ew1 => walk_at "ewtup"); (case ew2 => rfl))
  | (refine' ⟨_, ?_, rfl, SqL.of ?ew1, ?ew2, ?_⟩; (case ew1 => walk_at "ewlst"); (case ew2 => rfl))
  | refine ⟨_, _, rfl, ?_⟩
  | (refine' ⟨_, ?_, rfl, Or.inr (SqT.of ?ew1), rfl, ?ew2, ?_⟩; (case ew1 => walk_at "ewtup"); (case ew2 => rfl))
  | refine Or.inr ⟨_, rfl, ?_⟩
  | (refine' Ew.ixQ ?ew1 ?ew2 ?_; (case ew1 => first | assumption | exact Or.inl (by walk_at "ewlst") | exact Or.inr (by walk_at "ewtup")); (case ew2 => rfl))
  | refine ⟨_, _, _, rfl, fun m hm h1 h2 h3 => ?_⟩
  | refine ⟨_, _, _, _, rfl, fun m hm h1 h2 h3 h4 => ?_⟩
  | refine ⟨_, _, _, _, _, rfl, fun m hm h1 h2 h3 h4 h5 => ?_⟩
  | (refine' ⟨_, ?_, ?_, rfl, SqL.of ?ew1, ?ew2, fun p hp => ?_⟩; (case ew1 => walk_at "ewlst"); (case ew2 => first | exact Ew.cut_lo2 | exact Ew.cut_hi2))
  | (refine' ⟨_, ?_, ?_, rfl, SqT.of ?ew1, ?ew2, ?ew3, fun p hp => ?_⟩; (case ew1 => walk_at "ewtup"); (case ew2 => first | exact Ew.cut_lo2 | exact Ew.cut_hi2); (case ew3 => exact Nat.le_of_ble_eq_true rfl))
  | refine ⟨rfl, rfl, ?_⟩
  | refine ⟨rfl, ?_⟩
  | refine Ew.ii_ii ?_
  | refine Ew.ii_ib ?_
  | refine Ew.ii_bb ?_
  | (refine' Ew.ii_tt ?ew1 ?_; (case ew1 => walk_at "ewtup"))
  | refine ⟨Ew.sz (Nat.le_of_ble_eq_true rfl), fun p hp => ?_⟩
  | (refine' ⟨_, ?_, ?_, rfl, SqT.of ?ew1, fun p hp => ?_⟩; (case ew1 => walk_at "ewtup"))
  | (refine' ⟨Or.inl ⟨rfl, ?_, SqL.of ?ew1⟩, ?_⟩; (case ew1 => walk_at "ewlst"))
  | (refine' Ew.apd ?ew1 ?ew2 ?_; (case ew1 => walk_at "ewlst"); (case ew2 => walk_at "ewlen"))
  | (refine' ⟨?_, Ew.eqT ?ew1 ?ew2 ?ew3 ?ew4, ?_⟩; (case ew1 => walk_at "ewtup"); (case ew2 => walk_at "ewtup"); (case ew3 => rfl); (case ew4 => rfl))
  | (refine' Ew.lenT (SqT.of ?ew1) ?_; (case ew1 => walk_at "ewtup"))
  | (refine' Ew.lenL (SqL.of ?ew1) ?_; (case ew1 => walk_at "ewlst"))
  | refine ⟨by walk_at "ewc", ?_⟩
  | (refine' Ew.ixB (SqL.of ?ew1) (fun hb => ?_) (fun hb => ?_); (case ew1 => walk_at "ewlst")))
local macro_rules | `(tactic| walk_at "ewends") => `(tactic| first
  | assumption
  | (refine' Ew.EndsAt.new ?ew1 ?ew2; (case ew1 => assumption); (case ew2 => walk_at "ewends"))
  | (refine' Ew.EndsAt.mut ?ew1 ?ew2; (case ew1 => walk_at "ewlst"); (case ew2 => walk_at "ewends"))
  | (refine' Ew.EndsAt.evo ?ew1 ?ew2; (case ew1 => assumption); (case ew2 => walk_at "ewends")))
section
variable {P : Program} {w : World} {K : PySem.W.Frag} {mg : Str → Option Value} {base : Heap}
abbrev Bd (x : Int) : Prop := -1000000 ≤ x ∧ x ≤ 1000000
inductive sp_steps : List V → Hp → VK → XK → Prop
  | mk {H : Hp} {Q : VK} {E : XK} {a b : Addr} {x y x' y' : Int} (h1 : H a = some (.tup [.int x, .int y])) (h2 : H b = some (.tup [.int x', .int y'])) (k : Q (.int (ab (x - x') + ab (y - y'))) H) : sp_steps [.ref a, .ref b] H Q E
theorem ok_steps (T : Tx K mg) : FnOk P w K mg base CX0 1 T.a_steps T.d_steps ["one", "other"] sp_steps := by
  refine T.F_steps.ok sc_steps (fun vs H Q E h => by cases h; rfl) (fun cdv A outer s H vs Q E hr h => ?_)
  cases h with | mk h1 h2 k =>
  refine ⟨_, (pss_one (ps_ret (pe_op op_add (pe_callB call_abs (by rfl) T.n_abs (by decide +kernel) (pa_cons (pe_op op_sub (pe_ix (r := rIxT K) ix_tup (pv 0) pe_int (fun _ _ => rfl)) (pe_ix (r := rIxT K) ix_tup (pv 1) pe_int (fun _ _ => rfl))) pa_nil)) (pe_callB call_abs (by rfl) T.n_abs (by decide +kernel) (pa_cons (pe_op op_sub (pe_ix (r := rIxT K) ix_tup (pv 0) pe_int (fun _ _ => rfl)) (pe_ix (r := rIxT K) ix_tup (pv 1) pe_int (fun _ _ => rfl))) pa_nil))))), ?_⟩
  repeat walk_at "ew"
  exact k
local macro_rules | `(tactic| walk_at "ewcall") => `(tactic| first
  | (refine' sp_steps.mk ?ew1 ?ew2 ?_; (case ew1 => walk_at "ewtup"); (case ew2 => walk_at "ewtup"))
  | (refine' sp__law_draw.mk ?ew1 ?ew2 ?ew3 ?_; (case ew1 => walk_at "ewdeck"); (case ew2 => omega); (case ew3 => omega)))
inductive sp_wanted : List V → Hp → VK → XK → Prop
  | mk {H : Hp} {Q : VK} {E : XK} {a : Addr} {es : List En} {i j : Int} {p q : En} (hE : EndsAt H a es) (i0 : 0 ≤ i) (j0 : 0 ≤ j) (hi : es[i.toNat]? = some p) (hj : es[j.toNat]? = some q) (k : ∀ H', Evo [] H H' → Q (.int (want p q)) H') : sp_wanted [.ref a, .int i, .int j] H Q E
theorem ok_wanted (T : Tx K mg) : FnOk P w K mg base CX0 2 T.a_wanted T.d_wanted ["ends", "one", "other"] sp_wanted := by
  refine T.F_wanted.ok sc_wanted (fun vs H Q E h => by cases h; rfl) (fun cdv A outer s H vs Q E hr h => ?_)
  obtain @⟨_, _, _, a, es, i, j, p, q, hE, i0, j0, hi, hj, k⟩ := h
  refine ⟨_, (pss_cons (ps_set (i := 3) sc_wanted.nd rfl (Or.inl rfl) (pe_ix (r := rIxT K) ix_tup (pv 0) (pv 1) (fun _ _ => rfl)))
      (pss_cons (ps_set (i := 4) sc_wanted.nd rfl (Or.inl rfl) (pe_ix (r := rIxT K) ix_tup (pv 0) (pv 2) (fun _ _ => rfl)))
      (pss_one (ps_ret (pe_op op_add (pe_op op_add (pe_ix (r := rIxT K) ix_tup (pv 3) pe_int (fun _ _ => rfl)) (pe_ix (r := rIxT K) ix_tup (pv 4) pe_int (fun _ _ => rfl))) (pe_call (ok_steps T) (hr.mono (by decide)) rfl T.g_steps T.F_steps.kp T.b_steps .nil pass0 (pa_cons (pe_slice (r := Ew.rSlTE K) Ew.sl_tupE (pv 3) po_none (po_some pe_int)) (pa_cons (pe_slice (r := Ew.rSlTE K) Ew.sl_tupE (pv 4) po_none (po_some pe_int)) pa_nil)))))))), ?_⟩
  refine ⟨_, rfl, _, rfl, ixE hE i0 hi (fun b hb => ?_)⟩
  refine ⟨_, rfl, _, rfl, ixE hE j0 hj (fun c hc => ?_)⟩
  repeat walk_at "ew"
  exact k _ (by walk_at "ewevo")
inductive sp__law_number : List V → Hp → VK → XK → Prop
  | mk {H : Hp} {Q : VK} {E : XK} {dk c : Addr} {m : Int} (hD : Deck H dk c) (k : ∀ H' r, Bd r → Deck H' dk c → Evo [dk, c] H H' → Q (.int r) H') : sp__law_number [.ref dk, .int m] H Q E
theorem ok__law_number (T : Tx K mg) : FnOk P w K mg base CX0 2 T.a__law_number T.d__law_number ["_law_deck_here", "_law_way"] sp__law_number := by
  refine T.F__law_number.ok sc__law_number (fun vs H Q E h => by cases h; rfl) (fun cdv A outer s H vs Q E hr h => ?_)
  obtain @⟨_, _, _, dk, c, m, hD, k⟩ := h
  refine ⟨_, (pss_cons (ps_if (pt_cmpR Ew.op_eqI (pv 1) pe_int (nomark _)) (pss_one (ps_ret (pe_call (ok__law_draw T) (hr.mono (by decide)) rfl T.g__law_draw T.F__law_draw.kp T.b__law_draw .nil pass0 (pa_cons (pv 0) (pa_cons pe_int pa_nil))))) pss_nil)
      (pss_cons (ps_if (pt_cmpR Ew.op_eqI (pv 1) pe_int (nomark _)) (pss_one (ps_ret (pe_ix (r := rIxL K) ix_list (pe_lst (pa_cons (pe_op (Ew.op_powC 10 6 1000000) pe_int pe_int) (pa_cons (pe_op op_sub (pe_op (Ew.op_powC 10 6 1000000) pe_int pe_int) pe_int) (pa_cons (pe_un un_neg (pe_op (Ew.op_powC 10 6 1000000) pe_int pe_int)) (pa_cons (pe_op op_sub pe_int (pe_op (Ew.op_powC 10 6 1000000) pe_int pe_int)) pa_nil))))) (pe_call (ok__law_draw T) (hr.mono (by decide)) rfl T.g__law_draw T.F__law_draw.kp T.b__law_draw .nil pass0 (pa_cons (pv 0) (pa_cons pe_int pa_nil))) (fun _ _ => rfl)))) pss_nil)
      (pss_one (ps_ret (pe_op op_sub (pe_call (ok__law_draw T) (hr.mono (by decide)) rfl T.g__law_draw T.F__law_draw.kp T.b__law_draw .nil pass0 (pa_cons (pv 0) (pa_cons (pe_op op_add (pe_op op_mul pe_int (pe_op (Ew.op_powC 10 6 1000000) pe_int pe_int)) pe_int) pa_nil))) (pe_op (Ew.op_powC 10 6 1000000) pe_int pe_int)))))), ?_⟩
  repeat walk_at "ew"
  refine iteD (fun _ => ?_) (fun _ => ?_)
  · repeat walk_at "ew"
    intro H1 r r0 r1 hD1 e1
    exact k _ _ ⟨by omega, by omega⟩ hD1 e1
  repeat walk_at "ew"
  refine iteD (fun _ => ?_) (fun _ => ?_)
  · repeat walk_at "ew"
    rename_i l hl
    intro H1 r r0 r1 hD1 e1
    refine ixI (SqL.of (by walk_at "ewlst")) (by rfl) r0 (by exact r1) (fun z hz => ?_)
    simp only [List.mem_cons, List.not_mem_nil, or_false] at hz
    exact k _ _ ⟨by omega, by omega⟩ hD1 (((Evo.refl _ H).new hl).trans e1)
  · repeat walk_at "ew"
    intro H1 r r0 r1 hD1 e1
    repeat walk_at "ew"
    exact k _ _ ⟨by omega, by omega⟩ hD1 e1
inductive sp__law_start : List V → Hp → VK → XK → Prop
  | mk {H : Hp} {Q : VK} {E : XK} {dk c : Addr} {m : Int} (hD : Deck H dk c) (k : ∀ H' r, 0 ≤ r → r ≤ 1000000 → Deck H' dk c → Evo [dk, c] H H' → Q (.int r) H') : sp__law_start [.ref dk, .int m] H Q E
theorem ok__law_start (T : Tx K mg) : FnOk P w K mg base CX0 2 T.a__law_start T.d__law_start ["_law_deck_here", "_law_way"] sp__law_start := by
  refine T.F__law_start.ok sc__law_start (fun vs H Q E h => by cases h; rfl) (fun cdv A outer s H vs Q E hr h => ?_)
  obtain @⟨_, _, _, dk, c, m, hD, k⟩ := h
  refine ⟨_, (pss_cons (ps_if (pt_cmpR op_lt (pv 1) pe_int (nomark _)) (pss_one (ps_ret pe_int)) pss_nil)
      (pss_cons (ps_if (pt_cmpR Ew.op_eqI (pv 1) pe_int (nomark _)) (pss_one (ps_ret (pe_call (ok__law_draw T) (hr.mono (by decide)) rfl T.g__law_draw T.F__law_draw.kp T.b__law_draw .nil pass0 (pa_cons (pv 0) (pa_cons pe_int pa_nil))))) pss_nil)
      (pss_cons (ps_if (pt_cmpR Ew.op_eqI (pe_call (ok__law_draw T) (hr.mono (by decide)) rfl T.g__law_draw T.F__law_draw.kp T.b__law_draw .nil pass0 (pa_cons (pv 0) (pa_cons pe_int pa_nil))) pe_int (nomark _)) (pss_one (ps_ret (pe_op (Ew.op_powC 10 6 1000000) pe_int pe_int))) pss_nil)
      (pss_one (ps_ret (pe_op op_mul (pe_call (ok__law_draw T) (hr.mono (by decide)) rfl T.g__law_draw T.F__law_draw.kp T.b__law_draw .nil pass0 (pa_cons (pv 0) (pa_cons (pe_op op_add (pe_op (Ew.op_powC 10 6 1000000) pe_int pe_int) pe_int) pa_nil))) (pe_call (ok__law_draw T) (hr.mono (by decide)) rfl T.g__law_draw T.F__law_draw.kp T.b__law_draw .nil pass0 (pa_cons (pv 0) (pa_cons pe_int pa_nil))))))))), ?_⟩
  repeat walk_at "ew"
  refine iteD (fun _ => ?_) (fun _ => ?_)
  · exact k _ _ (by decide) (by decide) hD (Evo.refl _ H)
  repeat walk_at "ew"
  refine iteD (fun _ => ?_) (fun _ => ?_)
  · repeat walk_at "ew"
    intro H1 r r0 r1 hD1 e1
    exact k _ _ r0 (by omega) hD1 e1
  repeat walk_at "ew"
  intro H1 r r0 r1 hD1 e1
  repeat walk_at "ew"
  refine iteD (fun _ => ?_) (fun _ => ?_)
  · repeat walk_at "ew"
    exact k _ _ (by decide) (by decide) hD1 e1
  repeat walk_at "ew"
  intro H2 a a0 a1 hD2 e2
  repeat walk_at "ew"
  intro H3 b b0 b1 hD3 e3
  repeat walk_at "ew"
  refine k _ _ ?_ ?_ hD3 ((e1.trans e2).trans e3)
  · exact Int.mul_nonneg a0 b0
  · obtain rfl | rfl : b = 0 ∨ b = 1 := by omega
    · show a * 0 ≤ _; omega
    · show a * 1 ≤ _; omega
inductive sp__law_place : List V → Hp → VK → XK → Prop
  | mk {H : Hp} {Q : VK} {E : XK} {dk c : Addr} {m : Int} (hD : Deck H dk c) (k : ∀ H' p x y, H' p = some (.tup [.int x, .int y]) → Bd x → Bd y → Deck H' dk c → Evo [dk, c] H H' → Q (.ref p) H') : sp__law_place [.ref dk, .int m] H Q E
local macro_rules | `(tactic| walk_at "ewcall") => `(tactic| first
  | (refine' sp__law_number.mk ?ew1 ?_; (case ew1 => walk_at "ewdeck"))
  | (refine' sp__law_draw.mk ?ew1 ?ew2 ?ew3 ?_; (case ew1 => walk_at "ewdeck"); (case ew2 => omega); (case ew3 => omega)))
theorem ok__law_place (T : Tx K mg) : FnOk P w K mg base CX0 3 T.a__law_place T.d__law_place ["_law_deck_here", "_law_way"] sp__law_place := by
  refine T.F__law_place.ok sc__law_place (fun vs H Q E h => by cases h; rfl) (fun cdv A outer s H vs Q E hr h => ?_)
  obtain @⟨_, _, _, dk, c, m, hD, k⟩ := h
  refine ⟨_, (pss_cons (ps_if (pt_cmpR Ew.op_eqI (pv 1) pe_int (nomark _)) (pss_one (ps_ret (pe_tup (pa_cons (pe_call (ok__law_number T) (hr.mono (by decide)) rfl T.g__law_number T.F__law_number.kp T.b__law_number .nil pass0 (pa_cons (pv 0) (pa_cons pe_int pa_nil))) (pa_cons pe_int pa_nil))))) pss_nil)
      (pss_cons (ps_if (PW.pt (pw_or (pt_cmpR Ew.op_eqI (pv 1) pe_int (nomark _)) (pw_or1 (pt_cmpR Ew.op_eqI (pv 1) pe_int (nomark _))))) (pss_cons (ps_set (i := 2) sc__law_place.nd rfl (Or.inl rfl) (pe_op op_sub (pe_call (ok__law_draw T) (hr.mono (by decide)) rfl T.g__law_draw T.F__law_draw.kp T.b__law_draw .nil pass0 (pa_cons (pv 0) (pa_cons pe_int pa_nil))) pe_int))
      (pss_one (ps_ret (pe_tup (pa_cons (pv 2) (pa_cons (pe_ix (r := rIxL K) ix_list (pe_lst (pa_cons (pe_op op_sub pe_int (pv 2)) (pa_cons (pe_op op_sub (pv 2) pe_int) pa_nil))) (pe_op op_sub (pv 1) pe_int) (fun _ _ => rfl)) pa_nil)))))) pss_nil)
      (pss_cons (ps_if (pt_cmpR Ew.op_eqI (pv 1) pe_int (nomark _)) (pss_one (ps_ret (pe_tup (pa_cons (pe_call (ok__law_number T) (hr.mono (by decide)) rfl T.g__law_number T.F__law_number.kp T.b__law_number .nil pass0 (pa_cons (pv 0) (pa_cons pe_int pa_nil))) (pa_cons (pe_call (ok__law_number T) (hr.mono (by decide)) rfl T.g__law_number T.F__law_number.kp T.b__law_number .nil pass0 (pa_cons (pv 0) (pa_cons pe_int pa_nil))) pa_nil))))) pss_nil)
      (pss_cons (ps_set (i := 3) sc__law_place.nd rfl (Or.inl rfl) (pe_ix (r := rIxL K) ix_list (pe_lst (pa_cons pe_int (pa_cons pe_int pa_nil))) (pe_callTy call_int1 (by rfl) T.n_int (by decide +kernel) (pa_cons (pe_cmpR op_gt (pv 1) pe_int (nomark _)) pa_nil)) (fun _ _ => rfl)))
      (pss_one (ps_ret (pe_tup (pa_cons (pe_call (ok__law_number T) (hr.mono (by decide)) rfl T.g__law_number T.F__law_number.kp T.b__law_number .nil pass0 (pa_cons (pv 0) (pa_cons (pv 3) pa_nil))) (pa_cons (pe_call (ok__law_number T) (hr.mono (by decide)) rfl T.g__law_number T.F__law_number.kp T.b__law_number .nil pass0 (pa_cons (pv 0) (pa_cons (pv 3) pa_nil))) pa_nil))))))))), ?_⟩
  repeat walk_at "ew"
  refine iteD (fun _ => ?_) (fun _ => ?_)
  · repeat walk_at "ew"
    intro H1 x bx hD1 e1
    repeat walk_at "ew"
    rename_i q hq
    exact k _ _ _ _ upd_same bx ⟨by decide, by decide⟩ (hD1.new hq) (e1.new hq)
  repeat walk_at "ew"
  refine iteD (fun h2 => ?_) (fun h2 => ?_)
  · subst h2
    repeat walk_at "ew"
    intro H1 r r0 r1 hD1 e1
    repeat walk_at "ew"
    rename_i l hl q hq
    exact k _ _ _ _ upd_same ⟨by omega, by omega⟩ ⟨by omega, by omega⟩ ((hD1.new hl).new hq) ((e1.new hl).new hq)
  repeat walk_at "ew"
  refine iteD (fun h3 => ?_) (fun h3 => ?_)
  · subst h3
    repeat walk_at "ew"
    intro H1 r r0 r1 hD1 e1
    repeat walk_at "ew"
    rename_i l hl q hq
    exact k _ _ _ _ upd_same ⟨by omega, by omega⟩ ⟨by omega, by omega⟩ ((hD1.new hl).new hq) ((e1.new hl).new hq)
  repeat walk_at "ew"
  refine iteD (fun h4 => ?_) (fun h4 => ?_)
  · repeat walk_at "ew"
    intro H1 x bx hD1 e1
    repeat walk_at "ew"
    intro H2 y bY hD2 e2
    repeat walk_at "ew"
    rename_i q hq
    exact k _ _ _ _ upd_same bx bY (hD2.new hq) ((e1.trans e2).new hq)
  repeat walk_at "ew"
  all_goals
    repeat walk_at "ew"
    rename_i l hl
    intro H1 x bx hD1 e1
    repeat walk_at "ew"
    intro H2 y bY hD2 e2
    repeat walk_at "ew"
    rename_i q hq
    exact k _ _ _ _ upd_same bx bY (hD2.new hq) (((((Evo.refl _ H).new ‹H _ = none›).trans e1).trans e2).new hq)
end
end
section
local macro_rules | `(tactic| walk_at "ewc") => `(tactic| first
  | (show (0 : Int) < _; omega)
  | (show (0 : Int) < _; decide)
  | (refine ⟨?_, ?_⟩ <;> omega)
  | exact Or.inl ⟨by omega, by omega⟩
  | exact Or.inr ⟨by omega, by omega⟩)
local macro_rules | `(tactic| walk_at "ewar") => `(tactic| first
  | omega
  | (simp only [Ew.ab]; repeat' split
     all_goals omega))
local macro_rules | `(tactic| walk_at "ewtup") => `(tactic| first
  | assumption
  | exact upd_same
  | (refine' Ew.get_new ?ew1 ?ew2; (case ew1 => assumption); (case ew2 => walk_at "ewtup"))
  | (refine' Ew.getI_mut ?ew1 ?ew2 rfl; (case ew1 => walk_at "ewlst"); (case ew2 => walk_at "ewtup"))
  | (refine' Ew.getI_mutD ?ew1 ?ew2 rfl; (case ew1 => assumption); (case ew2 => walk_at "ewtup"))
  | (refine' Ew.Evo.getI ?ew1 ?ew2 rfl; (case ew1 => assumption); (case ew2 => walk_at "ewtup")))
local macro_rules | `(tactic| walk_at "ewlst") => `(tactic| first
  | assumption
  | exact upd_same
  | (refine' Ew.get_new ?ew1 ?ew2; (case ew1 => assumption); (case ew2 => walk_at "ewlst"))
  | (refine' Ew.get_ne ?ew1 ?ew2; (case ew1 => assumption); (case ew2 => walk_at "ewlst"))
  | (refine' Ew.Evo.get ?ew1 ?ew2 ?ew3; (case ew1 => assumption); (case ew2 => walk_at "ewoff"); (case ew3 => walk_at "ewlst")))
local macro_rules | `(tactic| walk_at "ewoff") => `(tactic| first
  | assumption
  | exact List.not_mem_nil
  | (refine' Ew.Deck.off' ?ew1 ?ew2; (case ew1 => assumption); (case ew2 => walk_at "ewdeck")))
local macro_rules | `(tactic| walk_at "ewdeck") => `(tactic| first
  | assumption
  | (refine' Ew.Deck.new ?ew1 ?ew2; (case ew2 => assumption); (case ew1 => walk_at "ewdeck"))
  | (refine' Ew.Deck.mut ?ew1 ?ew2; (case ew2 => walk_at "ewoff"); (case ew1 => walk_at "ewdeck"))
  | (refine' Ew.Deck.evo0 ?ew1 ?ew2; (case ew2 => assumption); (case ew1 => walk_at "ewdeck")))
local macro_rules | `(tactic| walk_at "ewevo") => `(tactic| first
  | assumption
  | exact Ew.Evo.refl _ _
  | (refine' Ew.Evo.new ?ew1 ?ew2; (case ew2 => assumption); (case ew1 => walk_at "ewevo"))
  | (refine' Ew.Evo.mut ?ew1 ?ew2; (case ew2 => assumption); (case ew1 => walk_at "ewevo"))
  | (refine' Ew.Evo.trans ?ew1 ?ew2; (case ew2 => assumption); (case ew1 => walk_at "ewevo"))
  | (refine' Ew.Evo.call0 ?ew1 ?ew2; (case ew2 => assumption); (case ew1 => walk_at "ewevo")))
local macro_rules | `(tactic| walk_at "ewlen") => `(tactic| first
  | exact Nat.le_of_ble_eq_true rfl
  | omega
  | (simp only [List.length_map, List.length_append, List.length_cons, List.length_nil]; omega))
local macro_rules | `(tactic| walk_at "ewcall") => `(tactic| fail)
local macro_rules | `(tactic| walk_at "ew") => `(tactic| first
  | walk_at "ewcall"
  | refine ⟨_, rfl, ?_⟩
  | refine iteT ?_
  | refine iteF ?_
  | refine ⟨_, _, rfl, rfl, ?_⟩
  | (refine' Ew.ixT (SqT.of ?ew1) ?ew2 ?_; (case ew1 => walk_at "ewtup"); (case ew2 => rfl))
  | (refine' Ew.ixL (SqL.of ?ew1) ?ew2 ?_; (case ew1 => walk_at "ewlst"); (case ew2 => rfl))
  | (refine' ⟨_, ?_, rfl, SqT.of ?ew1, ?ew2, ?_⟩; (case ew1 => walk_at "ewtup"); (case ew2 => rfl))
  | (refine' ⟨_, ?_, rfl, SqL.of ?ew1, ?ew2, ?_⟩; (case ew1 => walk_at "ewlst"); (case ew2 => rfl))
  | refine ⟨_, _, rfl, ?_⟩
  | (refine' ⟨_, ?_, rfl, Or.inr (SqT.of ?ew1), rfl, ?ew2, ?_⟩; (case ew1 => walk_at "ewtup"); (case ew2 => rfl))
  | refine Or.inr ⟨_, rfl, ?_⟩
  | (refine' Ew.ixQ ?ew1 ?ew2 ?_; (case ew1 => first | assumption | exact Or.inl (by walk_at "ewlst") | exact Or.inr (by walk_at "ewtup")); (case ew2 => rfl))
  | refine ⟨_, _, _, rfl, fun m hm h1 h2 h3 => ?_⟩
  | refine ⟨_, _, _, _, rfl, fun m hm h1 h2 h3 h4 => ?_⟩
  | refine ⟨_, _, _, _, _, rfl, fun m hm h1 h2 h3 h4 h5 => ?_⟩
  | (refine' ⟨_, ?_, ?_, rfl, SqL.of ?ew1, ?ew2, fun p hp => ?_⟩; (case ew1 => walk_at "ewlst"); (case ew2 => first | exact Ew.cut_lo2 | exact Ew.cut_hi2))
  | (refine' ⟨_, ?_, ?_, rfl, SqT.of ?ew1, ?ew2, ?ew3, fun p hp => ?_⟩; (case ew1 => walk_at "ewtup"); (case ew2 => first | exact Ew.cut_lo2 | exact Ew.cut_hi2); (case ew3 => exact Nat.le_of_ble_eq_true rfl))
  | refine ⟨rfl, rfl, ?_⟩
  | refine ⟨rfl, ?_⟩
  | refine Ew.ii_ii ?_
  | refine Ew.ii_ib ?_
  | refine Ew.ii_bb ?_
  | (refine' Ew.ii_tt ?ew1 ?_; (case ew1 => walk_at "ewtup"))
  | refine ⟨Ew.sz (Nat.le_of_ble_eq_true rfl), fun p hp => ?_⟩
  | (refine' ⟨_, ?_, ?_, rfl, SqT.of ?ew1, fun p hp => ?_⟩; (case ew1 => walk_at "ewtup"))
  | (refine' ⟨Or.inl ⟨rfl, ?_, SqL.of ?ew1⟩, ?_⟩; (case ew1 => walk_at "ewlst"))
  | (refine' Ew.apd ?ew1 ?ew2 ?_; (case ew1 => walk_at "ewlst"); (case ew2 => walk_at "ewlen"))
  | (refine' ⟨?_, Ew.eqT ?ew1 ?ew2 ?ew3 ?ew4, ?_⟩; (case ew1 => walk_at "ewtup"); (case ew2 => walk_at "ewtup"); (case ew3 => rfl); (case ew4 => rfl))
  | (refine' Ew.lenT (SqT.of ?ew1) ?_; (case ew1 => walk_at "ewtup"))
  | (refine' Ew.lenL (SqL.of ?ew1) ?_; (case ew1 => walk_at "ewlst"))
  | refine ⟨by walk_at "ewc", ?_⟩
  | (refine' Ew.ixB (SqL.of ?ew1) (fun hb => ?_) (fun hb => ?_); (case ew1 => walk_at "ewlst")))
local macro_rules | `(tactic| walk_at "ewends") => `(tactic| first
  | assumption
  | (refine' Ew.EndsAt.new ?ew1 ?ew2; (case ew1 => assumption); (case ew2 => walk_at "ewends"))
  | (refine' Ew.EndsAt.mut ?ew1 ?ew2; (case ew1 => walk_at "ewlst"); (case ew2 => walk_at "ewends"))
  | (refine' Ew.EndsAt.evo ?ew1 ?ew2; (case ew1 => assumption); (case ew2 => walk_at "ewends")))
section
variable {P : Program} {w : World} {K : PySem.W.Frag} {mg : Str → Option Value} {base : Heap}
local macro_rules | `(tactic| walk_at "ewcall") => `(tactic| first
  | (refine' sp__law_start.mk ?ew1 ?_; (case ew1 => walk_at "ewdeck"))
  | (refine' sp__law_place.mk ?ew1 ?_; (case ew1 => walk_at "ewdeck"))
  | (refine' sp__law_draw.mk ?ew1 ?ew2 ?ew3 ?_; (case ew1 => walk_at "ewdeck"); (case ew2 => omega); (case ew3 => omega)))
inductive sp__law_ends : List V → Hp → VK → XK → Prop
  | mk {H : Hp} {Q : VK} {E : XK} {dk c : Addr} (hD : Deck H dk c) (k : ∀ H' a es, EndsAt H' a es → 1 ≤ es.length → es.length ≤ 24 → (∀ e ∈ es, En.Ok e) → Deck H' dk c → Evo [dk, c] H H' → Q (.ref a) H') : sp__law_ends [.ref dk] H Q E
set_option maxHeartbeats 2000000 in
theorem ok__law_ends (T : Tx K mg) : FnOk P w K mg base CX0 4 T.a__law_ends T.d__law_ends ["_law_deck_here"] sp__law_ends := by
  refine T.F__law_ends.ok sc__law_ends (fun vs H Q E h => by cases h; rfl) (fun cdv A outer s H vs Q E hr h => ?_)
  obtain @⟨_, _, _, dk, c, hD, k⟩ := h
  refine ⟨_, (pss_cons (ps_set (i := 1) sc__law_ends.nd rfl (Or.inl rfl) (pe_cmpR Ew.op_eqI (pe_call (ok__law_draw T) (hr.mono (by decide)) rfl T.g__law_draw T.F__law_draw.kp T.b__law_draw .nil pass0 (pa_cons (pv 0) (pa_cons pe_int pa_nil))) pe_int (nomark _)))
      (pss_cons (ps_set (i := 2) sc__law_ends.nd rfl (Or.inl rfl) (pe_lst (pa_cons (pe_call (ok__law_draw T) (hr.mono (by decide)) rfl T.g__law_draw T.F__law_draw.kp T.b__law_draw .nil pass0 (pa_cons (pv 0) (pa_cons pe_int pa_nil))) (pa_cons (pe_call (ok__law_draw T) (hr.mono (by decide)) rfl T.g__law_draw T.F__law_draw.kp T.b__law_draw .nil pass0 (pa_cons (pv 0) (pa_cons pe_int pa_nil))) pa_nil))))
      (C8.pss_cut (ps_set (i := 3) sc__law_ends.nd rfl (Or.inl rfl) (pe_op op_add pe_int (pe_call (ok__law_draw T) (hr.mono (by decide)) rfl T.g__law_draw T.F__law_draw.kp T.b__law_draw .nil pass0 (pa_cons (pv 0) (pa_cons (pe_ix (r := rIxL K) ix_list (pe_lst (pa_cons pe_int (pa_cons pe_int pa_nil))) (pe_callTy call_int1 (by rfl) T.n_int (by decide +kernel) (pa_cons (pv 1) pa_nil)) (fun _ _ => rfl)) pa_nil)))))
      (pss_cons (ps_set (i := 4) sc__law_ends.nd rfl (Or.inl rfl) (pe_lst pa_nil))
      (pss_cons (ps_for PassesOwn.never rfl (pi_range1 (by rfl) T.n_range (pa_cons (pv 3) pa_nil)) (pg_name (i := 5) sc__law_ends.nd rfl (.inl rfl))
      (pss_cons (ps_set (i := 6) sc__law_ends.nd rfl (Or.inl rfl) (pe_cmpR Ew.op_eqI (pe_call (ok__law_draw T) (hr.mono (by decide)) rfl T.g__law_draw T.F__law_draw.kp T.b__law_draw .nil pass0 (pa_cons (pv 0) (pa_cons pe_int pa_nil))) pe_int (nomark _)))
      (pss_cons (ps_set (i := 7) sc__law_ends.nd rfl (Or.inl rfl) (pe_call (ok__law_place T) (hr.mono (by decide)) rfl T.g__law_place T.F__law_place.kp T.b__law_place .nil pass0 (pa_cons (pv 0) (pa_cons (pe_ix (r := rIxL K) ix_list (pv 2) pe_int (fun _ _ => rfl)) pa_nil))))
      (C8.pss_cut (ps_if (PW.pt (pw_and (pt_val (pv 6)) (pw_and1 (pt_cmpR (r := Ew.rNeX K) (Ew.op_neX hr.units) (pv 4) (pe_lst pa_nil) (nomark _))))) (pss_one (ps_set (i := 7) sc__law_ends.nd rfl (Or.inl rfl) (pe_slice (r := Ew.rSlTE K) Ew.sl_tupE (pe_ix (r := rIxL K) ix_list (pv 4) (pe_call (ok__law_draw T) (hr.mono (by decide)) rfl T.g__law_draw T.F__law_draw.kp T.b__law_draw .nil pass0 (pa_cons (pv 0) (pa_cons (pe_callB (r := Ew.rLen K) Ew.call_len (by rfl) T.n_len (by decide +kernel) (pa_cons (pv 4) pa_nil)) pa_nil))) (fun _ _ => rfl)) po_none (po_some pe_int)))) pss_nil)
      (pss_one (ps_expr (pe_bm PySem.F.plainAttrs_list PySem.F.slot_list_append PySem.F.type_list_append mt_append (pv 4) (pa_cons (pe_op (r := rCatT K) op_catT (pv 7) (pe_tup (pa_cons (pe_call (ok__law_start T) (hr.mono (by decide)) rfl T.g__law_start T.F__law_start.kp T.b__law_start .nil pass0 (pa_cons (pv 0) (pa_cons (pe_ix (r := rIxL K) ix_list (pv 2) pe_int (fun _ _ => rfl)) pa_nil))) (pa_cons (pe_call (ok__law_draw T) (hr.mono (by decide)) rfl T.g__law_draw T.F__law_draw.kp T.b__law_draw .nil pass0 (pa_cons (pv 0) (pa_cons (pe_op op_add (pe_op (Ew.op_powC 10 6 1000000) pe_int pe_int) pe_int) pa_nil))) pa_nil)))) pa_nil))))))))
      (pss_one (ps_ret (pe_callTy (r := Ew.rTupleOf K) Ew.call_tuple (by rfl) T.n_tuple (by decide +kernel) (pa_cons (pv 4) pa_nil))))))))), ?_⟩
  repeat walk_at "ew"
  intro H1 r r0 r1 hD1 e1
  repeat walk_at "ew"
  intro H2 w0 w00 w01 hD2 e2
  repeat walk_at "ew"
  intro H3 w1 w10 w11 hD3 e3
  repeat walk_at "ew"
  rename_i lw hlw
  have olw := hD3.off hlw
  have E3 : Evo [dk, c] H (upd H3 lw (.lst [.int w0, .int w1])) := ((e1.trans e2).trans e3).new hlw
  have hlw3 : upd H3 lw (.lst [.int w0, .int w1]) lw = some (.lst [.int w0, .int w1]) := upd_same
  have hD3' := hD3.new (o := .lst [.int w0, .int w1]) hlw
  generalize upd H3 lw (.lst [.int w0, .int w1]) = H4 at *
  -- many
  refine ⟨fun σ H' => ∃ n : Int, 1 ≤ n ∧ n ≤ 24 ∧ σ = [some (.ref dk), some (.bl (decide (r = 5))), some (.ref lw), some (.int n), none, none, none, none] ∧ Deck H' dk c ∧ H' lw = some (.lst [.int w0, .int w1]) ∧ Evo [dk, c] H H', ?_, ?_⟩
  · repeat walk_at "ew"
    all_goals
      repeat walk_at "ew"
      rename_i l6 hl6 _
      intro H5 z z0 z1 hD5 e5
      repeat walk_at "ew"
      exact ⟨_, by omega, by omega, rfl, hD5, by walk_at "ewlst", (E3.new hl6).trans e5⟩
  rintro σ H5 ⟨n, n0, n1, rfl, hD5, hlw5, E5⟩
  clear hlw3 hD3' E3
  repeat walk_at "ew"
  rename_i l hl
  have ol := hD5.off hl
  have nlw : lw ≠ l := ne_of_none hlw5 hl
  have freshl : H l = none → True := fun _ => trivial
  refine ⟨by omega, by omega, for_range (n := n.toNat) (fun j σ H' => ∃ v5 v6 v7 vs es, σ = [some (.ref dk), some (.bl (decide (r = 5))), some (.ref lw), some (.int n), some (.ref l), v5, v6, v7] ∧ Deck H' dk c ∧ H' lw = some (.lst [.int w0, .int w1]) ∧ H' l = some (.lst vs) ∧ RowsAt H' vs (es.map En.row) ∧ es.length = j ∧ (∀ e ∈ es, En.Ok e) ∧ Evo [dk, c] H5 H')
    ⟨_, _, _, [], [], rfl, hD5.new hl, get_new hl hlw5, upd_same, .nil, rfl, (by intro e h; cases h), (Evo.refl _ _).new hl⟩ ?_ ?_⟩
  · rintro j σ H6 hj ⟨v5, v6, v7, vs, es, rfl, hD6, hlw6, hl6, hR6, hes, hok, E6⟩
    have hvl : vs.length ≤ 24 := by rw [hR6.length, List.length_map]; omega
    repeat walk_at "ew"
    intro H7 a a0 a1 hD7 e7
    repeat walk_at "ew"
    intro H8 p x y hp bx bY hD8 e8
    have hlw8 : H8 lw = some (.lst [.int w0, .int w1]) := by walk_at "ewlst"
    have hl8 : H8 l = some (.lst vs) := by walk_at "ewlst"
    have hR8 := (hR6.evo e7).evo e8
    have E8 := (E6.trans e7).trans e8
    clear hlw6 hl6 hR6 hD6 hD7
    refine ⟨fun σ H' => ∃ p x y, σ = [some (.ref dk), some (.bl (decide (r = 5))), some (.ref lw), some (.int n), some (.ref l), some (.int (0 + j)), some (.bl (decide (a = 1))), some (.ref p)] ∧ H' p = some (.tup [.int x, .int y]) ∧ Bd x ∧ Bd y ∧ Deck H' dk c ∧ H' lw = some (.lst [.int w0, .int w1]) ∧ H' l = some (.lst vs) ∧ RowsAt H' vs (es.map En.row) ∧ Evo [dk, c] H5 H', ?_, ?_⟩
    · repeat walk_at "ew"
      refine iteD (fun _ => ?_) (fun _ => ?_)
      · repeat walk_at "ew"
        rename_i en hen
        refine ⟨_, eqNil (get_new hen hl8) (hR8.new hen) upd_same, ?_⟩
        repeat walk_at "ew"
        refine iteN (fun hne => ?_) (fun hnil => ?_)
        · have hlen : 0 < es.length := by
            cases es with
            | nil => exact absurd rfl hne
            | cons _ _ => exact Nat.succ_pos _
          have hvs : (vs.length : Int) = es.length := by rw [hR8.length, List.length_map]
          repeat walk_at "ew"
          intro H9 z z0 z1 hD9 e9
          have hz : z.toNat < es.length := by omega
          refine ixEL (e := es[z.toNat]) (by walk_at "ewlst") ((hR8.new hen).evo e9) z0 (List.getElem?_eq_getElem hz) (fun q hq => ?_)
          have oke := hok _ (List.getElem_mem hz)
          repeat walk_at "ew"
          rename_i t ht
          exact ⟨_, _, _, rfl, upd_same, ⟨oke.x0, oke.x1⟩, ⟨oke.y0, oke.y1⟩, hD9.new ht, get_new ht (by walk_at "ewlst"), get_new ht (by walk_at "ewlst"), ((hR8.new hen).evo e9).new ht, ((E8.new hen).trans e9).new ht⟩
        · exact ⟨_, _, _, rfl, get_new hen hp, bx, bY, hD8.new hen, get_new hen hlw8, get_new hen hl8, hR8.new hen, E8.new hen⟩
      · repeat walk_at "ew"
        exact ⟨_, _, _, rfl, hp, bx, bY, hD8, hlw8, hl8, hR8, E8⟩
    clear hR8 hl8 hlw8 E8 hp bx bY hD8 e8 e7
    rintro σ H9 ⟨p, x, y, rfl, hp, bx, bY, hD9, hlw9, hl9, hR9, E9⟩
    repeat walk_at "ew"
    intro H10 st st0 st1 hD10 e10
    repeat walk_at "ew"
    intro H11 ld ld0 ld1 hD11 e11
    repeat walk_at "ew"
    rename_i t ht
    refine catE (by walk_at "ewtup") (by walk_at "ewtup") (by intro z; cases z) (by intro z; cases z) (by show 4 ≤ 1000; decide) (fun u hu => ?_)
    repeat walk_at "ew"
    have hl11 : H11 l = some (.lst vs) := by walk_at "ewlst"
    have hlw11 : H11 lw = some (.lst [.int w0, .int w1]) := by walk_at "ewlst"
    have hR12 := (((hR9.evo e10).evo e11).new ht).new hu (o := .tup ([.int x, .int y] ++ [.int st, .int ld]))
    refine ⟨_, _, _, vs ++ [.ref u], es ++ [⟨x, y, st, ld⟩], rfl, by walk_at "ewdeck", get_ne nlw (get_new hu (get_new ht hlw11)), upd_same, ?_, by rw [List.length_append, hes]; rfl, ?_, ((((E9.trans e10).trans e11).new ht).new hu).mut hl⟩
    · rw [List.map_append]
      exact (hR12.snoc (r := [x, y, st, ld]) upd_same).mut (get_new hu (get_new ht hl11))
    · intro e he
      rcases List.mem_append.mp he with h | h
      · exact hok e h
      · rw [List.mem_singleton.mp h]
        exact ⟨bx.1, bx.2, bY.1, bY.2, st0, st1, ld0, by show ld ≤ 1000000; omega⟩
  · rintro σ H6 ⟨v5, v6, v7, vs, es, rfl, hD6, hlw6, hl6, hR6, hes, hok, E6⟩
    refine ⟨_, rfl, _, _, rfl, Or.inl ⟨SqL.of hl6, fun a ha => ?_⟩⟩
    exact k _ a es ⟨vs, upd_same, hR6.new ha⟩ (by omega) (by omega) hok (hD6.new ha) ((E5.trans E6).new ha)
end
end
section
local macro_rules | `(tactic| walk_at "ewc") => `(tactic| first
  | (show (0 : Int) < _; omega)
  | (show (0 : Int) < _; decide)
  | (refine ⟨?_, ?_⟩ <;> omega)
  | exact Or.inl ⟨by omega, by omega⟩
  | exact Or.inr ⟨by omega, by omega⟩)
local macro_rules | `(tactic| walk_at "ewar") => `(tactic| first
  | omega
  | (simp only [Ew.ab]; repeat' split
     all_goals omega))
local macro_rules | `(tactic| walk_at "ewtup") => `(tactic| first
  | assumption
  | exact upd_same
  | (refine' Ew.get_new ?ew1 ?ew2; (case ew1 => assumption); (case ew2 => walk_at "ewtup"))
  | (refine' Ew.getI_mut ?ew1 ?ew2 rfl; (case ew1 => walk_at "ewlst"); (case ew2 => walk_at "ewtup"))
  | (refine' Ew.getI_mutD ?ew1 ?ew2 rfl; (case ew1 => assumption); (case ew2 => walk_at "ewtup"))
  | (refine' Ew.Evo.getI ?ew1 ?ew2 rfl; (case ew1 => assumption); (case ew2 => walk_at "ewtup")))
local macro_rules | `(tactic| walk_at "ewlst") => `(tactic| first
  | assumption
  | exact upd_same
  | (refine' Ew.get_new ?ew1 ?ew2; (case ew1 => assumption); (case ew2 => walk_at "ewlst"))
  | (refine' Ew.get_ne ?ew1 ?ew2; (case ew1 => assumption); (case ew2 => walk_at "ewlst"))
  | (refine' Ew.Evo.get ?ew1 ?ew2 ?ew3; (case ew1 => assumption); (case ew2 => walk_at "ewoff"); (case ew3 => walk_at "ewlst")))
local macro_rules | `(tactic| walk_at "ewoff") => `(tactic| first
  | assumption
  | exact List.not_mem_nil
  | (refine' Ew.Deck.off' ?ew1 ?ew2; (case ew1 => assumption); (case ew2 => walk_at "ewdeck")))
local macro_rules | `(tactic| walk_at "ewdeck") => `(tactic| first
  | assumption
  | (refine' Ew.Deck.new ?ew1 ?ew2; (case ew2 => assumption); (case ew1 => walk_at "ewdeck"))
  | (refine' Ew.Deck.mut ?ew1 ?ew2; (case ew2 => walk_at "ewoff"); (case ew1 => walk_at "ewdeck"))
  | (refine' Ew.Deck.evo0 ?ew1 ?ew2; (case ew2 => assumption); (case ew1 => walk_at "ewdeck")))
local macro_rules | `(tactic| walk_at "ewevo") => `(tactic| first
  | assumption
  | exact Ew.Evo.refl _ _
  | (refine' Ew.Evo.new ?ew1 ?ew2; (case ew2 => assumption); (case ew1 => walk_at "ewevo"))
  | (refine' Ew.Evo.mut ?ew1 ?ew2; (case ew2 => assumption); (case ew1 => walk_at "ewevo"))
  | (refine' Ew.Evo.trans ?ew1 ?ew2; (case ew2 => assumption); (case ew1 => walk_at "ewevo"))
  | (refine' Ew.Evo.call0 ?ew1 ?ew2; (case ew2 => assumption); (case ew1 => walk_at "ewevo")))
local macro_rules | `(tactic| walk_at "ewlen") => `(tactic| first
  | exact Nat.le_of_ble_eq_true rfl
  | omega
  | (simp only [List.length_map, List.length_append, List.length_cons, List.length_nil]; omega))
local macro_rules | `(tactic| walk_at "ewcall") => `(tactic| fail)
local macro_rules | `(tactic| walk_at "ew") => `(tactic| first
  | walk_at "ewcall"
  | refine ⟨_, rfl, ?_⟩
  | refine iteT ?_
  | refine iteF ?_
  | refine ⟨_, _, rfl, rfl, ?_⟩
  | (refine' Ew.ixT (SqT.of ?ew1) ?ew2 ?_; (case ew1 => walk_at "ewtup"); (case ew2 => rfl))
  | (refine' Ew.ixL (SqL.of ?ew1) ?ew2 ?_; (case ew1 => walk_at "ewlst"); (case ew2 => rfl))
  | (refine' ⟨_, ?_, rfl, SqT.of ?ew1, ?ew2, ?_⟩; (case ew1 => walk_at "ewtup"); (case ew2 => rfl))
  | (refine' ⟨_, ?_, rfl, SqL.of ?ew1, ?ew2, ?_⟩; (case ew1 => walk_at "ewlst"); (case ew2 => rfl))
  | refine ⟨_, _, rfl, ?_⟩
  | (refine' ⟨_, ?_, rfl, Or.inr (SqT.of ?ew1), rfl, ?ew2, ?_⟩; (case ew1 => walk_at "ewtup"); (case ew2 => rfl))
  | refine Or.inr ⟨_, rfl, ?_⟩
  | (refine' Ew.ixQ ?ew1 ?ew2 ?_; (case ew1 => first | assumption | exact Or.inl (by walk_at "ewlst") | exact Or.inr (by walk_at "ewtup")); (case ew2 => rfl))
  | refine ⟨_, _, _, rfl, fun m hm h1 h2 h3 => ?_⟩
  | refine ⟨_, _, _, _, rfl, fun m hm h1 h2 h3 h4 => ?_⟩
  | refine ⟨_, _, _, _, _, rfl, fun m hm h1 h2 h3 h4 h5 => ?_⟩
  | (refine' ⟨_, ?_, ?_, rfl, SqL.of ?ew1, ?ew2, fun p hp => ?_⟩; (case ew1 => walk_at "ewlst"); (case ew2 => first | exact Ew.cut_lo2 | exact Ew.cut_hi2))
  | (refine' ⟨_, ?_, ?_, rfl, SqT.of ?ew1, ?ew2, ?ew3, fun p hp => ?_⟩; (case ew1 => walk_at "ewtup"); (case ew2 => first | exact Ew.cut_lo2 | exact Ew.cut_hi2); (case ew3 => exact Nat.le_of_ble_eq_true rfl))
  | refine ⟨rfl, rfl, ?_⟩
  | refine ⟨rfl, ?_⟩
  | refine Ew.ii_ii ?_
  | refine Ew.ii_ib ?_
  | refine Ew.ii_bb ?_
  | (refine' Ew.ii_tt ?ew1 ?_; (case ew1 => walk_at "ewtup"))
  | refine ⟨Ew.sz (Nat.le_of_ble_eq_true rfl), fun p hp => ?_⟩
  | (refine' ⟨_, ?_, ?_, rfl, SqT.of ?ew1, fun p hp => ?_⟩; (case ew1 => walk_at "ewtup"))
  | (refine' ⟨Or.inl ⟨rfl, ?_, SqL.of ?ew1⟩, ?_⟩; (case ew1 => walk_at "ewlst"))
  | (refine' Ew.apd ?ew1 ?ew2 ?_; (case ew1 => walk_at "ewlst"); (case ew2 => walk_at "ewlen"))
  | (refine' ⟨?_, Ew.eqT ?ew1 ?ew2 ?ew3 ?ew4, ?_⟩; (case ew1 => walk_at "ewtup"); (case ew2 => walk_at "ewtup"); (case ew3 => rfl); (case ew4 => rfl))
  | (refine' Ew.lenT (SqT.of ?ew1) ?_; (case ew1 => walk_at "ewtup"))
  | (refine' Ew.lenL (SqL.of ?ew1) ?_; (case ew1 => walk_at "ewlst"))
  | refine ⟨by walk_at "ewc", ?_⟩
  | (refine' Ew.ixB (SqL.of ?ew1) (fun hb => ?_) (fun hb => ?_); (case ew1 => walk_at "ewlst")))
local macro_rules | `(tactic| walk_at "ewends") => `(tactic| first
  | assumption
  | (refine' Ew.EndsAt.new ?ew1 ?ew2; (case ew1 => assumption); (case ew2 => walk_at "ewends"))
  | (refine' Ew.EndsAt.mut ?ew1 ?ew2; (case ew1 => walk_at "ewlst"); (case ew2 => walk_at "ewends"))
  | (refine' Ew.EndsAt.evo ?ew1 ?ew2; (case ew1 => assumption); (case ew2 => walk_at "ewends")))
section
variable {P : Program} {w : World} {K : PySem.W.Frag} {mg : Str → Option Value} {base : Heap}
inductive sp__law_right : List V → Hp → VK → XK → Prop
  | mk {H : Hp} {Q : VK} {E : XK} {a : Addr} {es : List En} {i j : Int} {p q : En} (hE : EndsAt H a es) (i0 : 0 ≤ i) (j0 : 0 ≤ j) (hi : es[i.toNat]? = some p) (hj : es[j.toNat]? = some q) (k : ∀ H', Evo [] H H' → Q (.bl true) H') : sp__law_right [.ref a, .int i, .int j] H Q E
local macro_rules | `(tactic| walk_at "ewcall") => `(tactic| first
  | (refine' sp_wanted.mk ?ew1 ?ew2 ?ew3 ?ew4 ?ew5 ?_; (case ew1 => walk_at "ewends"); (case ew2 => assumption); (case ew3 => assumption); (case ew4 => assumption); (case ew5 => assumption)))
set_option maxHeartbeats 1000000 in
theorem ok__law_right (T : Tx K mg) : FnOk P w K mg base CX0 3 T.a__law_right T.d__law_right ["_law_ends_here", "_law_one", "_law_other"] sp__law_right := by
  refine T.F__law_right.ok sc__law_right (fun vs H Q E h => by cases h; rfl) (fun cdv A outer s H vs Q E hr h => ?_)
  obtain @⟨_, _, _, a, es, i, j, p, q, hE, i0, j0, hi, hj, k⟩ := h
  refine ⟨_, (pss_cons (ps_set (i := 3) sc__law_right.nd rfl (Or.inl rfl) (pe_call (ok_wanted T) (hr.mono (by decide)) rfl T.g_wanted T.F_wanted.kp T.b_wanted .nil pass0 (pa_cons (pv 0) (pa_cons (pv 1) (pa_cons (pv 2) pa_nil)))))
      (pss_cons (ps_if (PW.pt (pw_or (pt_not (pt_val (pe_callB (r := rIsi K) call_isi (by rfl) T.n_isinstance (by decide +kernel) (pa_cons (pv 3) (pa_cons (pe_bltn (v := .ty "int") (by rfl) T.n_int (by decide +kernel) rfl) pa_nil))))) (pw_or1 (pt_val (pe_callB (r := rIsi K) call_isi (by rfl) T.n_isinstance (by decide +kernel) (pa_cons (pv 3) (pa_cons (pe_bltn (v := .ty "bool") (by rfl) T.n_bool (by decide +kernel) rfl) pa_nil))))))) (pss_one (ps_ret pe_bl)) pss_nil)
      (pss_cons (ps_set (i := 4) sc__law_right.nd rfl (Or.inl rfl) (pe_ix (r := rIxT K) ix_tup (pv 0) (pv 1) (fun _ _ => rfl)))
      (pss_cons (ps_set (i := 5) sc__law_right.nd rfl (Or.inl rfl) (pe_ix (r := rIxT K) ix_tup (pv 0) (pv 2) (fun _ _ => rfl)))
      (pss_cons (ps_set (i := 6) sc__law_right.nd rfl (Or.inl rfl) (pe_op op_sub (pe_op op_add (pe_op op_add (pe_ix (r := rIxT K) ix_tup (pv 4) pe_int (fun _ _ => rfl)) (pe_ix (r := rIxT K) ix_tup (pv 5) pe_int (fun _ _ => rfl))) (pe_callB (call_max2 rfl) (by rfl) T.n_max (by decide +kernel) (pa_cons (pe_ix (r := rIxT K) ix_tup (pv 4) pe_int (fun _ _ => rfl)) (pa_cons (pe_ix (r := rIxT K) ix_tup (pv 5) pe_int (fun _ _ => rfl)) pa_nil)))) (pe_callB (call_min2 rfl) (by rfl) T.n_min (by decide +kernel) (pa_cons (pe_ix (r := rIxT K) ix_tup (pv 4) pe_int (fun _ _ => rfl)) (pa_cons (pe_ix (r := rIxT K) ix_tup (pv 5) pe_int (fun _ _ => rfl)) pa_nil)))))
      (pss_one (ps_ret (pe_and (pe_cmpR Ew.op_eqI (pv 3) (pe_op op_sub (pe_op op_add (pv 6) (pe_callB (call_max2 rfl) (by rfl) T.n_max (by decide +kernel) (pa_cons (pe_ix (r := rIxT K) ix_tup (pv 4) pe_int (fun _ _ => rfl)) (pa_cons (pe_ix (r := rIxT K) ix_tup (pv 5) pe_int (fun _ _ => rfl)) pa_nil)))) (pe_callB (call_min2 rfl) (by rfl) T.n_min (by decide +kernel) (pa_cons (pe_ix (r := rIxT K) ix_tup (pv 4) pe_int (fun _ _ => rfl)) (pa_cons (pe_ix (r := rIxT K) ix_tup (pv 5) pe_int (fun _ _ => rfl)) pa_nil)))) (nomark _)) (pe_one (pe_cmpR Ew.op_eqI (pe_call (ok_wanted T) (hr.mono (by decide)) rfl T.g_wanted T.F_wanted.kp T.b_wanted .nil pass0 (pa_cons (pv 0) (pa_cons (pv 2) (pa_cons (pv 1) pa_nil)))) (pv 3) (nomark _))))))))))), ?_⟩
  repeat walk_at "ew"
  intro H1 e1
  have hE1 := hE.evo e1
  repeat walk_at "ew"
  refine ixE hE1 i0 hi (fun b hb => ?_)
  refine ⟨_, rfl, _, rfl, ixE hE1 j0 hj (fun c hc => ?_)⟩
  repeat walk_at "ew"
  refine iteD (fun _ => ?_) (fun h => absurd (by simp only [want, ab]; repeat' split
                                                 all_goals omega) h)
  repeat walk_at "ew"
  intro H2 e2
  repeat walk_at "ew"
  refine Qeq (Q := Q) (congrArg V.bl ?_) (k _ (e1.trans e2))
  exact (decide_eq_true (want_comm q p)).symm
local macro_rules | `(tactic| walk_at "ewcall") => `(tactic| first
  | (refine' sp_wanted.mk ?ew1 ?ew2 ?ew3 ?ew4 ?ew5 ?_; (case ew1 => walk_at "ewends"); (case ew2 => assumption); (case ew3 => assumption); (case ew4 => assumption); (case ew5 => assumption))
  | (refine' sp__law_right.mk ?ew1 ?ew2 ?ew3 ?ew4 ?ew5 ?_; (case ew1 => walk_at "ewends"); (case ew2 => assumption); (case ew3 => assumption); (case ew4 => assumption); (case ew5 => assumption))
  | (refine' sp__law_ends.mk ?ew1 ?_; (case ew1 => walk_at "ewdeck"))
  | (refine' sp__law_draw.mk ?ew1 ?ew2 ?ew3 ?_; (case ew1 => walk_at "ewdeck"); (case ew2 => omega); (case ew3 => omega)))
def sp_law (K : PySem.W.Frag) : Sp := fun vs H Q _ => ∃ (a : Addr) (ns : List Int), vs = [.ref a] ∧ SqL K H a (ns.map V.int) ∧ ns.length ≤ 63 ∧ ∀ H', Q (.bl true) H'
set_option maxHeartbeats 2000000 in
theorem ok_law (T : Tx K mg) : FnOk P w K mg base CX0 5 T.a_law T.d_law ["_law_script"] (sp_law K) := by
  refine T.F_law.ok sc_law (fun vs H Q E h => ?_) (fun cdv A outer s H vs Q E hr h => ?_)
  · obtain ⟨a, ns, rfl, _⟩ := h
    rfl
  obtain ⟨a, ns, rfl, hS, hn, k⟩ := h
  refine ⟨_, (pss_cons (ps_set (i := 1) sc_law.nd rfl (Or.inl rfl) (pe_call (ok__law_deck T) (hr.mono (by decide)) rfl T.g__law_deck T.F__law_deck.kp T.b__law_deck .nil pass0 (pa_cons (pv 0) pa_nil)))
      (pss_cons (ps_set (i := 2) sc_law.nd rfl (Or.inl rfl) (pe_call (ok__law_draw T) (hr.mono (by decide)) rfl T.g__law_draw T.F__law_draw.kp T.b__law_draw .nil pass0 (pa_cons (pv 1) (pa_cons pe_int pa_nil))))
      (pss_cons (ps_set (i := 3) sc_law.nd rfl (Or.inl rfl) (pe_call (ok__law_ends T) (hr.mono (by decide)) rfl T.g__law_ends T.F__law_ends.kp T.b__law_ends .nil pass0 (pa_cons (pv 1) pa_nil)))
      (pss_cons (ps_set (i := 2) sc_law.nd rfl (Or.inl rfl) (pe_op op_mod (pv 2) (pe_callB (r := Ew.rLen K) Ew.call_len (by rfl) T.n_len (by decide +kernel) (pa_cons (pv 3) pa_nil))))
      (pss_cons (ps_for PassesOwn.never rfl (pi_range1 (by rfl) T.n_range (pa_cons (pe_callB (r := Ew.rLen K) Ew.call_len (by rfl) T.n_len (by decide +kernel) (pa_cons (pv 3) pa_nil)) pa_nil)) (pg_name (i := 4) sc_law.nd rfl (.inl rfl))
      (pss_cons (ps_if (pt_cmpR Ew.op_neI (pe_call (ok_wanted T) (hr.mono (by decide)) rfl T.g_wanted T.F_wanted.kp T.b_wanted .nil pass0 (pa_cons (pv 3) (pa_cons (pv 4) (pa_cons (pv 4) pa_nil)))) (pe_op op_mul pe_int (pe_ix (r := rIxT K) ix_tup (pe_ix (r := rIxT K) ix_tup (pv 3) (pv 4) (fun _ _ => rfl)) pe_int (fun _ _ => rfl))) (nomark _)) (pss_one (ps_ret pe_bl)) pss_nil)
      (pss_one (ps_for PassesOwn.never rfl (pi_range1 (by rfl) T.n_range (pa_cons (pe_callB (r := Ew.rLen K) Ew.call_len (by rfl) T.n_len (by decide +kernel) (pa_cons (pv 3) pa_nil)) pa_nil)) (pg_name (i := 5) sc_law.nd rfl (.inl rfl))
      (pss_cons (ps_if (pt_not (pt_val (pe_call (ok__law_right T) (hr.mono (by decide)) rfl T.g__law_right T.F__law_right.kp T.b__law_right .nil pass0 (pa_cons (pv 3) (pa_cons (pv 4) (pa_cons (pv 5) pa_nil)))))) (pss_one (ps_ret pe_bl)) pss_nil)
      (pss_cons (ps_set (i := 6) sc_law.nd rfl (Or.inl rfl) (pe_op op_add (pe_call (ok_wanted T) (hr.mono (by decide)) rfl T.g_wanted T.F_wanted.kp T.b_wanted .nil pass0 (pa_cons (pv 3) (pa_cons (pv 4) (pa_cons (pv 2) pa_nil)))) (pe_call (ok_wanted T) (hr.mono (by decide)) rfl T.g_wanted T.F_wanted.kp T.b_wanted .nil pass0 (pa_cons (pv 3) (pa_cons (pv 2) (pa_cons (pv 5) pa_nil))))))
      (pss_one (ps_if (pt_cmpR op_gt (pe_op op_add (pe_call (ok_wanted T) (hr.mono (by decide)) rfl T.g_wanted T.F_wanted.kp T.b_wanted .nil pass0 (pa_cons (pv 3) (pa_cons (pv 4) (pa_cons (pv 5) pa_nil)))) (pe_op op_mul pe_int (pe_ix (r := rIxT K) ix_tup (pe_ix (r := rIxT K) ix_tup (pv 3) (pv 2) (fun _ _ => rfl)) pe_int (fun _ _ => rfl)))) (pv 6) (nomark _)) (pss_one (ps_ret pe_bl)) pss_nil))))))))
      (pss_one (ps_ret (pe_and (pe_call (ok__law_right T) (hr.mono (by decide)) rfl T.g__law_right T.F__law_right.kp T.b__law_right .nil pass0 (pa_cons (pv 3) (pa_cons (pv 2) (pa_cons pe_int pa_nil)))) (pe_one (pe_call (ok__law_right T) (hr.mono (by decide)) rfl T.g__law_right T.F__law_right.kp T.b__law_right .nil pass0 (pa_cons (pv 3) (pa_cons pe_int (pa_cons (pe_op op_sub (pe_callB (r := Ew.rLen K) Ew.call_len (by rfl) T.n_len (by decide +kernel) (pa_cons (pv 3) pa_nil)) pe_int) pa_nil))))))))))))), ?_⟩
  refine ⟨_, rfl, sp__law_deck.mk hS hn (fun H1 dk c hD1 _ _ _ => ?_)⟩
  repeat walk_at "ew"
  intro H2 t t0 t1 hD2 _
  repeat walk_at "ew"
  intro H3 b es hE3 n0 n1 hok hD3 _
  refine ⟨_, rfl, _, rfl, lenE hE3 (fun vs hvs => ?_)⟩
  refine ⟨_, _, rfl, rfl, by show (0 : Int) < _; omega, ?_⟩
  have u0 : 0 ≤ t % (vs.length : Int) := Int.emod_nonneg _ (by omega)
  have u1 : t % (vs.length : Int) < vs.length := Int.emod_lt_of_pos _ (by omega)
  obtain ⟨pu, hpu⟩ : ∃ pu, es[(t % (vs.length : Int)).toNat]? = some pu := ⟨_, List.getElem?_eq_getElem (by omega)⟩
  refine ⟨_, rfl, lenE hE3 (fun vs2 hvs2 => ?_)⟩
  refine ⟨_, rfl, by omega, by omega, for_range (n := (vs2.length : Int).toNat) (fun i σ H' => ∃ v4 v5 v6, σ = [some (.ref a), some (.ref dk), some (.int (t % (vs.length : Int))), some (.ref b), v4, v5, v6] ∧ EndsAt H' b es)
    ⟨_, _, _, rfl, hE3⟩ ?_ ?_⟩
  · rintro i σ H4 hi ⟨v4, v5, v6, rfl, hE4⟩
    obtain ⟨p, hp⟩ : ∃ p, es[i]? = some p := ⟨_, List.getElem?_eq_getElem (by omega)⟩
    have i0 : (0 : Int) ≤ 0 + (i : Int) := by omega
    have hp' : es[(0 + (i : Int)).toNat]? = some p := by simpa using hp
    repeat walk_at "ew"
    intro H5 e5
    have hE5 := hE4.evo e5
    refine ⟨_, rfl, _, rfl, ixE hE5 i0 hp' (fun d hd => ?_)⟩
    repeat walk_at "ew"
    refine iteN (fun h => absurd (want_self p) h) (fun _ => ?_)
    refine ⟨_, rfl, lenE hE5 (fun vs3 hvs3 => ?_)⟩
    refine ⟨_, rfl, by omega, by omega, for_range (n := (vs3.length : Int).toNat) (fun j σ H' => ∃ v5 v6, σ = [some (.ref a), some (.ref dk), some (.int (t % (vs.length : Int))), some (.ref b), some (.int (0 + i)), v5, v6] ∧ EndsAt H' b es)
      ⟨_, _, rfl, hE5⟩ ?_ ?_⟩
    · rintro j σ H6 hj ⟨v5, v6, rfl, hE6⟩
      obtain ⟨q, hq⟩ : ∃ q, es[j]? = some q := ⟨_, List.getElem?_eq_getElem (by omega)⟩
      have j0 : (0 : Int) ≤ 0 + (j : Int) := by omega
      have hq' : es[(0 + (j : Int)).toNat]? = some q := by simpa using hq
      repeat walk_at "ew"
      intro H7 e7
      have hE7 := hE6.evo e7
      clear hE6 e7 hE5 hE4 hE3
      repeat walk_at "ew"
      intro H8 e8
      have hE8 := hE7.evo e8
      repeat walk_at "ew"
      intro H9 e9
      have hE9 := hE8.evo e9
      repeat walk_at "ew"
      intro H10 e10
      have hE10 := hE9.evo e10
      refine ⟨_, rfl, _, rfl, ixE hE10 u0 hpu (fun d hd => ?_)⟩
      repeat walk_at "ew"
      refine iteD (fun h => absurd h (by have := want_tri p q pu; omega)) (fun _ => ?_)
      exact ⟨_, _, rfl, hE10⟩
    · rintro σ H6 ⟨v5, v6, rfl, hE6⟩
      exact ⟨_, _, _, rfl, hE6⟩
  · rintro σ H4 ⟨v4, v5, v6, rfl, hE4⟩
    obtain ⟨p0, hp0⟩ : ∃ p, es[(0 : Int).toNat]? = some p := ⟨_, List.getElem?_eq_getElem (by show 0 < es.length; omega)⟩
    have z0 : (0 : Int) ≤ 0 := Int.le_refl 0
    repeat walk_at "ew"
    intro H5 e5
    have hE5 := hE4.evo e5
    repeat walk_at "ew"
    refine lenE hE5 (fun vs4 hvs4 => ?_)
    obtain ⟨pl, hpl⟩ : ∃ p, es[((vs4.length : Int) - 1).toNat]? = some p := ⟨_, List.getElem?_eq_getElem (by omega)⟩
    have l0 : (0 : Int) ≤ (vs4.length : Int) - 1 := by omega
    repeat walk_at "ew"
    intro H6 e6
    exact k _
end
end
theorem all_mk {l : PySem.W.OpenLaw} {w : World} {K : PySem.W.Frag} {h : Heap} {mg : Str → Option Value} {fa : Addr} (X : K.In h) (G : h.Ns mainGlobals mg) (hfa : mg "law" = some (.ref fa))
    {f0 f1 f2 f3 f4 f5 f6 f7 f8 f9 : Addr}
    {od0 an0 od1 an1 od2 an2 od3 an3 od4 an4 od5 an5 od6 an6 od7 an7 od8 an8 od9 an9 : Option Addr} {sl0 sl1 sl2 sl3 sl4 sl5 sl6 sl7 sl8 sl9 : Array (Option Value)} {oc0 kV0 dc0 pm0 cd0 ct0 oc1 kV1 dc1 pm1 cd1 ct1 oc2 kV2 dc2 pm2 cd2 ct2 oc3 kV3 dc3 pm3 cd3 ct3 oc4 kV4 dc4 pm4 cd4 ct4 oc5 kV5 dc5 pm5 cd5 ct5 oc6 kV6 dc6 pm6 cd6 ct6 oc7 kV7 dc7 pm7 cd7 ct7 oc8 kV8 dc8 pm8 cd8 ct8 oc9 kV9 dc9 pm9 cd9 ct9 : Value}
    (a0 : PySem.W.nsIn K mainGlobals "steps" = some (some (.ref f0))) (l0 : K.lookup f0 = some ⟨oc0, od0, .func (PySem.W.fnOf "steps" "steps" (defArgs s_steps) (defBody s_steps) (defScope s_steps) .none kV0 dc0 pm0 an0 cd0 ct0), sl0⟩) (c0 : PySem.W.codeIn K cd0 "steps" = true) (k0 : PySem.W.keepIn K (.ref f0) = true)
    (a1 : PySem.W.nsIn K mainGlobals "wanted" = some (some (.ref f1))) (l1 : K.lookup f1 = some ⟨oc1, od1, .func (PySem.W.fnOf "wanted" "wanted" (defArgs s_wanted) (defBody s_wanted) (defScope s_wanted) .none kV1 dc1 pm1 an1 cd1 ct1), sl1⟩) (c1 : PySem.W.codeIn K cd1 "wanted" = true) (k1 : PySem.W.keepIn K (.ref f1) = true)
    (a2 : PySem.W.nsIn K mainGlobals "_law_deck" = some (some (.ref f2))) (l2 : K.lookup f2 = some ⟨oc2, od2, .func (PySem.W.fnOf "_law_deck" "_law_deck" (defArgs s__law_deck) (defBody s__law_deck) (defScope s__law_deck) .none kV2 dc2 pm2 an2 cd2 ct2), sl2⟩) (c2 : PySem.W.codeIn K cd2 "_law_deck" = true) (k2 : PySem.W.keepIn K (.ref f2) = true)
    (a3 : PySem.W.nsIn K mainGlobals "_law_draw" = some (some (.ref f3))) (l3 : K.lookup f3 = some ⟨oc3, od3, .func (PySem.W.fnOf "_law_draw" "_law_draw" (defArgs s__law_draw) (defBody s__law_draw) (defScope s__law_draw) .none kV3 dc3 pm3 an3 cd3 ct3), sl3⟩) (c3 : PySem.W.codeIn K cd3 "_law_draw" = true) (k3 : PySem.W.keepIn K (.ref f3) = true)
    (a4 : PySem.W.nsIn K mainGlobals "_law_number" = some (some (.ref f4))) (l4 : K.lookup f4 = some ⟨oc4, od4, .func (PySem.W.fnOf "_law_number" "_law_number" (defArgs s__law_number) (defBody s__law_number) (defScope s__law_number) .none kV4 dc4 pm4 an4 cd4 ct4), sl4⟩) (c4 : PySem.W.codeIn K cd4 "_law_number" = true) (k4 : PySem.W.keepIn K (.ref f4) = true)
    (a5 : PySem.W.nsIn K mainGlobals "_law_place" = some (some (.ref f5))) (l5 : K.lookup f5 = some ⟨oc5, od5, .func (PySem.W.fnOf "_law_place" "_law_place" (defArgs s__law_place) (defBody s__law_place) (defScope s__law_place) .none kV5 dc5 pm5 an5 cd5 ct5), sl5⟩) (c5 : PySem.W.codeIn K cd5 "_law_place" = true) (k5 : PySem.W.keepIn K (.ref f5) = true)
    (a6 : PySem.W.nsIn K mainGlobals "_law_start" = some (some (.ref f6))) (l6 : K.lookup f6 = some ⟨oc6, od6, .func (PySem.W.fnOf "_law_start" "_law_start" (defArgs s__law_start) (defBody s__law_start) (defScope s__law_start) .none kV6 dc6 pm6 an6 cd6 ct6), sl6⟩) (c6 : PySem.W.codeIn K cd6 "_law_start" = true) (k6 : PySem.W.keepIn K (.ref f6) = true)
    (a7 : PySem.W.nsIn K mainGlobals "_law_ends" = some (some (.ref f7))) (l7 : K.lookup f7 = some ⟨oc7, od7, .func (PySem.W.fnOf "_law_ends" "_law_ends" (defArgs s__law_ends) (defBody s__law_ends) (defScope s__law_ends) .none kV7 dc7 pm7 an7 cd7 ct7), sl7⟩) (c7 : PySem.W.codeIn K cd7 "_law_ends" = true) (k7 : PySem.W.keepIn K (.ref f7) = true)
    (a8 : PySem.W.nsIn K mainGlobals "_law_right" = some (some (.ref f8))) (l8 : K.lookup f8 = some ⟨oc8, od8, .func (PySem.W.fnOf "_law_right" "_law_right" (defArgs s__law_right) (defBody s__law_right) (defScope s__law_right) .none kV8 dc8 pm8 an8 cd8 ct8), sl8⟩) (c8 : PySem.W.codeIn K cd8 "_law_right" = true) (k8 : PySem.W.keepIn K (.ref f8) = true)
    (a9 : PySem.W.nsIn K mainGlobals "law" = some (some (.ref f9))) (l9 : K.lookup f9 = some ⟨oc9, od9, .func (PySem.W.fnOf "law" "law" (defArgs s_law) (defBody s_law) (defScope s_law) .none kV9 dc9 pm9 an9 cd9 ct9), sl9⟩) (c9 : PySem.W.codeIn K cd9 "law" = true) (k9 : PySem.W.keepIn K (.ref f9) = true)
    (z_abs : PySem.W.nsIn K mainGlobals "abs" = some none)
    (z_list : PySem.W.nsIn K mainGlobals "list" = some none)
    (z_len : PySem.W.nsIn K mainGlobals "len" = some none)
    (z_int : PySem.W.nsIn K mainGlobals "int" = some none)
    (z_range : PySem.W.nsIn K mainGlobals "range" = some none)
    (z_tuple : PySem.W.nsIn K mainGlobals "tuple" = some none)
    (z_isinstance : PySem.W.nsIn K mainGlobals "isinstance" = some none)
    (z_bool : PySem.W.nsIn K mainGlobals "bool" = some none)
    (z_max : PySem.W.nsIn K mainGlobals "max" = some none)
    (z_min : PySem.W.nsIn K mainGlobals "min" = some none)
    : ∃ fd : FuncData, (∀ (s : Shared) (v : Value), BindsTo s fd ⟨[v], []⟩ [("_law_script", v)]) ∧ ∀ base : Heap, K.In base → base.Ns mainGlobals mg → FnOk l.prog w K mg base CX0 5 fa fd ["_law_script"] (sp_law K) := by
  have e := hfa.symm.trans (PySem.W.mg_of X G a9)
  cases e
  have F0 := fun_mk (st := s_steps) l0 c0 k0
  have F1 := fun_mk (st := s_wanted) l1 c1 k1
  have F2 := fun_mk (st := s__law_deck) l2 c2 k2
  have F3 := fun_mk (st := s__law_draw) l3 c3 k3
  have F4 := fun_mk (st := s__law_number) l4 c4 k4
  have F5 := fun_mk (st := s__law_place) l5 c5 k5
  have F6 := fun_mk (st := s__law_start) l6 c6 k6
  have F7 := fun_mk (st := s__law_ends) l7 c7 k7
  have F8 := fun_mk (st := s__law_right) l8 c8 k8
  have F9 := fun_mk (st := s_law) l9 c9 k9
  have b0 := F0.binds (ps := ["one", "other"]) fun _ _ _ _ _ _ us hl => match us, hl with | [_, _], _ => rfl
  have b1 := F1.binds (ps := ["ends", "one", "other"]) fun _ _ _ _ _ _ us hl => match us, hl with | [_, _, _], _ => rfl
  have b2 := F2.binds (ps := ["_law_script"]) fun _ _ _ _ _ _ us hl => match us, hl with | [_], _ => rfl
  have b3 := F3.binds (ps := ["_law_deck_here", "_law_many"]) fun _ _ _ _ _ _ us hl => match us, hl with | [_, _], _ => rfl
  have b4 := F4.binds (ps := ["_law_deck_here", "_law_way"]) fun _ _ _ _ _ _ us hl => match us, hl with | [_, _], _ => rfl
  have b5 := F5.binds (ps := ["_law_deck_here", "_law_way"]) fun _ _ _ _ _ _ us hl => match us, hl with | [_, _], _ => rfl
  have b6 := F6.binds (ps := ["_law_deck_here", "_law_way"]) fun _ _ _ _ _ _ us hl => match us, hl with | [_, _], _ => rfl
  have b7 := F7.binds (ps := ["_law_deck_here"]) fun _ _ _ _ _ _ us hl => match us, hl with | [_], _ => rfl
  have b8 := F8.binds (ps := ["_law_ends_here", "_law_one", "_law_other"]) fun _ _ _ _ _ _ us hl => match us, hl with | [_, _, _], _ => rfl
  have b9 := F9.binds (ps := ["_law_script"]) fun _ _ _ _ _ _ us hl => match us, hl with | [_], _ => rfl
  let T : Tx K mg := ⟨_, _, F0, b0, PySem.W.mg_of X G a0, _, _, F1, b1, PySem.W.mg_of X G a1, _, _, F2, b2, PySem.W.mg_of X G a2, _, _, F3, b3, PySem.W.mg_of X G a3, _, _, F4, b4, PySem.W.mg_of X G a4, _, _, F5, b5, PySem.W.mg_of X G a5, _, _, F6, b6, PySem.W.mg_of X G a6, _, _, F7, b7, PySem.W.mg_of X G a7, _, _, F8, b8, PySem.W.mg_of X G a8, _, _, F9, b9, PySem.W.mg_of X G a9, PySem.W.mg_none_of X G z_abs, PySem.W.mg_none_of X G z_list, PySem.W.mg_none_of X G z_len, PySem.W.mg_none_of X G z_int, PySem.W.mg_none_of X G z_range, PySem.W.mg_none_of X G z_tuple, PySem.W.mg_none_of X G z_isinstance, PySem.W.mg_none_of X G z_bool, PySem.W.mg_none_of X G z_max, PySem.W.mg_none_of X G z_min⟩
  exact ⟨PySem.W.fnOf "law" "law" (defArgs s_law) (defBody s_law) (defScope s_law) .none kV9 dc9 pm9 an9 cd9 ct9, fun s v => .of_eq rfl, fun base _ _ => ok_law T⟩
theorem walk {l : PySem.W.OpenLaw} {q : Program} {loose : List Str} {XP : (Str → Option Value) → Heap → Prop} {YP : World → Heap → Prop} {d : DefRec} {K : Params → PySem.W.Frag} (hn : l.most = some 63) (hdf : d.params.defaults = [])
    (hY : ∀ (w : World) (h : Heap), YP w h → (K w.params).In h)
    (F : ∀ (w : World) (mg : Str → Option Value) (fa : Addr) (h : Heap), (K w.params).In h → h.Ns mainGlobals mg → mg d.name = some (.ref fa) →
      ∃ fd : FuncData, (∀ (s : Shared) (u : Value), BindsTo s fd ⟨[u], []⟩ [("_law_script", u)]) ∧ ∀ base : Heap, (K w.params).In base → base.Ns mainGlobals mg → FnOk l.prog w (K w.params) mg base CX0 5 fa fd ["_law_script"] (sp_law (K w.params))) :
    PySem.W.WalkO q loose XP YP l.row.toRowW d [] (fun f vs => PySem.call f vs) :=
  L2.walk_of (n := 63) (k := 5) (x := "_law_script") (CX := fun _ => CX0) (sp := fun w => sp_law (K w.params)) hn (by decide) hdf ⟨rfl, by decide, by decide⟩ hY F (fun _ _ a ns hl _ hS => ⟨a, ns, rfl, hS, hl, fun _ => rfl⟩) fun _ _ _ _ _ z => z
end Ew
open PySem PySem.W PyProof.Rows
set_option maxRecDepth 100000 in
set_option maxHeartbeats 0 in
theorem PySem.Challenge.cw_evenwires_k15_what_two_ends_want_holds : PySem.Challenge.rw_evenwires_k15_what_two_ends_want.Holds := by
  w_on; o_law; k_head; (case hw => w_witness2)
  k_fill
  refine Ew.walk (l := PySem.Challenge.rw_evenwires_k15_what_two_ends_want) rfl rfl (fun w h Y => PySem.W.kIn_of Y) ?F
  case F =>
    intro w mg fa h KX G hmg
    refine' Ew.all_mk KX G hmg ?a0 ?l0 ?c0 ?k0 ?a1 ?l1 ?c1 ?k1 ?a2 ?l2 ?c2 ?k2 ?a3 ?l3 ?c3 ?k3 ?a4 ?l4 ?c4 ?k4 ?a5 ?l5 ?c5 ?k5 ?a6 ?l6 ?c6 ?k6 ?a7 ?l7 ?c7 ?k7 ?a8 ?l8 ?c8 ?k8 ?a9 ?l9 ?c9 ?k9 ?z_abs ?z_list ?z_len ?z_int ?z_range ?z_tuple ?z_isinstance ?z_bool ?z_max ?z_min
    (case a0 => k_is)
    (case l0 => k_is)
    (case c0 => k_is)
    (case k0 => k_is)
    (case a1 => k_is)
    (case l1 => k_is)
    (case c1 => k_is)
    (case k1 => k_is)
    (case a2 => k_is)
    (case l2 => k_is)
    (case c2 => k_is)
    (case k2 => k_is)
    (case a3 => k_is)
    (case l3 => k_is)
    (case c3 => k_is)
    (case k3 => k_is)
    (case a4 => k_is)
    (case l4 => k_is)
    (case c4 => k_is)
    (case k4 => k_is)
    (case a5 => k_is)
    (case l5 => k_is)
    (case c5 => k_is)
    (case k5 => k_is)
    (case a6 => k_is)
    (case l6 => k_is)
    (case c6 => k_is)
    (case k6 => k_is)
    (case a7 => k_is)
    (case l7 => k_is)
    (case c7 => k_is)
    (case k7 => k_is)
    (case a8 => k_is)
    (case l8 => k_is)
    (case c8 => k_is)
    (case k8 => k_is)
    (case a9 => k_is)
    (case l9 => k_is)
    (case c9 => k_is)
    (case k9 => k_is)
    (case z_abs => k_is)
    (case z_list => k_is)
    (case z_len => k_is)
    (case z_int => k_is)
    (case z_range => k_is)
    (case z_tuple => k_is)
    (case z_isinstance => k_is)
    (case z_bool => k_is)
    (case z_max => k_is)
    (case z_min => k_is)

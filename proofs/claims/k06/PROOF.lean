import PyProof.Rows.All
import Wide.All
import OpenK.AllK
import Wide.FinOn
import HandS.ForMost
import HandS.IsInst
import HandS.Style
import HandS.Wide
import HandS.NoneIn
import HandS.Codes
import HandS.TupAny
import HandS.TupLe
import HandS.Conv
import HandS.Deep
import HandS.AnyAll
import HandS.Strs
import HandS.Iter
import HandS.SortKw
import KE.GoesEnumKw
import KE.GoesNew
import KE.GoesMore
import HandS.RevRange
import HandS.SortInts
import HandS.Zip
import KE.GoesEnum
import HandS.More
import KE.DataMinMax
import KE.KTupSum
import HandS.TupMul
import HandS.SetFor
import HandS.Defaults
import PyProof.ReprRoads
import PyProof.ReprLen
import HandS.GenList
import HandS.EndTab
import KE.KSortTupG
import HandS.Exc
import HandS.ExcOwn
import HandS.ExcIs
import HandS.WordsExc
import HandS.TryOnly
import HandS.Text
import HandS.StrMore
import HandS.FStr
import PySem.Challenge.RW_evenwires_k06_wires_written
set_option Elab.async false
set_option linter.all false
set_option maxRecDepth 100000
namespace Ew
open PySem PySem.Spec PyProof.Rows L2

/-- what may have happened between two heaps: only what stands in S is changed; tuples and locked things stay -/
structure Evo (S : List Addr) (H H' : Hp) : Prop where
  old : ∀ a o, H a = some o → a ∉ S → H' a = some o
  tup : ∀ a xs, H a = some (.tup xs) → H' a = some (.tup xs)
  frz : ∀ a o u, H a = some (.frz o u) → H' a = some (.frz o u)
section
variable {K : PySem.W.Frag} {S S' : List Addr} {H H1 H2 H' : Hp} {a p q : Addr} {o x y : HO} {xs ys : List V}
theorem get_new (hp : H p = none) (h : H a = some x) : upd H p o a = some x := by rw [upd_ne (ne_of_none h hp)]; exact h
theorem get_ne (hn : a ≠ p) (h : H a = some x) : upd H p o a = some x := by rw [upd_ne hn]; exact h
theorem Evo.refl (S : List Addr) (H : Hp) : Evo S H H := ⟨fun _ _ h _ => h, fun _ _ h => h, fun _ _ _ h => h⟩
theorem Evo.trans (e : Evo S H H1) (f : Evo S H1 H2) : Evo S H H2 := ⟨fun a o h n => f.old a o (e.old a o h n) n, fun a xs h => f.tup a xs (e.tup a xs h), fun a o u h => f.frz a o u (e.frz a o u h)⟩
/-- a new thing -/
theorem Evo.new (e : Evo S H H1) (hp : H1 p = none) : Evo S H (upd H1 p o) :=
  ⟨fun a u h n => get_new hp (e.old a u h n), fun a ys h => get_new hp (e.tup a ys h), fun a u v h => get_new hp (e.frz a u v h)⟩
/-- a thing that was not there at the beginning is changed -/
theorem Evo.mut (e : Evo S H H1) (hp : H p = none) : Evo S H (upd H1 p o) :=
  ⟨fun a u h n => get_ne (ne_of_none h hp) (e.old a u h n), fun a ys h => get_ne (ne_of_none h hp) (e.tup a ys h), fun a u v h => get_ne (ne_of_none h hp) (e.frz a u v h)⟩
/-- a thing of S is changed -/
theorem Evo.set (e : Evo S H H1) (hp : p ∈ S) (hm : ∀ ys, H p ≠ some (.tup ys)) (hf : ∀ u v, H p ≠ some (.frz u v)) : Evo S H (upd H1 p o) :=
  ⟨fun a u h n => get_ne (fun z => n (z ▸ hp)) (e.old a u h n), fun a ys h => get_ne (fun z => hm ys (z ▸ h)) (e.tup a ys h), fun a u v h => get_ne (fun z => hf u v (z ▸ h)) (e.frz a u v h)⟩
/-- a callee's changes -/
theorem Evo.call (e : Evo S H H1) (f : Evo S' H1 H2) (h : ∀ s ∈ S', s ∈ S ∨ H s = none) : Evo S H H2 :=
  ⟨fun a o ha n => f.old a o (e.old a o ha n) fun m => (h a m).elim n (fun z => nomatch (ha.symm.trans z)), fun a xs h => f.tup a xs (e.tup a xs h), fun a o u h => f.frz a o u (e.frz a o u h)⟩
theorem Evo.call0 (e : Evo S H H1) (f : Evo [] H1 H2) : Evo S H H2 := e.call f fun _ h => by cases h
theorem Evo.get (e : Evo S H H') (hn : a ∉ S) (h : H a = some x) : H' a = some x := e.old a x h hn
theorem Evo.sqT (e : Evo S H H') (h : SqT K H a xs) : SqT K H' a xs := by
  rcases h with (h | ⟨o, h⟩) | h
  · exact .inl (.inl (e.tup _ _ h))
  · exact .inl (.inr ⟨o, e.frz _ _ _ h⟩)
  · exact .inr h
theorem Evo.fresh (e : Evo [] H H') (h : H' p = none) : H p = none := by
  cases q : H p with
  | none => rfl
  | some o =>
    rw [e.old p o q (by intro z; cases z)] at h
    cases h
theorem sqT_new (hp : H p = none) (h : SqT K H a xs) : SqT K (upd H p o) a xs := ((Evo.refl [] H).new hp).sqT h
theorem sqT_mut (hm : H p = some (.lst ys)) (h : SqT K H a xs) : SqT K (upd H p o) a xs := by
  rcases h with (h | ⟨o, h⟩) | h
  · exact .inl (.inl (get_ne (ne_of h hm (by intro z; cases z)) h))
  · exact .inl (.inr ⟨o, get_ne (ne_of h hm (by intro z; cases z)) h⟩)
  · exact .inr h
theorem sqT_mutD {kvs : List (Key × V)} (hm : H p = some (.dK kvs)) (h : SqT K H a xs) : SqT K (upd H p o) a xs := by
  rcases h with (h | ⟨o, h⟩) | h
  · exact .inl (.inl (get_ne (ne_of h hm (by intro z; cases z)) h))
  · exact .inl (.inr ⟨o, get_ne (ne_of h hm (by intro z; cases z)) h⟩)
  · exact .inr h
end
theorem sz {n : Nat} (h : n ≤ 100000) : n ≤ sizeLine := Nat.le_trans h (by decide)
theorem szl {n : Nat} (h : n < 100000) : n < sizeLine := Nat.lt_of_lt_of_le h (by decide)
section
variable {H : Hp} {a : Addr} {kvs kvs' : List (Key × V)} {s : Str} {v : V}
theorem dget (h : H a = some (.dK kvs)) (e : valV kvs (.inr s) = some v) : DGet H a (.str s) (some v) := e ▸ DGet.k (k := Sum.inr s) h
theorem dput (h : H a = some (.dK kvs)) (hl : kvs.length ≤ 1000) (e : putK kvs (.inr s) v = kvs') : DPut H a (.str s) v (upd H a (.dK kvs')) := e ▸ DPut.k (k := Sum.inr s) h (small1000 hl)
end
/-- a test by its answer -/
theorem iteD {c : Prop} [Decidable c] {A B : Prop} (h1 : c → A) (h2 : ¬ c → B) : if decide c = true then A else B := by
  by_cases h : c
  · rw [if_pos (decide_eq_true h)]; exact h1 h
  · rw [if_neg (by rw [decide_eq_false h]; exact Bool.false_ne_true)]; exact h2 h
theorem iteN {c : Prop} [Decidable c] {A B : Prop} (h1 : ¬ c → A) (h2 : c → B) : if (!decide c) = true then A else B := by
  by_cases h : c
  · rw [if_neg (by rw [decide_eq_true h]; exact Bool.false_ne_true)]; exact h2 h
  · rw [if_pos (by rw [decide_eq_false h]; rfl)]; exact h1 h
theorem iteB {b : Bool} {A B : Prop} (h1 : b = true → A) (h2 : b = false → B) : if b = true then A else B := by
  cases b with
  | true => exact h1 rfl
  | false => exact h2 rfl
end Ew
namespace Ew
open PySem PySem.Spec PyProof.Rows L2
/-! readings by lemmas: what is asked, in the form that it has when it is asked -/
section
variable {K : PySem.W.Frag} {H : Hp} {a b p : Addr} {xs ys : List V} {i : Int} {v x y : V} {R : V → Prop} {kvs kvs' : List (Key × V)} {s : Str}
theorem ixT (h : SqT K H p xs) (e : atI xs i = some v) (k : R v) : ∃ p' xs' i' v', V.ref p = .ref p' ∧ V.int i = .int i' ∧ SqT K H p' xs' ∧ atI xs' i' = some v' ∧ R v' := ⟨p, xs, i, v, rfl, rfl, h, e, k⟩
theorem ixL (h : SqL K H p xs) (e : atI xs i = some v) (k : R v) : ∃ p' xs' i' v', V.ref p = .ref p' ∧ V.int i = .int i' ∧ SqL K H p' xs' ∧ atI xs' i' = some v' ∧ R v' := ⟨p, xs, i, v, rfl, rfl, h, e, k⟩
theorem dgetE (h : H a = some (.dK kvs)) (e : valV kvs (.inr s) = some v) (k : R v) : ∃ a' v', V.ref a = .ref a' ∧ DGet H a' (.str s) (some v') ∧ R v' := ⟨a, v, rfl, dget h e, k⟩
theorem dputE {R : Hp → Prop} (h : H a = some (.dK kvs)) (e : putK kvs (.inr s) v = kvs') (k : R (upd H a (.dK kvs'))) (hl : kvs.length ≤ 1000) : ∃ a' H4, V.ref a = .ref a' ∧ DPut H a' (.str s) v H4 ∧ R H4 := ⟨a, _, rfl, dput h hl e, k⟩
theorem lenT {R : List V → Prop} (h : SqT K H p xs) (k : R xs) : ∃ p' ys, [V.ref p] = [.ref p'] ∧ (SqL K H p' ys ∨ SqT K H p' ys) ∧ R ys := ⟨p, xs, rfl, .inr h, k⟩
theorem lenL {R : List V → Prop} (h : SqL K H p xs) (k : R xs) : ∃ p' ys, [V.ref p] = [.ref p'] ∧ (SqL K H p' ys ∨ SqT K H p' ys) ∧ R ys := ⟨p, xs, rfl, .inl h, k⟩
theorem iib {R : Bool → Prop} {x : V} {n : String} {t : Value} {r : Bool} (ht : TyOf K H x t) (hb : PySem.W.kitOne K t (.type n) = some r) (k : R r) : ∃ (x' c : V) (t u : Value) (b : Bool), [x, V.ty n] = [x', c] ∧ ClsV c u ∧ TyX K H x' t ∧ PySem.W.kitOne K t u = some b ∧ R b :=
  ⟨x, .ty n, t, .type n, r, rfl, .ty n, .base ht, hb, k⟩
theorem lt2 {b : Bool} {r : V} : ∀ {i : Int}, 0 ≤ i → i < 2 → i = 0 ∨ i = 1 := by intro i h1 h2; omega
end
theorem apd {H : Hp} {l : Addr} {xs : List V} {y : V} {R : Addr → List V → V → Prop} (h : H l = some (.lst xs)) (hl : xs.length ≤ 1000) (k : R l xs y) : ∃ l' xs' y', V.ref l = .ref l' ∧ [y] = [y'] ∧ H l' = some (.lst xs') ∧ xs'.length < sizeLine ∧ R l' xs' y' :=
  ⟨l, xs, y, rfl, rfl, h, small1000 hl, k⟩
end Ew
namespace Ew
open PySem PySem.Spec PyProof.Rows L2
theorem tup_mut {H : Hp} {a p : Addr} {o : HO} {xs ys : List V} (hm : H p = some (.lst ys)) (h : H a = some (.tup xs)) : upd H p o a = some (.tup xs) := get_ne (ne_of h hm (by intro z; cases z)) h
theorem tup_mutD {H : Hp} {a p : Addr} {o : HO} {xs : List V} {kvs : List (Key × V)} (hm : H p = some (.dK kvs)) (h : H a = some (.tup xs)) : upd H p o a = some (.tup xs) := get_ne (ne_of h hm (by intro z; cases z)) h
theorem Evo.tupE {S : List Addr} {H H' : Hp} {a : Addr} {xs : List V} (e : Evo S H H') (h : H a = some (.tup xs)) : H' a = some (.tup xs) := e.tup a xs h
/-- a written power -/
theorem op_powC {X : Cx} (b e r : Int) (hc : CPow b e := by exact ⟨by decide, by decide, by decide⟩) (hr : b ^ e.toNat = r := by rfl) : OpR X (binaryOp .Pow) (fun x y H Q => x = .int b ∧ y = .int e ∧ Q (.int r) H) :=
  fun pins s σ H x y v u Q I rx ry h => op_pow pins s σ H x y v u Q I rx ry ⟨b, e, h.1, h.2.1, hc, by show Q (.int (b ^ e.toNat)) H; rw [hr]; exact h.2.2⟩
end Ew
namespace Ew
open PySem PySem.Spec PyProof.Rows L2
/-! data that are rows of whole numbers -/
def intsOf : List V → Option (List Int)
  | [] => some []
  | .int i :: r => match intsOf r with
    | some z => some (i :: z)
    | none => none
  | _ => none
theorem intsOf_map : ∀ {vs : List V} {xs : List Int}, intsOf vs = some xs → vs = xs.map V.int
  | [], _, h => by cases h; rfl
  | .int i :: r, xs, h => by
    unfold intsOf at h
    cases e : intsOf r with
    | none => rw [e] at h; cases h
    | some z =>
      rw [e] at h
      cases h
      rw [intsOf_map e]
      rfl
  | .non :: _, _, h => by cases h
  | .bl _ :: _, _, h => by cases h
  | .str _ :: _, _, h => by cases h
  | .byt _ :: _, _, h => by cases h
  | .flt _ :: _, _, h => by cases h
  | .ref _ :: _, _, h => by cases h
  | .ty _ :: _, _, h => by cases h
theorem intsOf_of : ∀ xs : List Int, intsOf (xs.map V.int) = some xs
  | [] => rfl
  | x :: r => by
    show (match intsOf (r.map V.int) with | some z => some (x :: z) | none => none) = _
    rw [intsOf_of r]
theorem dpInts {K : PySem.W.Frag} {H : Hp} : ∀ xs : List Int, DpAll K H (xs.map V.int) (xs.map PyData.int)
  | [] => .nil
  | x :: r => .cons (.int x) (dpInts r)
theorem canInts : ∀ xs : List Int, PyData.canLayAll0 (xs.map PyData.int) = true
  | [] => by simp [PyData.canLayAll0]
  | x :: r => by
    show PyData.canLayAll0 (PyData.int x :: r.map PyData.int) = true
    simp [PyData.canLayAll0, PyData.canLay0, canInts r]
theorem depInts : ∀ xs : List Int, PyData.depthAll (xs.map PyData.int) ≤ 1
  | [] => by simp [PyData.depthAll]
  | x :: r => by
    show PyData.depthAll (PyData.int x :: r.map PyData.int) ≤ 1
    have h := depInts r
    simp [PyData.depthAll, PyData.depth]
    omega
theorem shInts (xs : List Int) : SeqAt.shaped (.tuple (xs.map PyData.int)) = true := by
  have h := depInts xs
  simp [SeqAt.shaped, PyData.canLay0, canInts xs, PyData.depth]
  omega
theorem shIntsL (xs : List Int) : SeqAt.shaped (.list (xs.map PyData.int)) = true := by
  have h := depInts xs
  simp [SeqAt.shaped, PyData.canLay0, canInts xs, PyData.depth]
  omega
theorem eqvAllInts : ∀ xs ys : List Int, PyData.eqvAll (xs.map PyData.int) (ys.map PyData.int) = decide (xs = ys)
  | [], [] => by simp [PyData.eqvAll]
  | [], y :: _ => by simp [PyData.eqvAll]
  | x :: _, [] => by simp [PyData.eqvAll]
  | x :: r, y :: q => by
    show PyData.eqvAll (PyData.int x :: r.map PyData.int) (PyData.int y :: q.map PyData.int) = _
    have e : PyData.eqvAll (PyData.int x :: r.map PyData.int) (PyData.int y :: q.map PyData.int) = ((x == y) && PyData.eqvAll (r.map PyData.int) (q.map PyData.int)) := by simp [PyData.eqvAll, PyData.eqv]
    rw [e, eqvAllInts r q]
    by_cases h : x = y
    · by_cases h2 : r = q
      · simp [h, h2]
      · simp [h, h2]
    · simp [h]
theorem eqvT (xs ys : List Int) : PyData.eqv (.tuple (xs.map PyData.int)) (.tuple (ys.map PyData.int)) = decide (xs = ys) := by
  rw [← eqvAllInts]; simp [PyData.eqv]
theorem eqvL (xs ys : List Int) : PyData.eqv (.list (xs.map PyData.int)) (.list (ys.map PyData.int)) = decide (xs = ys) := by
  rw [← eqvAllInts]; simp [PyData.eqv]
section
variable {K : PySem.W.Frag} {H : Hp} {a b p : Addr} {vs us : List V} {xs ys : List Int} {R : V → Prop}
/-- == of data: its answer -/
def EqR (K : PySem.W.Frag) (H : Hp) (x y : V) (c : Bool) : Prop := ∃ d e, Dp K H x d ∧ Dp K H y e ∧ SeqAt.shaped d = true ∧ SeqAt.shaped e = true ∧ PyData.eqv d e = c
def rEqX (K : PySem.W.Frag) : R2 := fun x y H Q => ∃ c, EqR K H x y c ∧ Q (.bl c) H
def rNeX (K : PySem.W.Frag) : R2 := fun x y H Q => ∃ c, EqR K H x y c ∧ Q (.bl (!c)) H
theorem op_eqX {X : Cx} (hu : X.A.units + 64 < cLine) : OpR X (compareOp .Eq) (rEqX X.K) := fun pins s σ H x y v u Q I rx ry ⟨c, ⟨d, e, h1, h2, h3, h4, h5⟩, q⟩ =>
  op_eqD hu pins s σ H x y v u Q I rx ry ⟨d, e, h1, h2, h3, h4, h5 ▸ q⟩
theorem op_neX {X : Cx} (hu : X.A.units + 64 < cLine) : OpR X (compareOp .NotEq) (rNeX X.K) := fun pins s σ H x y v u Q I rx ry ⟨c, ⟨d, e, h1, h2, h3, h4, h5⟩, q⟩ =>
  op_neD hu pins s σ H x y v u Q I rx ry ⟨d, e, h1, h2, h3, h4, h5 ▸ q⟩
theorem eqT (h1 : H a = some (.tup vs)) (h2 : H b = some (.tup us)) (e1 : intsOf vs = some xs) (e2 : intsOf us = some ys) : EqR K H (.ref a) (.ref b) (decide (xs = ys)) := by
  have q1 := intsOf_map e1; have q2 := intsOf_map e2; subst q1 q2
  exact ⟨_, _, .tup (SqT.of h1) (dpInts xs), .tup (SqT.of h2) (dpInts ys), shInts _, shInts _, eqvT _ _⟩
theorem eqL (h1 : H a = some (.lst vs)) (h2 : H b = some (.lst us)) (e1 : intsOf vs = some xs) (e2 : intsOf us = some ys) : EqR K H (.ref a) (.ref b) (decide (xs = ys)) := by
  have q1 := intsOf_map e1; have q2 := intsOf_map e2; subst q1 q2
  exact ⟨_, _, .lst (SqL.of h1) (dpInts xs), .lst (SqL.of h2) (dpInts ys), shIntsL _, shIntsL _, eqvL _ _⟩
end
theorem sqL_new {K : PySem.W.Frag} {H : Hp} {a p : Addr} {o : HO} {xs : List V} (hp : H p = none) (h : SqL K H a xs) : SqL K (upd H p o) a xs := by
  rcases h with (h | ⟨o, h⟩) | h
  · exact .inl (.inl (get_new hp h))
  · exact .inl (.inr ⟨o, get_new hp h⟩)
  · exact .inr h
theorem cut63 {xs : List V} (h : xs.length ≤ 63) : cutV xs none (some 63) = xs := by
  unfold cutV
  rw [show HT.sIx xs.length xs.length (some 63) = min 63 xs.length from HT.sIx_nat xs.length xs.length 63, HT.sIx_none, List.drop_zero, Nat.sub_zero]
  exact List.take_of_length_le (by omega)
end Ew
namespace Ew
open PySem PySem.Spec PyProof.Rows L2
/-! == of whole numbers, of truths -/
theorem decV {i j : Int} : decide (V.int i = V.int j) = decide (i = j) := by
  by_cases h : i = j
  · subst h; simp
  · rw [decide_eq_false h, decide_eq_false fun e => h (V.int.inj e)]
theorem decB {i j : Bool} : decide (V.bl i = V.bl j) = decide (i = j) := by
  by_cases h : i = j
  · subst h; simp
  · rw [decide_eq_false h, decide_eq_false fun e => h (V.bl.inj e)]
section
variable {X : Cx}
theorem op_eqI : OpR X (compareOp .Eq) (fun x y H Q => ∃ i j, x = .int i ∧ y = .int j ∧ Q (.bl (decide (i = j))) H) := fun pins s σ H x y v u Q I rx ry ⟨i, j, h1, h2, q⟩ =>
  op_eq pins s σ H x y v u Q I rx ry ⟨by rw [h1, h2]; rfl, by rw [h1, h2, decV]; exact q⟩
theorem op_neI : OpR X (compareOp .NotEq) (fun x y H Q => ∃ i j, x = .int i ∧ y = .int j ∧ Q (.bl (!decide (i = j))) H) := fun pins s σ H x y v u Q I rx ry ⟨i, j, h1, h2, q⟩ =>
  op_ne pins s σ H x y v u Q I rx ry ⟨by rw [h1, h2]; rfl, by rw [h1, h2, decV]; exact q⟩
theorem op_eqB : OpR X (compareOp .Eq) (fun x y H Q => ∃ i j, x = .bl i ∧ y = .bl j ∧ Q (.bl (decide (i = j))) H) := fun pins s σ H x y v u Q I rx ry ⟨i, j, h1, h2, q⟩ =>
  op_eq pins s σ H x y v u Q I rx ry ⟨by rw [h1, h2]; rfl, by rw [h1, h2, decB]; exact q⟩
theorem op_neB : OpR X (compareOp .NotEq) (fun x y H Q => ∃ i j, x = .bl i ∧ y = .bl j ∧ Q (.bl (!decide (i = j))) H) := fun pins s σ H x y v u Q I rx ry ⟨i, j, h1, h2, q⟩ =>
  op_ne pins s σ H x y v u Q I rx ry ⟨by rw [h1, h2]; rfl, by rw [h1, h2, decB]; exact q⟩
end
end Ew
namespace Ew
open PySem PySem.Spec PyProof.Rows L2
theorem Qeq {Q : VK} {H : Hp} {v v' : V} (e : v = v') (k : Q v H) : Q v' H := e ▸ k
section
variable {K : PySem.W.Frag} {H : Hp} {R : Bool → Prop}
theorem ii_ii {a : Int} (k : R true) : ∃ (x' c : V) (t u : Value) (b : Bool), [V.int a, V.ty "int"] = [x', c] ∧ ClsV c u ∧ TyX K H x' t ∧ PySem.W.kitOne K t u = some b ∧ R b := iib (.int _) (kit_ty (by decide +kernel)) k
theorem ii_ib {a : Int} (k : R false) : ∃ (x' c : V) (t u : Value) (b : Bool), [V.int a, V.ty "bool"] = [x', c] ∧ ClsV c u ∧ TyX K H x' t ∧ PySem.W.kitOne K t u = some b ∧ R b := iib (.int _) (kit_ty (by decide +kernel)) k
theorem ii_it {a : Int} (k : R false) : ∃ (x' c : V) (t u : Value) (b : Bool), [V.int a, V.ty "tuple"] = [x', c] ∧ ClsV c u ∧ TyX K H x' t ∧ PySem.W.kitOne K t u = some b ∧ R b := iib (.int _) (kit_ty (by decide +kernel)) k
theorem ii_bb {a : Bool} (k : R true) : ∃ (x' c : V) (t u : Value) (b : Bool), [V.bl a, V.ty "bool"] = [x', c] ∧ ClsV c u ∧ TyX K H x' t ∧ PySem.W.kitOne K t u = some b ∧ R b := iib (.bl _) (kit_ty (by decide +kernel)) k
theorem ii_bi {a : Bool} (k : R true) : ∃ (x' c : V) (t u : Value) (b : Bool), [V.bl a, V.ty "int"] = [x', c] ∧ ClsV c u ∧ TyX K H x' t ∧ PySem.W.kitOne K t u = some b ∧ R b := iib (.bl _) (kit_ty (by decide +kernel)) k
theorem ii_tt {a : Addr} {xs : List V} (h : H a = some (.tup xs)) (k : R true) : ∃ (x' c : V) (t u : Value) (b : Bool), [V.ref a, V.ty "tuple"] = [x', c] ∧ ClsV c u ∧ TyX K H x' t ∧ PySem.W.kitOne K t u = some b ∧ R b := iib (.tup h) (kit_ty (by decide +kernel)) k
end
end Ew
namespace Ew
open PySem PySem.Spec PyProof.Rows L2
def rLen (K : PySem.W.Frag) : List V → Hp → VK → Prop := fun xs H Q => ∃ p ys, xs = [.ref p] ∧ (SqL K H p ys ∨ SqT K H p ys) ∧ Q (.int ys.length) H
theorem call_len {X : Cx} : CallR X (.builtin "len") (rLen X.K) := call_len_seq
def rTupleOf (K : PySem.W.Frag) : List V → Hp → VK → Prop := fun xs H Q => ∃ p ys, xs = [.ref p] ∧ ((SqL K H p ys ∧ ∀ l, H l = none → Q (.ref l) (upd H l (.tup ys))) ∨ (SqT K H p ys ∧ Q (.ref p) H))
theorem call_tuple {X : Cx} : CallR X (.type "tuple") (rTupleOf X.K) := call_tuple_of
end Ew
namespace Ew
open PySem PySem.Spec PyProof.Rows L2
/-- [a, b][int(test)] -/
theorem ixB {K : PySem.W.Frag} {H : Hp} {p : Addr} {a0 a1 : V} {b : Bool} {R : V → Prop} (h : SqL K H p [a0, a1]) (k0 : b = false → R a0) (k1 : b = true → R a1) :
    ∃ p' xs' i' v', V.ref p = .ref p' ∧ V.int (if b = true then 1 else 0) = .int i' ∧ SqL K H p' xs' ∧ atI xs' i' = some v' ∧ R v' := by
  cases b with
  | false => exact ⟨p, _, 0, a0, rfl, rfl, h, rfl, k0 rfl⟩
  | true => exact ⟨p, _, 1, a1, rfl, rfl, h, rfl, k1 rfl⟩
theorem inI {x : Int} {xs : List Int} : inV (.int x) (xs.map V.int) = decide (x ∈ xs) := by
  induction xs with
  | nil => rfl
  | cons y r ih =>
    have e : inV (.int x) ((y :: r).map V.int) = (eqV (.int y) (.int x) || inV (.int x) (r.map V.int)) := rfl
    rw [e, ih]
    have e2 : eqV (.int y) (.int x) = decide (y = x) := by
      show (y == x) = _
      by_cases h : y = x
      · simp [h]
      · simp [h]
    rw [e2]
    by_cases h : y = x
    · simp [h]
    · have h' : ¬ x = y := fun e => h e.symm
      simp [h, h']
end Ew
namespace Ew
abbrev ab (x : Int) : Int := if x < 0 then -x else x
end Ew
namespace Ew
open PySem PySem.Spec PyProof.Rows L2
def isImm : HO → Bool
  | .tup _ => true
  | _ => false
theorem Evo.getI {S : List Addr} {H H' : Hp} {a : Addr} {x : HO} (e : Evo S H H') (h : H a = some x) (hx : isImm x = true) : H' a = some x := by
  cases x with
  | tup xs => exact e.tup a xs h
  | _ => cases hx
theorem getI_mut {H : Hp} {a p : Addr} {o x : HO} {ys : List V} (hm : H p = some (.lst ys)) (h : H a = some x) (hx : isImm x = true) : upd H p o a = some x :=
  get_ne (ne_of h hm (by intro z; rw [z] at hx; cases hx)) h
theorem getI_mutD {H : Hp} {a p : Addr} {o x : HO} {kvs : List (Key × V)} (hm : H p = some (.dK kvs)) (h : H a = some x) (hx : isImm x = true) : upd H p o a = some x :=
  get_ne (ne_of h hm (by intro z; rw [z] at hx; cases hx)) h
end Ew
namespace Ew
open PySem PySem.Spec PyProof.Rows L2
/-! lists of rows of whole numbers -/
inductive RowsAt (H : Hp) : List V → List (List Int) → Prop
  | nil : RowsAt H [] []
  | cons {a : Addr} {vs : List V} {r : List Int} {rs : List (List Int)} : H a = some (.tup (r.map V.int)) → RowsAt H vs rs → RowsAt H (.ref a :: vs) (r :: rs)
theorem RowsAt.mono {H H' : Hp} (f : ∀ a xs, H a = some (.tup xs) → H' a = some (.tup xs)) : ∀ {vs : List V} {rs : List (List Int)}, RowsAt H vs rs → RowsAt H' vs rs
  | _, _, .nil => .nil
  | _, _, .cons h t => .cons (f _ _ h) (RowsAt.mono f t)
theorem RowsAt.evo {S : List Addr} {H H' : Hp} {vs : List V} {rs : List (List Int)} (e : Evo S H H') (h : RowsAt H vs rs) : RowsAt H' vs rs := h.mono e.tup
theorem RowsAt.new {H : Hp} {p : Addr} {o : HO} {vs : List V} {rs : List (List Int)} (h : RowsAt H vs rs) (hp : H p = none) : RowsAt (upd H p o) vs rs := h.mono fun _ _ q => get_new hp q
theorem RowsAt.mut {H : Hp} {p : Addr} {o : HO} {ys vs : List V} {rs : List (List Int)} (h : RowsAt H vs rs) (hp : H p = some (.lst ys)) : RowsAt (upd H p o) vs rs := h.mono fun _ _ q => tup_mut hp q
theorem RowsAt.length {H : Hp} : ∀ {vs : List V} {rs : List (List Int)}, RowsAt H vs rs → vs.length = rs.length
  | _, _, .nil => rfl
  | _, _, .cons _ t => congrArg Nat.succ (RowsAt.length t)
theorem RowsAt.snoc {H : Hp} {a : Addr} {r : List Int} (h : H a = some (.tup (r.map V.int))) : ∀ {vs : List V} {rs : List (List Int)}, RowsAt H vs rs → RowsAt H (vs ++ [.ref a]) (rs ++ [r])
  | _, _, .nil => .cons h .nil
  | _, _, .cons q t => .cons q (RowsAt.snoc h t)
theorem RowsAt.get {H : Hp} : ∀ {vs : List V} {rs : List (List Int)} {i : Nat} {r : List Int}, RowsAt H vs rs → rs[i]? = some r → ∃ a, vs[i]? = some (.ref a) ∧ H a = some (.tup (r.map V.int))
  | _, _, _, _, .nil, e => by cases e
  | _, _, 0, _, .cons q _, e => by cases e; exact ⟨_, rfl, q⟩
  | _, _, i + 1, _, .cons _ t, e => RowsAt.get (i := i) t e
theorem RowsAt.dp {K : PySem.W.Frag} {H : Hp} : ∀ {vs : List V} {rs : List (List Int)}, RowsAt H vs rs → DpAll K H vs (rs.map fun r => .tuple (r.map PyData.int))
  | _, _, .nil => .nil
  | _, _, .cons h t => .cons (.tup (SqT.of h) (dpInts _)) (RowsAt.dp t)
theorem canRows : ∀ rs : List (List Int), PyData.canLayAll0 (rs.map fun r => .tuple (r.map PyData.int)) = true
  | [] => by simp [PyData.canLayAll0]
  | r :: q => by
    show PyData.canLayAll0 (PyData.tuple (r.map PyData.int) :: q.map fun r => .tuple (r.map PyData.int)) = true
    have h := canRows q
    simp only [PyData.canLayAll0, PyData.canLay0, canInts r, h]
    rfl
theorem depRows : ∀ rs : List (List Int), PyData.depthAll (rs.map fun r => .tuple (r.map PyData.int)) ≤ 2
  | [] => by simp [PyData.depthAll]
  | r :: q => by
    show PyData.depthAll (PyData.tuple (r.map PyData.int) :: q.map fun r => .tuple (r.map PyData.int)) ≤ 2
    have h := depRows q
    have h2 := depInts r
    simp only [PyData.depthAll, PyData.depth]
    omega
theorem shRows (rs : List (List Int)) : SeqAt.shaped (.list (rs.map fun r => .tuple (r.map PyData.int))) = true := by
  have h := depRows rs
  have h2 := canRows rs
  simp [SeqAt.shaped, PyData.canLay0, h2, PyData.depth]
  omega
theorem shRowsT (rs : List (List Int)) : SeqAt.shaped (.tuple (rs.map fun r => .tuple (r.map PyData.int))) = true := by
  have h := depRows rs
  have h2 := canRows rs
  simp [SeqAt.shaped, PyData.canLay0, h2, PyData.depth]
  omega
theorem eqNil {K : PySem.W.Frag} {H : Hp} {l e : Addr} {vs : List V} {rs : List (List Int)} (h : H l = some (.lst vs)) (hr : RowsAt H vs rs) (he : H e = some (.lst [])) : EqR K H (.ref l) (.ref e) (decide (rs = [])) := by
  refine ⟨_, _, .lst (SqL.of h) hr.dp, .lst (SqL.of he) .nil, shRows rs, shRows [], ?_⟩
  cases rs with
  | nil => simp [PyData.eqv, PyData.eqvAll]
  | cons r q => simp [PyData.eqv, PyData.eqvAll]
end Ew
namespace Ew
open PySem PySem.Spec PyProof.Rows L2
theorem RowsAt.last {H : Hp} : ∀ {vs : List V} {rs : List (List Int)}, RowsAt H vs rs → rs ≠ [] → ∃ vs' q rs' r, vs = vs' ++ [.ref q] ∧ rs = rs' ++ [r] ∧ H q = some (.tup (r.map V.int))
  | _, _, .nil, h => absurd rfl h
  | _, _, @RowsAt.cons _ a vs r rs h t, _ => by
    cases rs with
    | nil =>
      cases t
      exact ⟨[], a, [], r, rfl, rfl, h⟩
    | cons r1 rs1 =>
      obtain ⟨vs', q, rs', r', e1, e2, hq⟩ := RowsAt.last t (by intro z; cases z)
      exact ⟨.ref a :: vs', q, r :: rs', r', by rw [e1]; rfl, by rw [e2]; rfl, hq⟩
end Ew
namespace Ew
open PySem PySem.Spec PyProof.Rows L2
/-- an item of a written row of whole numbers, at any place within it -/
theorem ixI {K : PySem.W.Frag} {H : Hp} {p : Addr} {vs : List V} {ns : List Int} {i : Int} {R : V → Prop} (h : SqL K H p vs) (e : intsOf vs = some ns) (h0 : 0 ≤ i) (h1 : i < ns.length) (k : ∀ z, z ∈ ns → R (.int z)) :
    ∃ p' xs' i' v', V.ref p = .ref p' ∧ V.int i = .int i' ∧ SqL K H p' xs' ∧ atI xs' i' = some v' ∧ R v' := by
  have q := intsOf_map e
  subst q
  have hi : i.toNat < ns.length := by omega
  refine ⟨p, _, i, .int ns[i.toNat], rfl, rfl, h, ?_, k _ (List.getElem_mem hi)⟩
  exact at_of (j := i.toNat) (by omega) (by rw [List.getElem?_map, List.getElem?_eq_getElem hi]; rfl)
/-- a list or a tuple -/
def Sq2 (H : Hp) (a : Addr) (vs : List V) : Prop := H a = some (.lst vs) ∨ H a = some (.tup vs)
theorem ixQ {K : PySem.W.Frag} {H : Hp} {p : Addr} {xs : List V} {i : Int} {v : V} {R : V → Prop} {Z : Prop} (h : Sq2 H p xs) (e : atI xs i = some v) (k : R v) :
    (∃ p' xs' i' v', V.ref p = .ref p' ∧ V.int i = .int i' ∧ SqL K H p' xs' ∧ atI xs' i' = some v' ∧ R v') ∨ (∃ p' xs' i' v', V.ref p = .ref p' ∧ V.int i = .int i' ∧ SqT K H p' xs' ∧ atI xs' i' = some v' ∧ R v') ∨ Z := by
  rcases h with h | h
  · exact .inl (ixL (SqL.of h) e k)
  · exact .inr (.inl (ixT (SqT.of h) e k))
end Ew
namespace Ew
open PySem PySem.Spec PyProof.Rows L2
/-! slices, by what they come to -/
def rSlE (K : PySem.W.Frag) : V → Option Int → Option Int → Hp → VK → Prop := fun x lo hi H Q => ∃ a xs ys, x = .ref a ∧ SqL K H a xs ∧ cutV xs lo hi = ys ∧ ∀ p, H p = none → Q (.ref p) (upd H p (.lst ys))
theorem sl_listE {X : Cx} : SlR X (rSlE X.K) := fun pins s σ H x v vl vu lo hi sl Q I rx hs pl pu ⟨a, xs, ys, h1, h2, h3, h4⟩ =>
  sl_list pins s σ H x v vl vu lo hi sl Q I rx hs pl pu ⟨a, xs, h1, h2, fun p hp => h3 ▸ h4 p hp⟩
def rSlTE (K : PySem.W.Frag) : V → Option Int → Option Int → Hp → VK → Prop := fun x lo hi H Q => ∃ a xs ys, x = .ref a ∧ SqT K H a xs ∧ cutV xs lo hi = ys ∧ ys.length < xs.length ∧ ∀ p, H p = none → Q (.ref p) (upd H p (.tup ys))
theorem sl_tupE {X : Cx} : SlR X (rSlTE X.K) := fun pins s σ H x v vl vu lo hi sl Q I rx hs pl pu ⟨a, xs, ys, h1, h2, h3, h5, h4⟩ =>
  sl_tup pins s σ H x v vl vu lo hi sl Q I rx hs pl pu ⟨a, xs, h1, h2, fun ⟨e1, e2⟩ => by
    have e3 : cutV xs lo hi = xs := by unfold cutV; rw [e1, e2]; simp
    rw [← h3, e3] at h5
    exact Nat.lt_irrefl _ h5, fun p hp => h3 ▸ h4 p hp⟩
section
variable {a b c d : V}
theorem cut_lo2 : cutV [a, b, c, d] none (some 2) = [a, b] := rfl
theorem cut_hi2 : cutV [a, b, c, d] (some 2) none = [c, d] := rfl
end
end Ew

/-- the tables of codes of the defs that hold generator expressions -/
class Tbs where
  tb : List PySem.Addr
  wd : PySem.World
namespace Pu
open PySem PySem.Spec PyProof.Rows L2
variable [Tbs]

/-! Data without places: what a value shows. -/
inductive D where
  | non | bl (b : Bool) | int (i : Int) | str (s : Str) | ty (n : String)
  | tup (xs : List D) | lst (xs : List D) | dic (kvs : List (Key × D))
  | deck (n : Nat)
  | dpr (kvs : List (List Int × Int))
  | dfz (kvs : List (Int × Int))
  | st (ns : List Int)
  | bor (xs : List D)
  | opq (a : Addr)
/-- the members of a set -/
def memB (ns : List Int) : Int → Bool := fun j => decide (j ∈ ns)

/-- a dict by pairs of whole numbers, its values whole numbers -/
def dtV (ds : List (List Int × Int)) : List (List Key × V) := ds.map fun q => (q.1.map Sum.inl, V.int q.2)
/-- a dict by whole numbers, its values whole numbers, that is changed no more -/
def dzV (ds : List (Int × Int)) : List (Key × V) := ds.map fun p => (Sum.inl p.1, V.int p.2)
/-! the decks of the laws: what a deck at dk with its cells at c is, by its kind -/
def dkA (c : Addr) (l s n : Int) : List (Key × V) := [(.inr "cells", .ref c), (.inr "left", .int l), (.inr "seed", .int s), (.inr "count", .int n)]
def dkB (c : Addr) (a r s : Int) : List (Key × V) := [(.inr "cells", .ref c), (.inr "at", .int a), (.inr "rest", .int r), (.inr "seed", .int s)]
def dkC (c : Addr) (g s t : Int) : List (Key × V) := [(.inr "cells", .ref c), (.inr "great", .int g), (.inr "seed", .int s), (.inr "turn", .int t)]
def dkE (c : Addr) (s : Int) : List (Key × V) := [(.inr "cells", .ref c), (.inr "seed", .int s)]
def DkF : Nat → Hp → Addr → Addr → Prop
  | 1, H, dk, c => ∃ (l s n : Int) (cs : List Int), H dk = some (.dK (dkA c l s n)) ∧ H c = some (.lst (cs.map V.int)) ∧ 0 ≤ s ∧ s < 4294967296
  | 2, H, dk, c => ∃ (a r s : Int) (cs : List Int), H dk = some (.dK (dkB c a r s)) ∧ H c = some (.lst (cs.map V.int)) ∧ 0 ≤ a ∧ 0 ≤ s ∧ s < 4294967296
  | 3, H, dk, c => ∃ (s n g : Int) (cs : List Int), H dk = some (.lst [.ref c, .int s, .int n, .int g]) ∧ H c = some (.lst (cs.map V.int)) ∧ True
  | 4, H, dk, c => ∃ (g s t : Int) (cs : List Int), H dk = some (.dK (dkC c g s t)) ∧ H c = some (.lst (cs.map V.int)) ∧ True
  | 5, H, dk, c => ∃ (s n _g : Int) (cs : List Int), H dk = some (.lst [.ref c, .int s, .int n]) ∧ H c = some (.lst (cs.map V.int)) ∧ 0 ≤ s ∧ s < 4294967296
  | 6, H, dk, c => ∃ (s n g : Int) (cs : List Int), H dk = some (.lst [.ref c, .int s, .int n, .int g]) ∧ H c = some (.lst (cs.map V.int)) ∧ True
  | 8, H, dk, c => ∃ (s n g : Int) (cs : List Int), H dk = some (.lst [.int g, .int s, .int n]) ∧ H c = some (.lst (cs.map V.int)) ∧ True
  | 7, H, dk, c => ∃ (s _n _g : Int) (cs : List Int), H dk = some (.dK (dkE c s)) ∧ H c = some (.lst (cs.map V.int)) ∧ 0 ≤ s ∧ s < 4294967296
  | _, _, _, _ => False
theorem DkF.keep {n : Nat} {H H' : Hp} {dk c : Addr} (h : DkF n H dk c) (h1 : ∀ o, H dk = some o → H' dk = some o) (h2 : ∀ o, H c = some o → H' c = some o) : DkF n H' dk c := by
  unfold DkF at h ⊢
  split at h
  · obtain ⟨l, s, n, cs, e1, e2, r⟩ := h; exact ⟨l, s, n, cs, h1 _ e1, h2 _ e2, r⟩
  · obtain ⟨l, s, n, cs, e1, e2, r⟩ := h; exact ⟨l, s, n, cs, h1 _ e1, h2 _ e2, r⟩
  · obtain ⟨l, s, n, cs, e1, e2, r⟩ := h; exact ⟨l, s, n, cs, h1 _ e1, h2 _ e2, r⟩
  · obtain ⟨l, s, n, cs, e1, e2, r⟩ := h; exact ⟨l, s, n, cs, h1 _ e1, h2 _ e2, r⟩
  · obtain ⟨l, s, n, cs, e1, e2, r⟩ := h; exact ⟨l, s, n, cs, h1 _ e1, h2 _ e2, r⟩
  · obtain ⟨l, s, n, cs, e1, e2, r⟩ := h; exact ⟨l, s, n, cs, h1 _ e1, h2 _ e2, r⟩
  · obtain ⟨l, s, n, cs, e1, e2, r⟩ := h; exact ⟨l, s, n, cs, h1 _ e1, h2 _ e2, r⟩
  · obtain ⟨l, s, n, cs, e1, e2, r⟩ := h; exact ⟨l, s, n, cs, h1 _ e1, h2 _ e2, r⟩
  · exact h.elim
theorem DkF.al {n : Nat} {H : Hp} {dk c : Addr} (h : DkF n H dk c) : H dk ≠ none ∧ H c ≠ none := by
  have nt : ∀ {u : HO}, some u ≠ none := fun q => by cases q
  unfold DkF at h
  split at h
  · obtain ⟨l, s, n, cs, e1, e2, r⟩ := h; rw [e1, e2]; exact ⟨nt, nt⟩
  · obtain ⟨l, s, n, cs, e1, e2, r⟩ := h; rw [e1, e2]; exact ⟨nt, nt⟩
  · obtain ⟨l, s, n, cs, e1, e2, r⟩ := h; rw [e1, e2]; exact ⟨nt, nt⟩
  · obtain ⟨l, s, n, cs, e1, e2, r⟩ := h; rw [e1, e2]; exact ⟨nt, nt⟩
  · obtain ⟨l, s, n, cs, e1, e2, r⟩ := h; rw [e1, e2]; exact ⟨nt, nt⟩
  · obtain ⟨l, s, n, cs, e1, e2, r⟩ := h; rw [e1, e2]; exact ⟨nt, nt⟩
  · obtain ⟨l, s, n, cs, e1, e2, r⟩ := h; rw [e1, e2]; exact ⟨nt, nt⟩
  · obtain ⟨l, s, n, cs, e1, e2, r⟩ := h; rw [e1, e2]; exact ⟨nt, nt⟩
  · exact h.elim
/-- the count of a deck that counts (kinds 6, 8) -/
def CtF : Nat → Hp → Addr → Addr → Nat → Prop
  | 6, H, dk, c, n => ∃ s g : Int, H dk = some (.lst [.ref c, .int s, .int (n : Int), .int g])
  | 8, H, dk, _, n => ∃ g s : Int, H dk = some (.lst [.int g, .int s, .int (n : Int)])
  | _, _, _, _, _ => True
theorem CtF.keep {k : Nat} {H H' : Hp} {dk c : Addr} {n : Nat} (h : CtF k H dk c n) (h1 : ∀ o, H dk = some o → H' dk = some o) : CtF k H' dk c n := by
  unfold CtF at h ⊢
  split at h
  · obtain ⟨s, g, q⟩ := h; exact ⟨s, g, h1 _ q⟩
  · obtain ⟨s, g, q⟩ := h; exact ⟨s, g, h1 _ q⟩
  · trivial
/-- the zone of places that calls may change: the law's deck (nt: its kind, 0: none) -/
structure Zn where
  dk : Addr
  c : Addr
  nt : Nat
  /-- a list that is borrowed -/
  bo : Option Addr := Option.none
  /-- how many draws there were, of a deck that counts (kind 6) -/
  ct : Nat := 0
def Zn.Z (z : Zn) : Addr → Prop := fun a => (z.nt ≠ 0 ∧ (a = z.dk ∨ a = z.c)) ∨ a ∈ Tbs.tb
/-- the tables stand -/
def Tabs (H : Hp) : Prop := ∀ P ∈ Tbs.tb, GxR.TabG H P
def Zn.ok (z : Zn) (H : Hp) (a : Addr) : Prop := a = z.dk ∧ z.nt ≠ 0 ∧ DkF z.nt H z.dk z.c ∧ CtF z.nt H z.dk z.c z.ct
theorem Zn.keep (z : Zn) : ∀ (H H' : Hp) (a : Addr), z.ok H a → (∀ b o, z.Z b → H b = some o → H' b = some o) → z.ok H' a := fun H H' a ⟨h1, h2, h3, h4⟩ k => ⟨h1, h2, h3.keep (fun o q => k _ o (.inl ⟨h2, .inl rfl⟩) q) (fun o q => k _ o (.inl ⟨h2, .inr rfl⟩) q), h4.keep fun o q => k _ o (.inl ⟨h2, .inl rfl⟩) q⟩
/-- no deck yet -/
def Zn.none : Zn := ⟨0, 0, 0, Option.none, 0⟩

mutual
/-- the value v shows d; no list or dict of it stands in M -/
inductive Is (z : Zn) (M : Addr → Prop) (H : Hp) : V → D → Prop
  | non : Is z M H .non .non
  | bl (b : Bool) : Is z M H (.bl b) (.bl b)
  | int (i : Int) : Is z M H (.int i) (.int i)
  | str (s : Str) : Is z M H (.str s) (.str s)
  | ty (n : String) : Is z M H (.ty n) (.ty n)
  | tup {a : Addr} {vs : List V} {ds : List D} : H a = some (.tup vs) → ¬ M a → IsA z M H vs ds → Is z M H (.ref a) (.tup ds)
  | lst {a : Addr} {vs : List V} {ds : List D} : H a = some (.lst vs) → ¬ M a → IsA z M H vs ds → Is z M H (.ref a) (.lst ds)
  | dic {a : Addr} {vs : List (Key × V)} {ds : List (Key × D)} : H a = some (.dK vs) → ¬ M a → IsK z M H vs ds → Is z M H (.ref a) (.dic ds)
  | deck {a : Addr} : z.ok H a → Is z M H (.ref a) (.deck z.nt)
  | dpr {a : Addr} {ds : List (List Int × Int)} : H a = some (.dT (dtV ds)) → ¬ M a → Is z M H (.ref a) (.dpr ds)
  | dfz {a : Addr} {o : Obj} {ds : List (Int × Int)} : H a = some (.frz o (.dK (dzV ds))) → ¬ M a → Is z M H (.ref a) (.dfz ds)
  | st {a : Addr} {ns : List Int} {n : Nat} : H a = some (SetO Tbs.wd a (memB ns) n) → n ≤ ns.length → ¬ M a → Is z M H (.ref a) (.st ns)
  | bor {a : Addr} {vs : List V} {ds : List D} : H a = some (.lst vs) → ¬ M a → IsA z M H vs ds → Is z M H (.ref a) (.bor ds)
  | opq (a : Addr) : Is z M H (.ref a) (.opq a)
inductive IsA (z : Zn) (M : Addr → Prop) (H : Hp) : List V → List D → Prop
  | nil : IsA z M H [] []
  | cons {v : V} {d : D} {vs : List V} {ds : List D} : Is z M H v d → IsA z M H vs ds → IsA z M H (v :: vs) (d :: ds)
inductive IsK (z : Zn) (M : Addr → Prop) (H : Hp) : List (Key × V) → List (Key × D) → Prop
  | nil : IsK z M H [] []
  | cons {k : Key} {v : V} {d : D} {vs : List (Key × V)} {ds : List (Key × D)} : Is z M H v d → IsK z M H vs ds → IsK z M H ((k, v) :: vs) ((k, d) :: ds)
end

section
variable {z : Zn} {M M' : Addr → Prop} {H H' : Hp}
mutual
theorem Is.gen (h1 : ∀ a o, H a = some o → ¬ M a → H' a = some o ∧ ¬ M' a) (h2 : ∀ a, z.ok H a → z.ok H' a) : ∀ {v : V} {d : D}, Is z M H v d → Is z M' H' v d
  | _, _, .non => .non
  | _, _, .bl b => .bl b
  | _, _, .int i => .int i
  | _, _, .str s => .str s
  | _, _, .ty n => .ty n
  | _, _, .tup e n r => .tup (h1 _ _ e n).1 (h1 _ _ e n).2 (IsA.gen h1 h2 r)
  | _, _, .lst e n r => .lst (h1 _ _ e n).1 (h1 _ _ e n).2 (IsA.gen h1 h2 r)
  | _, _, .dic e n r => .dic (h1 _ _ e n).1 (h1 _ _ e n).2 (IsK.gen h1 h2 r)
  | _, _, .deck e => .deck (h2 _ e)
  | _, _, .dpr e n => .dpr (h1 _ _ e n).1 (h1 _ _ e n).2
  | _, _, .dfz e n => .dfz (h1 _ _ e n).1 (h1 _ _ e n).2
  | _, _, .st e l n => .st (h1 _ _ e n).1 l (h1 _ _ e n).2
  | _, _, .bor e n r => .bor (h1 _ _ e n).1 (h1 _ _ e n).2 (IsA.gen h1 h2 r)
  | _, _, .opq v => .opq v
theorem IsA.gen (h1 : ∀ a o, H a = some o → ¬ M a → H' a = some o ∧ ¬ M' a) (h2 : ∀ a, z.ok H a → z.ok H' a) : ∀ {v : List V} {d : List D}, IsA z M H v d → IsA z M' H' v d
  | _, _, .nil => .nil
  | _, _, .cons h t => .cons (Is.gen h1 h2 h) (IsA.gen h1 h2 t)
theorem IsK.gen (h1 : ∀ a o, H a = some o → ¬ M a → H' a = some o ∧ ¬ M' a) (h2 : ∀ a, z.ok H a → z.ok H' a) : ∀ {v : List (Key × V)} {d : List (Key × D)}, IsK z M H v d → IsK z M' H' v d
  | _, _, .nil => .nil
  | _, _, .cons h t => .cons (Is.gen h1 h2 h) (IsK.gen h1 h2 t)
end
theorem IsA.length : ∀ {vs : List V} {ds : List D}, IsA z M H vs ds → vs.length = ds.length
  | _, _, .nil => rfl
  | _, _, .cons _ t => congrArg Nat.succ (IsA.length t)
theorem IsA.append : ∀ {vs us : List V} {ds es : List D}, IsA z M H vs ds → IsA z M H us es → IsA z M H (vs ++ us) (ds ++ es)
  | _, _, _, _, .nil, h => h
  | _, _, _, _, .cons q t, h => .cons q (IsA.append t h)
theorem IsA.get : ∀ {vs : List V} {ds : List D} {i : Nat} {d : D}, IsA z M H vs ds → ds[i]? = some d → ∃ v, vs[i]? = some v ∧ Is z M H v d
  | _, _, _, _, .nil, e => by cases e
  | _, _, 0, _, .cons q _, e => by cases e; exact ⟨_, rfl, q⟩
  | _, _, i + 1, _, .cons _ t, e => IsA.get (i := i) t e
theorem IsA.take : ∀ {vs : List V} {ds : List D} (n : Nat), IsA z M H vs ds → IsA z M H (vs.take n) (ds.take n)
  | _, _, 0, _ => .nil
  | _, _, _ + 1, .nil => .nil
  | _, _, n + 1, .cons q t => .cons q (IsA.take n t)
theorem IsA.drop : ∀ {vs : List V} {ds : List D} (n : Nat), IsA z M H vs ds → IsA z M H (vs.drop n) (ds.drop n)
  | _, _, 0, h => h
  | _, _, _ + 1, .nil => .nil
  | _, _, n + 1, .cons _ t => IsA.drop n t
theorem IsA.set {v : V} {d : D} (h : Is z M H v d) : ∀ {vs : List V} {ds : List D} (n : Nat), IsA z M H vs ds → IsA z M H (vs.set n v) (ds.set n d)
  | _, _, _, .nil => .nil
  | _, _, 0, .cons _ t => .cons h t
  | _, _, n + 1, .cons q t => .cons q (IsA.set h n t)
theorem IsA.eraseIdx : ∀ {vs : List V} {ds : List D} (n : Nat), IsA z M H vs ds → IsA z M H (vs.eraseIdx n) (ds.eraseIdx n)
  | _, _, _, .nil => .nil
  | _, _, 0, .cons _ t => t
  | _, _, n + 1, .cons q t => .cons q (IsA.eraseIdx n t)
theorem IsA.reverse {vs : List V} {ds : List D} (h : IsA z M H vs ds) : IsA z M H vs.reverse ds.reverse := by
  induction h using IsA.rec (motive_1 := fun _ _ _ => True) (motive_3 := fun _ _ _ => True) with
  | nil => exact .nil
  | cons q t _ ih =>
    rw [List.reverse_cons, List.reverse_cons]
    exact ih.append (.cons q .nil)
  | _ => trivial
theorem IsA.dropLast : ∀ {vs : List V} {ds : List D}, IsA z M H vs ds → IsA z M H vs.dropLast ds.dropLast
  | _, _, .nil => .nil
  | _, _, .cons _ .nil => .nil
  | _, _, .cons q (.cons r t) => .cons q (IsA.dropLast (.cons r t))
theorem IsA.ints : ∀ {vs : List V} {ns : List Int}, IsA z M H vs (ns.map D.int) → vs = ns.map V.int
  | _, [], .nil => rfl
  | _, n :: ns, .cons q t => by cases q; rw [IsA.ints t]; rfl
theorem IsA.ofInts : ∀ (ns : List Int), IsA z M H (ns.map V.int) (ns.map D.int)
  | [] => .nil
  | n :: ns => .cons (.int n) (IsA.ofInts ns)
end

/-! what may happen to the heap -/
structure Evo (z : Zn) (H H' : Hp) : Prop where
  old : ∀ a o, H a = some o → ¬ z.Z a → H' a = some o
  al : ∀ a, H a ≠ none → H' a ≠ none
  dk : ∀ a, z.ok H a → z.ok H' a
  tab : Tabs H → Tabs H'
section
variable {z : Zn} {M M' : Addr → Prop} {H H1 H2 H' : Hp} {p : Addr} {o : HO} {v : V} {d : D}
theorem Tabs.at (h : Tabs H) {P : Addr} (hP : P ∈ Tbs.tb) : H P ≠ none := by
  obtain ⟨ps, e, _⟩ := h P hP
  rw [e]; intro q; cases q
theorem Tabs.new (h : Tabs H) (hp : H p = none) : Tabs (upd H p o) := fun P hP => by
  obtain ⟨ps, e, t⟩ := h P hP
  exact ⟨ps, by rw [upd_ne (ne_of_none e hp)]; exact e, t⟩
theorem Tabs.mut (h : Tabs H) (hp : ¬ z.Z p) : Tabs (upd H p o) := fun P hP => by
  obtain ⟨ps, e, t⟩ := h P hP
  exact ⟨ps, by rw [upd_ne (fun w => hp (.inr (by rw [← w]; exact hP)))]; exact e, t⟩
theorem Evo.refl (z : Zn) (H : Hp) : Evo z H H := ⟨fun _ _ h _ => h, fun _ h => h, fun _ h => h, fun h => h⟩
theorem Evo.trans (a : Evo z H H1) (b : Evo z H1 H2) : Evo z H H2 := ⟨fun x o h n => b.old x o (a.old x o h n) n, fun x h => b.al x (a.al x h), fun x h => b.dk x (a.dk x h), fun h => b.tab (a.tab h)⟩
theorem Evo.fresh (a : Evo z H H1) (h : H1 p = none) : H p = none := by
  cases q : H p with
  | none => rfl
  | some o => exact absurd h (a.al p (by rw [q]; intro z; cases z))
theorem ok_new (hp : H p = none) {a : Addr} (h : z.ok H a) : z.ok (upd H p o) a :=
  z.keep _ _ _ h fun b u _ e => by rw [upd_ne (ne_of_none e hp)]; exact e
theorem ok_mut (hp : ¬ z.Z p) {a : Addr} (h : z.ok H a) : z.ok (upd H p o) a :=
  z.keep _ _ _ h fun b u zb e => by rw [upd_ne (fun q => hp (by rw [← q]; exact zb))]; exact e
theorem Evo.new (a : Evo z H H1) (hp : H1 p = none) : Evo z H (upd H1 p o) :=
  ⟨fun x u h n => by rw [upd_ne (ne_of_none (a.old x u h n) hp)]; exact a.old x u h n, fun x h => by
    by_cases e : x = p
    · rw [e, upd_same]; intro z; cases z
    · rw [upd_ne e]; exact a.al x h, fun x h => ok_new hp (a.dk x h), fun h => (a.tab h).new hp⟩
/-- a thing that was not there at first is changed -/
theorem Evo.mut (a : Evo z H H1) (hp : H p = none) (hz : ¬ z.Z p) : Evo z H (upd H1 p o) :=
  ⟨fun x u h n => by rw [upd_ne (ne_of_none h hp)]; exact a.old x u h n, fun x h => by
    by_cases e : x = p
    · rw [e, upd_same]; intro z; cases z
    · rw [upd_ne e]; exact a.al x h, fun x h => ok_mut hz (a.dk x h), fun h => (a.tab h).mut hz⟩
theorem Is.evo (hM : ∀ a, z.Z a → M a) (e : Evo z H H') (h : Is z M H v d) : Is z M H' v d := h.gen (fun a o q n => ⟨e.old a o q (fun x => n (hM a x)), n⟩) e.dk
theorem IsA.evo {vs : List V} {ds : List D} (hM : ∀ a, z.Z a → M a) (e : Evo z H H') (h : IsA z M H vs ds) : IsA z M H' vs ds := h.gen (fun a o q n => ⟨e.old a o q (fun x => n (hM a x)), n⟩) e.dk
theorem Is.weak (hM : ∀ a, M' a → M a) (h : Is z M H v d) : Is z M' H v d := h.gen (fun a o q n => ⟨q, fun x => n (hM a x)⟩) fun _ h => h
theorem IsA.weak {vs : List V} {ds : List D} (hM : ∀ a, M' a → M a) (h : IsA z M H vs ds) : IsA z M' H vs ds := h.gen (fun a o q n => ⟨q, fun x => n (hM a x)⟩) fun _ h => h
theorem Is.new (hp : H p = none) (h : Is z M H v d) : Is z M (upd H p o) v d := h.gen (fun a u q n => ⟨by rw [upd_ne (ne_of_none q hp)]; exact q, n⟩) fun _ h => ok_new hp h
theorem IsA.new {vs : List V} {ds : List D} (hp : H p = none) (h : IsA z M H vs ds) : IsA z M (upd H p o) vs ds := h.gen (fun a u q n => ⟨by rw [upd_ne (ne_of_none q hp)]; exact q, n⟩) fun _ h => ok_new hp h
end

theorem DkF.notbl {n : Nat} {H : Hp} {dk c P : Addr} {ps : Array Value} (h : DkF n H dk c) (e : H P = some (.tbl ps)) : dk ≠ P ∧ c ≠ P := by
  unfold DkF at h
  split at h
  all_goals first
    | exact h.elim
    | (obtain ⟨l, s, n, cs, e1, e2, r⟩ := h
       refine ⟨fun w => ?_, fun w => ?_⟩
       · rw [w, e] at e1; cases e1
       · rw [w, e] at e2; cases e2)
/-- a draw leaves the tables -/
theorem tab_deck {n : Nat} {H H' : Hp} {dk c : Addr} (d : DkF n H dk c) (ev : ∀ b o, H b = some o → b ∉ [dk, c] → H' b = some o) (h : Tabs H) : Tabs H' := fun P hP => by
  obtain ⟨ps, e, t⟩ := h P hP
  obtain ⟨n1, n2⟩ := d.notbl e
  exact ⟨ps, ev P _ e (by simp only [List.mem_cons, List.not_mem_nil, or_false, not_or]; exact ⟨fun w => n1 w.symm, fun w => n2 w.symm⟩), t⟩
/-- what the thing at a holds -/
def Con (z : Zn) (M : Addr → Prop) (H : Hp) (a : Addr) : D → Prop
  | .tup ds => ∃ vs, H a = some (.tup vs) ∧ IsA z M H vs ds
  | .lst ds => ∃ vs, H a = some (.lst vs) ∧ IsA z M H vs ds
  | .dic ds => ∃ vs, H a = some (.dK vs) ∧ IsK z M H vs ds
  | .dpr ds => H a = some (.dT (dtV ds))
  | .st ns => ∃ n, H a = some (SetO Tbs.wd a (memB ns) n) ∧ n ≤ ns.length
  | .bor ds => z.bo = some a ∧ ∃ vs, H a = some (.lst vs) ∧ IsA z M H vs ds
  | _ => False
section
variable {z : Zn} {M M' : Addr → Prop} {H H' : Hp} {a : Addr} {d : D}
theorem Con.gen (ha : ∀ o, H a = some o → H' a = some o) (h1 : ∀ a o, H a = some o → ¬ M a → H' a = some o ∧ ¬ M' a) (h2 : ∀ a, z.ok H a → z.ok H' a) (h : Con z M H a d) : Con z M' H' a d := by
  cases d with
  | tup ds => obtain ⟨vs, e, r⟩ := h; exact ⟨vs, ha _ e, r.gen h1 h2⟩
  | lst ds => obtain ⟨vs, e, r⟩ := h; exact ⟨vs, ha _ e, r.gen h1 h2⟩
  | dic ds => obtain ⟨vs, e, r⟩ := h; exact ⟨vs, ha _ e, r.gen h1 h2⟩
  | dpr ds => exact ha _ h
  | st ns => obtain ⟨n, e, l⟩ := h; exact ⟨n, ha _ e, l⟩
  | bor ds => obtain ⟨w, vs, e, r⟩ := h; exact ⟨w, vs, ha _ e, r.gen h1 h2⟩
  | _ => exact h.elim
theorem Con.is (n : ¬ M a) (h : Con z M H a d) : Is z M H (.ref a) d := by
  cases d with
  | tup ds => obtain ⟨vs, e, r⟩ := h; exact .tup e n r
  | lst ds => obtain ⟨vs, e, r⟩ := h; exact .lst e n r
  | dic ds => obtain ⟨vs, e, r⟩ := h; exact .dic e n r
  | dpr ds => exact .dpr h n
  | st ns => obtain ⟨m, e, l⟩ := h; exact .st e l n
  | bor ds => obtain ⟨w, vs, e, r⟩ := h; exact .bor e n r
  | _ => exact h.elim
theorem Con.some (h : Con z M H a d) : ∃ o, H a = some o := by
  cases d with
  | tup ds => obtain ⟨vs, e, r⟩ := h; exact ⟨_, e⟩
  | lst ds => obtain ⟨vs, e, r⟩ := h; exact ⟨_, e⟩
  | dic ds => obtain ⟨vs, e, r⟩ := h; exact ⟨_, e⟩
  | dpr ds => exact ⟨_, h⟩
  | st ns => obtain ⟨m, e, l⟩ := h; exact ⟨_, e⟩
  | bor ds => obtain ⟨w, vs, e, r⟩ := h; exact ⟨_, e⟩
  | _ => exact h.elim
theorem Is.con {ds : List D} {v : V} (h : Is z M H v (.lst ds)) : ∃ a, v = .ref a ∧ Con z M H a (.lst ds) := by
  cases h with
  | lst e n r => exact ⟨_, rfl, _, e, r⟩
end

/-! slots -/
abbrev Sl := List (Option V)
abbrev AP := Addr → Prop
inductive SV where
  | no | val (d : D) | own (d : D)
/-- the places that no plain value of the slots has: the zone, what X names, what slots own -/
def Ms (z : Zn) (X : AP) (σ : Sl) (env : List SV) : AP := fun a => z.Z a ∨ X a ∨ ∃ (i : Nat) (d : D), env[i]? = some (.own d) ∧ σ[i]? = some (some (V.ref a))
structure Ok (z : Zn) (X : AP) (H0 H : Hp) (σ : Sl) (env : List SV) : Prop where
  len : σ.length = env.length
  evo : Evo z H0 H
  zal : ∀ a, z.Z a → H a ≠ none
  xal : ∀ a, X a → H a ≠ none ∧ ¬ z.Z a
  val : ∀ (i : Nat) (d : D), env[i]? = some (.val d) → ∃ v, σ[i]? = some (some v) ∧ Is z (Ms z X σ env) H v d
  own : ∀ (i : Nat) (d : D), env[i]? = some (.own d) → ∃ a, σ[i]? = some (some (V.ref a)) ∧ Con z (Ms z X σ env) H a d ∧ ¬ z.Z a ∧ ¬ X a ∧ H0 a = none
  inj : ∀ (i j : Nat) (a : Addr) (d e : D), env[i]? = some (.own d) → env[j]? = some (.own e) → σ[i]? = some (some (V.ref a)) → σ[j]? = some (some (V.ref a)) → i = j
  tab : Tabs H
/-- what stood outside M stands, outside M' -/
structure Fr (z : Zn) (X : AP) (M : AP) (H : Hp) (M' : AP) (H' : Hp) : Prop where
  old : ∀ a o, H a = some o → ¬ M a → H' a = some o ∧ ¬ M' a
  dk : ∀ a, z.ok H a → z.ok H' a
  al : ∀ a, H a ≠ none → H' a ≠ none
section
variable {z : Zn} {X : AP} {H0 H H' H1 H2 : Hp} {σ σ' : Sl} {env env' : List SV} {M M1 M2 : AP}
theorem Fr.refl : Fr z X M H M H := ⟨fun _ _ h n => ⟨h, n⟩, fun _ h => h, fun _ h => h⟩
theorem Fr.trans (a : Fr z X M H M1 H1) (b : Fr z X M1 H1 M2 H2) : Fr z X M H M2 H2 := ⟨fun x o h n => b.old x o (a.old x o h n).1 (a.old x o h n).2, fun x h => b.dk x (a.dk x h), fun x h => b.al x (a.al x h)⟩
theorem Fr.is {v : V} {d : D} (f : Fr z X M H M1 H1) (h : Is z M H v d) : Is z M1 H1 v d := h.gen f.old f.dk
theorem Fr.isA {v : List V} {d : List D} (f : Fr z X M H M1 H1) (h : IsA z M H v d) : IsA z M1 H1 v d := h.gen f.old f.dk
theorem Ok.keepX (k : Ok z X H0 H σ env) (e : Evo z H H') : ∀ a, X a → H' a = H a := fun a h => by
  cases q : H a with
  | none => exact absurd q (k.xal a h).1
  | some o => exact e.old a o q (k.xal a h).2
theorem Ok.fr (k : Ok z X H0 H σ env) (e : Evo z H H') : Fr z X (Ms z X σ env) H (Ms z X σ env) H' := ⟨fun a o h n => ⟨e.old a o h fun x => n (.inl x), n⟩, e.dk, e.al⟩
theorem Ok.go (k : Ok z X H0 H σ env) (e : Evo z H H') : Ok z X H0 H' σ env :=
  ⟨k.len, k.evo.trans e, fun a h => e.al a (k.zal a h), fun a h => ⟨e.al a (k.xal a h).1, (k.xal a h).2⟩, fun i d h => let ⟨v, h1, h2⟩ := k.val i d h; ⟨v, h1, h2.evo (fun _ h => .inl h) e⟩,
   fun i d h => let ⟨a, h1, h2, h3, h4⟩ := k.own i d h; ⟨a, h1, h2.gen (fun o q => e.old a o q h3) (fun b o q n => ⟨e.old b o q fun x => n (.inl x), n⟩) e.dk, h3, h4⟩, k.inj, e.tab k.tab⟩
theorem set_own {i j : Nat} {d e : D} (h : (env.set i (.val d))[j]? = some (.own e)) : j ≠ i ∧ env[j]? = some (.own e) := by
  by_cases hj : i = j
  · subst hj
    rw [List.getElem?_set] at h
    split at h
    · split at h <;> cases h
    · exact absurd rfl (by assumption)
  · rw [List.getElem?_set_ne hj] at h
    exact ⟨fun q => hj q.symm, h⟩
/-- a plain store: the slot i shows d -/
theorem Ok.set (k : Ok z X H0 H σ env) {i : Nat} {v : V} {d : D} (hv : Is z (Ms z X σ env) H v d) : Ok z X H0 H (σ.set i (some v)) (env.set i (.val d)) ∧ Fr z X (Ms z X σ env) H (Ms z X (σ.set i (some v)) (env.set i (.val d))) H := by
  have sub : ∀ a, Ms z X (σ.set i (some v)) (env.set i (.val d)) a → Ms z X σ env a := by
    rintro a (h | h | ⟨j, e, h1, h2⟩)
    · exact .inl h
    · exact .inr (.inl h)
    · obtain ⟨hj, h1⟩ := set_own h1
      rw [List.getElem?_set_ne (Ne.symm hj)] at h2
      exact .inr (.inr ⟨j, e, h1, h2⟩)
  refine ⟨⟨by simp [k.len], k.evo, k.zal, k.xal, fun j e h => ?_, fun j e h => ?_, fun j l a e f h1 h2 h3 h4 => ?_, k.tab⟩, ⟨fun a o q n => ⟨q, fun x => n (sub a x)⟩, fun _ h => h, fun _ h => h⟩⟩
  · by_cases hj : i = j
    · subst hj
      rw [List.getElem?_set] at h
      split at h
      · split at h
        · rename_i hl
          cases h
          refine ⟨v, ?_, hv.weak sub⟩
          rw [List.getElem?_set_self (by rw [k.len]; exact hl)]
        · cases h
      · exact absurd rfl (by assumption)
    · rw [List.getElem?_set_ne hj] at h ⊢
      obtain ⟨u, h1, h2⟩ := k.val j e h
      exact ⟨u, h1, h2.weak sub⟩
  · obtain ⟨hj, h⟩ := set_own h
    rw [List.getElem?_set_ne (Ne.symm hj)]
    obtain ⟨a, h1, h2, h3, h4⟩ := k.own j e h
    exact ⟨a, h1, h2.gen (fun _ q => q) (fun b o q n => ⟨q, fun x => n (sub b x)⟩) fun _ h => h, h3, h4⟩
  · obtain ⟨hj, h1⟩ := set_own h1
    obtain ⟨hl, h2⟩ := set_own h2
    rw [List.getElem?_set_ne (Ne.symm hj)] at h3
    rw [List.getElem?_set_ne (Ne.symm hl)] at h4
    exact k.inj j l a e f h1 h2 h3 h4
abbrev AP.or (X : AP) (a : Addr) : AP := fun b => X b ∨ b = a
/-- a store of a new thing that the slot owns -/
theorem Ok.take (k : Ok z X H0 H σ env) {i : Nat} {a : Addr} {d : D} (hl : i < env.length) (e : Evo z H H') (hn : H a = none) (hc : Con z (Ms z (X.or a) σ env) H' a d) :
    Ok z X H0 H' (σ.set i (some (V.ref a))) (env.set i (.own d)) ∧ Fr z X (Ms z X σ env) H (Ms z X (σ.set i (some (V.ref a))) (env.set i (.own d))) H' := by
  have hz : ¬ z.Z a := fun q => k.zal a q hn
  have hx : ¬ X a := fun q => (k.xal a q).1 hn
  have ms : ∀ b, Ms z X (σ.set i (some (V.ref a))) (env.set i (.own d)) b → Ms z (X.or a) σ env b := by
    rintro b (h | h | ⟨j, f, h1, h2⟩)
    · exact .inl h
    · exact .inr (.inl (.inl h))
    · by_cases hj : i = j
      · subst hj
        rw [List.getElem?_set_self (by rw [k.len]; exact hl)] at h2
        cases h2
        exact .inr (.inl (.inr rfl))
      · rw [List.getElem?_set_ne hj] at h1 h2
        exact .inr (.inr ⟨j, f, h1, h2⟩)
  have ms2 : ∀ b, Ms z (X.or a) σ env b → Ms z X σ env b ∨ b = a := by
    rintro b (h | (h | h) | h)
    · exact .inl (.inl h)
    · exact .inl (.inr (.inl h))
    · exact .inr h
    · exact .inl (.inr (.inr h))
  have old : ∀ b o, H b = some o → ¬ Ms z X σ env b → H' b = some o ∧ ¬ Ms z X (σ.set i (some (V.ref a))) (env.set i (.own d)) b := fun b o q n =>
    ⟨e.old b o q fun x => n (.inl x), fun x => (ms2 b (ms b x)).elim n fun y => by rw [y, hn] at q; cases q⟩
  refine ⟨⟨by simp [k.len], k.evo.trans e, fun b h => e.al b (k.zal b h), fun b h => ⟨e.al b (k.xal b h).1, (k.xal b h).2⟩, fun j f h => ?_, fun j f h => ?_, fun j l b f g h1 h2 h3 h4 => ?_, e.tab k.tab⟩, ⟨old, e.dk, e.al⟩⟩
  · by_cases hj : i = j
    · subst hj
      rw [List.getElem?_set_self hl] at h
      cases h
    · rw [List.getElem?_set_ne hj] at h ⊢
      obtain ⟨u, h1, h2⟩ := k.val j f h
      exact ⟨u, h1, h2.gen old e.dk⟩
  · by_cases hj : i = j
    · subst hj
      rw [List.getElem?_set_self hl] at h
      cases h
      exact ⟨a, by rw [List.getElem?_set_self (by rw [k.len]; exact hl)], hc.gen (fun _ q => q) (fun b o q n => ⟨q, fun x => n (ms b x)⟩) fun _ h => h, hz, hx, k.evo.fresh hn⟩
    · rw [List.getElem?_set_ne hj] at h ⊢
      obtain ⟨b, h1, h2, h3, h4⟩ := k.own j f h
      exact ⟨b, h1, h2.gen (fun o q => e.old b o q h3) old e.dk, h3, h4⟩
  · have own' : ∀ (j : Nat) (f : D), (env.set i (.own d))[j]? = some (.own f) → j ≠ i → env[j]? = some (.own f) := fun j f h hj => by rw [List.getElem?_set_ne (Ne.symm hj)] at h; exact h
    have no : ∀ (j : Nat) (f : D), env[j]? = some (.own f) → σ[j]? = some (some (V.ref a)) → False := fun j f h1 h2 => by
      obtain ⟨b, h3, h4, _⟩ := k.own j f h1
      rw [h2] at h3
      cases h3
      obtain ⟨o, h5⟩ := h4.some
      rw [hn] at h5
      cases h5
    by_cases hj : j = i
    · by_cases hl2 : l = i
      · rw [hj, hl2]
      · rw [hj, List.getElem?_set_self (by rw [k.len]; exact hl)] at h3
        cases h3
        rw [List.getElem?_set_ne (Ne.symm hl2)] at h4
        exact (no l g (own' l g h2 hl2) h4).elim
    · by_cases hl2 : l = i
      · rw [hl2, List.getElem?_set_self (by rw [k.len]; exact hl)] at h4
        cases h4
        rw [List.getElem?_set_ne (Ne.symm hj)] at h3
        exact (no j f (own' j f h1 hj) h3).elim
      · rw [List.getElem?_set_ne (Ne.symm hj)] at h3
        rw [List.getElem?_set_ne (Ne.symm hl2)] at h4
        exact k.inj j l b f g (own' j f h1 hj) (own' l g h2 hl2) h3 h4
/-- what a slot owns is changed -/
theorem Ok.mut (k : Ok z X H0 H σ env) {i : Nat} {a : Addr} {d d' : D} {o : HO} (hi : env[i]? = some (.own d)) (hs : σ[i]? = some (some (V.ref a))) (hc : Con z (Ms z X σ env) (upd H a o) a d') :
    Ok z X H0 (upd H a o) σ (env.set i (.own d')) ∧ Fr z X (Ms z X σ env) H (Ms z X σ (env.set i (.own d'))) (upd H a o) := by
  have hl : i < env.length := (List.getElem?_eq_some_iff.mp hi).1
  obtain ⟨a', hs', hc0, hz, hx, h0⟩ := k.own i d hi
  have ea : a' = a := by rw [hs] at hs'; cases hs'; rfl
  subst ea
  have ms : ∀ b, Ms z X σ (env.set i (.own d')) b → Ms z X σ env b := by
    rintro b (h | h | ⟨j, f, h1, h2⟩)
    · exact .inl h
    · exact .inr (.inl h)
    · by_cases hj : i = j
      · subst hj
        exact .inr (.inr ⟨i, d, hi, h2⟩)
      · rw [List.getElem?_set_ne hj] at h1
        exact .inr (.inr ⟨j, f, h1, h2⟩)
  have ain : Ms z X σ env a' := .inr (.inr ⟨i, d, hi, hs⟩)
  have old : ∀ b u, H b = some u → ¬ Ms z X σ env b → upd H a' o b = some u ∧ ¬ Ms z X σ (env.set i (.own d')) b := fun b u q n =>
    ⟨by rw [upd_ne (fun e => n (by rw [e]; exact ain))]; exact q, fun x => n (ms b x)⟩
  have dk : ∀ b, z.ok H b → z.ok (upd H a' o) b := fun b h => ok_mut hz h
  have al : ∀ b, H b ≠ none → upd H a' o b ≠ none := fun b h => by
    by_cases e : b = a'
    · rw [e, upd_same]; intro q; cases q
    · rw [upd_ne e]; exact h
  refine ⟨⟨by simp [k.len], k.evo.mut h0 hz, fun b h => al b (k.zal b h), fun b h => ⟨al b (k.xal b h).1, (k.xal b h).2⟩, fun j f h => ?_, fun j f h => ?_, fun j l b f g h1 h2 h3 h4 => ?_, k.tab.mut hz⟩, ⟨old, dk, al⟩⟩
  · by_cases hj : i = j
    · subst hj
      rw [List.getElem?_set_self hl] at h
      cases h
    · rw [List.getElem?_set_ne hj] at h
      obtain ⟨u, h1, h2⟩ := k.val j f h
      exact ⟨u, h1, h2.gen old dk⟩
  · by_cases hj : i = j
    · subst hj
      rw [List.getElem?_set_self hl] at h
      cases h
      exact ⟨a', hs, hc.gen (fun _ q => q) (fun b o q n => ⟨q, fun x => n (ms b x)⟩) fun _ h => h, hz, hx, h0⟩
    · rw [List.getElem?_set_ne hj] at h
      obtain ⟨b, h1, h2, h3, h4⟩ := k.own j f h
      have nb : b ≠ a' := fun e => hj (k.inj i j a' d f hi h hs (e ▸ h1))
      exact ⟨b, h1, h2.gen (fun o q => by rw [upd_ne nb]; exact q) old dk, h3, h4⟩
  · have un : ∀ (j : Nat) (f : D), (env.set i (.own d'))[j]? = some (.own f) → ∃ f', env[j]? = some (.own f') := fun j f h => by
      by_cases hj : i = j
      · subst hj; exact ⟨d, hi⟩
      · rw [List.getElem?_set_ne hj] at h; exact ⟨f, h⟩
    obtain ⟨f', h1'⟩ := un j f h1
    obtain ⟨g', h2'⟩ := un l g h2
    exact k.inj j l b f' g' h1' h2' h3 h4
end
end Pu

namespace Pu
open PySem PySem.Spec PyProof.Rows L2
variable [Tbs]

/-! == of data -/
mutual
def pd : D → PyData
  | .non => .none
  | .bl b => .bool b
  | .int i => .int i
  | .str s => .str s
  | .ty _ => .none
  | .tup xs => .tuple (pdA xs)
  | .lst xs => .list (pdA xs)
  | .dic _ => .none
  | .deck _ => .none
  | .dpr _ => .none
  | .dfz _ => .none
  | .st _ => .none
  | .bor _ => .none
  | .opq _ => .none
def pdA : List D → List PyData
  | [] => []
  | x :: xs => pd x :: pdA xs
end
mutual
/-- of None, truths, numbers, texts, tuples and lists, at most n deep -/
def shp : Nat → D → Bool
  | _, .non => true
  | _, .bl _ => true
  | _, .int _ => true
  | _, .str s => PyData.strOk s
  | 0, .tup _ => false
  | n + 1, .tup xs => shpA n xs
  | 0, .lst _ => false
  | n + 1, .lst xs => shpA n xs
  | _, .ty _ => false
  | _, .dic _ => false
  | _, .deck _ => false
  | _, .dpr _ => false
  | _, .dfz _ => false
  | _, .st _ => false
  | _, .bor _ => false
  | _, .opq _ => false
def shpA : Nat → List D → Bool
  | _, [] => true
  | n, x :: xs => shp n x && shpA n xs
end
mutual
/-- the same without truths -/
def pln : Nat → D → Bool
  | _, .non => true
  | _, .bl _ => false
  | _, .int _ => true
  | _, .str s => PyData.strOk s
  | 0, .tup _ => false
  | n + 1, .tup xs => plnA n xs
  | 0, .lst _ => false
  | n + 1, .lst xs => plnA n xs
  | _, .ty _ => false
  | _, .dic _ => false
  | _, .deck _ => false
  | _, .dpr _ => false
  | _, .dfz _ => false
  | _, .st _ => false
  | _, .bor _ => false
  | _, .opq _ => false
def plnA : Nat → List D → Bool
  | _, [] => true
  | n, x :: xs => pln n x && plnA n xs
end
theorem plnA_iff {n : Nat} : ∀ {xs : List D}, plnA n xs = true ↔ ∀ x ∈ xs, pln n x = true
  | [] => by simp [plnA]
  | x :: xs => by simp [plnA, plnA_iff (xs := xs)]
theorem shpA_iff {n : Nat} : ∀ {xs : List D}, shpA n xs = true ↔ ∀ x ∈ xs, shp n x = true
  | [] => by simp [shpA]
  | x :: xs => by simp [shpA, shpA_iff (xs := xs)]
mutual
theorem pln_shp : ∀ (n : Nat) (d : D), pln n d = true → shp n d = true
  | _, .non, _ => by simp [shp]
  | _, .bl _, h => by simp [pln] at h
  | _, .int _, _ => by simp [shp]
  | _, .str s, h => by simp only [pln] at h; simp only [shp]; exact h
  | 0, .tup _, h => by simp [pln] at h
  | n + 1, .tup xs, h => by simp only [pln] at h; simp only [shp]; exact plnA_shp n xs h
  | 0, .lst _, h => by simp [pln] at h
  | n + 1, .lst xs, h => by simp only [pln] at h; simp only [shp]; exact plnA_shp n xs h
  | _, .ty _, h => by simp [pln] at h
  | _, .dic _, h => by simp [pln] at h
  | _, .deck _, h => by simp [pln] at h
  | _, .dpr _, h => by simp [pln] at h
  | _, .dfz _, h => by simp [pln] at h
  | _, .st _, h => by simp [pln] at h
  | _, .bor _, h => by simp [pln] at h
  | _, .opq _, h => by simp [pln] at h
theorem plnA_shp : ∀ (n : Nat) (xs : List D), plnA n xs = true → shpA n xs = true
  | _, [], _ => by simp [shpA]
  | n, x :: xs, h => by
    simp only [plnA, Bool.and_eq_true] at h
    simp only [shpA, Bool.and_eq_true]
    exact ⟨pln_shp n x h.1, plnA_shp n xs h.2⟩
end
mutual
theorem shp_lay : ∀ (n : Nat) (d : D), shp n d = true → (pd d).canLay0 = true ∧ (pd d).depth ≤ n + 1
  | n, .non, _ => by simp [pd, PyData.canLay0, PyData.depth]
  | n, .bl _, h => by simp [pd, PyData.canLay0, PyData.depth]
  | n, .int _, _ => by simp [pd, PyData.canLay0, PyData.depth]
  | n, .str s, h => by simp only [shp] at h; simp [pd, PyData.canLay0, PyData.depth, h]
  | 0, .tup _, h => by simp [shp] at h
  | n + 1, .tup xs, h => by
    simp only [shp] at h
    have q := shp_layA n xs h
    simp only [pd, PyData.canLay0, PyData.depth, q.1, true_and]
    omega
  | 0, .lst _, h => by simp [shp] at h
  | n + 1, .lst xs, h => by
    simp only [shp] at h
    have q := shp_layA n xs h
    simp only [pd, PyData.canLay0, PyData.depth, q.1, true_and]
    omega
  | _, .ty _, h => by simp [shp] at h
  | _, .dic _, h => by simp [shp] at h
  | _, .deck _, h => by simp [shp] at h
  | _, .dpr _, h => by simp [shp] at h
  | _, .dfz _, h => by simp [shp] at h
  | _, .st _, h => by simp [shp] at h
  | _, .bor _, h => by simp [shp] at h
  | _, .opq _, h => by simp [shp] at h
theorem shp_layA : ∀ (n : Nat) (xs : List D), shpA n xs = true → PyData.canLayAll0 (pdA xs) = true ∧ PyData.depthAll (pdA xs) ≤ n + 1
  | n, [], _ => by simp [pdA, PyData.canLayAll0, PyData.depthAll]
  | n, x :: xs, h => by
    simp only [shpA, Bool.and_eq_true] at h
    have q := shp_lay n x h.1
    have r := shp_layA n xs h.2
    simp only [pdA, PyData.canLayAll0, PyData.depthAll, q.1, r.1, Bool.and_self, true_and]
    omega
end
theorem shaped_of {d : D} (h : shp 60 d = true) : SeqAt.shaped (pd d) = true := by
  have q := shp_lay 60 d h
  simp only [SeqAt.shaped, q.1, Bool.true_and, decide_eq_true_eq]
  omega
section
variable {z : Zn} {M : Addr → Prop} {H : Hp} {K : PySem.W.Frag}
mutual
theorem Is.dp : ∀ {v : V} {d : D} {n : Nat}, Is z M H v d → shp n d = true → Dp K H v (pd d)
  | _, _, _, .non, _ => by simp only [pd]; exact .non
  | _, _, _, .bl b, _ => by simp only [pd]; exact .bl b
  | _, _, _, .int b, _ => by simp only [pd]; exact .int b
  | _, _, _, .str b, _ => by simp only [pd]; exact .str b
  | _, _, _, .ty b, h => by simp [shp] at h
  | _, _, 0, .tup e _ r, h => by simp [shp] at h
  | _, _, n + 1, .tup e _ r, h => by simp only [pd]; exact .tup (SqT.of e) (IsA.dp r (by simpa only [shp] using h))
  | _, _, 0, .lst e _ r, h => by simp [shp] at h
  | _, _, n + 1, .lst e _ r, h => by simp only [pd]; exact .lst (SqL.of e) (IsA.dp r (by simpa only [shp] using h))
  | _, _, _, .dic _ _ _, h => by simp [shp] at h
  | _, _, _, .deck _, h => by simp [shp] at h
  | _, _, _, .dpr _ _, h => by simp [shp] at h
  | _, _, _, .dfz _ _, h => by simp [shp] at h
  | _, _, _, .st _ _ _, h => by simp [shp] at h
  | _, _, _, .bor _ _ _, h => by simp [shp] at h
  | _, _, _, .opq _, h => by simp [shp] at h
theorem IsA.dp : ∀ {vs : List V} {ds : List D} {n : Nat}, IsA z M H vs ds → shpA n ds = true → DpAll K H vs (pdA ds)
  | _, _, _, .nil, _ => by simp only [pdA]; exact .nil
  | _, _, _, .cons q t, h => by
    simp only [shpA, Bool.and_eq_true] at h
    simp only [pdA]
    exact .cons (Is.dp q h.1) (IsA.dp t h.2)
end
end
def eqvD (a b : D) : Bool := PyData.eqv (pd a) (pd b)
theorem strBeq {a b : Str} : (a == b) = true ↔ a = b := beq_iff_eq
mutual
theorem eqv_iff : ∀ (n m : Nat) (a b : D), pln n a = true → pln m b = true → (PyData.eqv (pd a) (pd b) = true ↔ a = b)
  | n, m, a, b, ha, hb => by
    cases a with
    | non => cases b <;> simp_all [pd, PyData.eqv, pln]
    | bl _ => simp [pln] at ha
    | int i => cases b <;> simp_all [pd, PyData.eqv, pln]
    | str s => cases b <;> simp_all [pd, PyData.eqv, pln]
    | ty _ => simp [pln] at ha
    | dic _ => simp [pln] at ha
    | deck _ => simp [pln] at ha
    | dpr _ => simp [pln] at ha
    | dfz _ => simp [pln] at ha
    | st _ => simp [pln] at ha
    | bor _ => simp [pln] at ha
    | opq _ => simp [pln] at ha
    | tup xs =>
      cases b with
      | tup ys =>
        cases n with
        | zero => simp [pln] at ha
        | succ n =>
          cases m with
          | zero => simp [pln] at hb
          | succ m =>
            simp only [pln] at ha hb
            simp only [pd, PyData.eqv, D.tup.injEq]
            exact eqv_iffA n m xs ys ha hb
      | bl _ => simp [pln] at hb
      | _ => simp_all [pd, PyData.eqv, pln]
    | lst xs =>
      cases b with
      | lst ys =>
        cases n with
        | zero => simp [pln] at ha
        | succ n =>
          cases m with
          | zero => simp [pln] at hb
          | succ m =>
            simp only [pln] at ha hb
            simp only [pd, PyData.eqv, D.lst.injEq]
            exact eqv_iffA n m xs ys ha hb
      | bl _ => simp [pln] at hb
      | _ => simp_all [pd, PyData.eqv, pln]
theorem eqv_iffA : ∀ (n m : Nat) (a b : List D), plnA n a = true → plnA m b = true → (PyData.eqvAll (pdA a) (pdA b) = true ↔ a = b)
  | n, m, [], [], _, _ => by simp [pdA, PyData.eqvAll]
  | n, m, [], _ :: _, _, _ => by simp [pdA, PyData.eqvAll]
  | n, m, _ :: _, [], _, _ => by simp [pdA, PyData.eqvAll]
  | n, m, x :: xs, y :: ys, ha, hb => by
    simp only [plnA, Bool.and_eq_true] at ha hb
    simp only [pdA, PyData.eqvAll, Bool.and_eq_true, List.cons.injEq]
    rw [eqv_iff n m x y ha.1 hb.1, eqv_iffA n m xs ys ha.2 hb.2]
end
theorem eqvD_iff {a b : D} (ha : pln 60 a = true) (hb : pln 60 b = true) : eqvD a b = true ↔ a = b := eqv_iff 60 60 a b ha hb
end Pu

namespace Pu
open PySem PySem.Spec PyProof.Rows L2
variable [Tbs]

/-! readings without places -/
abbrev PX := List SV → (D → Prop) → Prop
abbrev PTs' := List SV → (Bool → Prop) → Prop
abbrev PAs := List SV → (List D → Prop) → Prop
/-- the zone and X -/
def Zx (z : Zn) (X : AP) : AP := fun a => z.Z a ∨ X a
/-- how an expression's value stands: f new and alone; e plain; c its parts plain; b for a look only -/
inductive Mode where | f | e | c | b
  deriving DecidableEq
def mutD : D → Bool
  | .lst _ => true
  | .dic _ => true
  | .dpr _ => true
  | .st _ => true
  | _ => false
def Rel (m : Mode) (z : Zn) (X : AP) (H H' : Hp) (σ : Sl) (env : List SV) (v : V) (d : D) : Prop := match m with
  | .f => ∃ a, v = .ref a ∧ H a = none ∧ Con z (Ms z (X.or a) σ env) H' a d
  | .e => Is z (Ms z X σ env) H' v d
  | .c => Is z (Ms z X σ env) H' v d ∨ ∃ a, v = .ref a ∧ Con z (Ms z X σ env) H' a d ∧ ¬ Zx z X a ∧ mutD d = true
  | .b => Is z (Zx z X) H' v d
section
variable {z : Zn} {X : AP} {H0 H H1 H' : Hp} {σ : Sl} {env : List SV} {v : V} {d : D} {m : Mode}
theorem Zx.ms {a : Addr} (h : Zx z X a) : Ms z X σ env a := h.elim .inl fun q => .inr (.inl q)
theorem Ms.orL {a b : Addr} (h : Ms z X σ env b) : Ms z (X.or a) σ env b := by
  rcases h with h | h | h
  · exact .inl h
  · exact .inr (.inl (.inl h))
  · exact .inr (.inr h)
theorem Ok.notMs (k : Ok z X H0 H σ env) {a : Addr} (h : H a = none) : ¬ Ms z X σ env a := by
  rintro (q | q | ⟨i, d, q1, q2⟩)
  · exact k.zal a q h
  · exact (k.xal a q).1 h
  · obtain ⟨b, h1, h2, _⟩ := k.own i d q1
    rw [q2] at h1
    cases h1
    obtain ⟨o, h3⟩ := h2.some
    rw [h] at h3
    cases h3
theorem Rel.fe (k : Ok z X H0 H σ env) (h : Rel .f z X H H' σ env v d) : Rel .e z X H H' σ env v d := by
  obtain ⟨a, rfl, hn, hc⟩ := h
  exact (hc.gen (fun _ q => q) (fun b o q n => ⟨q, fun x => n x.orL⟩) fun _ h => h).is (k.notMs hn)
theorem Rel.ec (h : Rel .e z X H H' σ env v d) : Rel .c z X H H' σ env v d := .inl h
theorem Rel.cb (h : Rel .c z X H H' σ env v d) : Rel .b z X H H' σ env v d := by
  rcases h with h | ⟨a, rfl, hc, n, _⟩
  · exact Is.weak (fun a q => q.ms) h
  · exact (hc.gen (fun _ q => q) (fun b o q n => ⟨q, fun x => n x.ms⟩) fun _ h => h).is n
theorem Rel.eb (h : Rel .e z X H H' σ env v d) : Rel .b z X H H' σ env v d := h.ec.cb
theorem Rel.toB (k : Ok z X H0 H σ env) (h : Rel m z X H H' σ env v d) : Rel .b z X H H' σ env v d := by
  cases m with
  | f => exact (h.fe k).eb
  | e => exact h.eb
  | c => exact h.cb
  | b => exact h
/-- a later heap -/
theorem Rel.evo (k : Ok z X H0 H σ env) (e : Evo z H1 H') (h : Rel m z X H H1 σ env v d) (h0 : Evo z H H1) : Rel m z X H H' σ env v d := by
  cases m with
  | f =>
    obtain ⟨a, rfl, hn, hc⟩ := h
    refine ⟨a, rfl, hn, hc.gen (fun o q => e.old a o q fun x => ?_) (fun b o q n => ⟨e.old b o q fun x => n (.inl x), n⟩) e.dk⟩
    exact k.zal a x hn
  | e => exact Is.evo (fun _ q => .inl q) e h
  | c =>
    rcases h with h | ⟨a, rfl, hc, n, md⟩
    · exact .inl (Is.evo (fun _ q => .inl q) e h)
    · exact .inr ⟨a, rfl, hc.gen (fun o q => e.old a o q fun x => n (.inl x)) (fun b o q n => ⟨e.old b o q fun x => n (.inl x), n⟩) e.dk, n, md⟩
  | b => exact Is.evo (fun _ q => .inl q) e h
/-- a later start: for all but f -/
theorem Rel.later (hm : m ≠ .f) (h : Rel m z X H H' σ env v d) : Rel m z X H1 H' σ env v d := by
  cases m with
  | f => exact absurd rfl hm
  | _ => exact h
/-- an earlier start -/
theorem Rel.early (e : Evo z H H1) (h : Rel m z X H1 H' σ env v d) : Rel m z X H H' σ env v d := by
  cases m with
  | f => obtain ⟨a, rfl, hn, hc⟩ := h; exact ⟨a, rfl, e.fresh hn, hc⟩
  | e => exact h
  | c => exact h
  | b => exact h
end

def RE (m : Mode) (t : TE) (p : PX) : Prop := ∀ (z : Zn) (X : AP) (H0 H : Hp) (σ : Sl) (env : List SV) (Q : VK) (k : D → Prop), Ok z X H0 H σ env →
  (∀ d v H', Evo z H H' → Rel m z X H H' σ env v d → k d → Q v H') → p env k → t σ H Q
def RT (t : TT) (p : PTs') : Prop := ∀ (z : Zn) (X : AP) (H0 H : Hp) (σ : Sl) (env : List SV) (Q : Bool → Hp → Prop) (k : Bool → Prop), Ok z X H0 H σ env →
  (∀ b H', Evo z H H' → k b → Q b H') → p env k → t σ H Q
/-- arguments: plain (l = true), or for a look only -/
def RA (l : Bool) (t : TA) (p : PAs) : Prop := ∀ (z : Zn) (X : AP) (H0 H : Hp) (σ : Sl) (env : List SV) (Q : List V → Hp → Prop) (k : List D → Prop), Ok z X H0 H σ env →
  (∀ ds vs H', Evo z H H' → IsA z (if l = true then Ms z X σ env else Zx z X) H' vs ds → k ds → Q vs H') → p env k → t σ H Q
structure E (m : Mode) (C : Cx) (e : Expr) (p : PX) : Prop where
  ex : ∃ t, PE C e t ∧ RE m t p
structure T (C : Cx) (e : Expr) (p : PTs') : Prop where
  ex : ∃ t, PT C e t ∧ RT t p
structure W (C : Cx) (e : Expr) (p : PTs') : Prop where
  ex : ∃ t, PW C e t ∧ RT t p
structure A (l : Bool) (C : Cx) (es : List Expr) (p : PAs) : Prop where
  ex : ∃ t, PA C es t ∧ RA l t p

section
variable {C : Cx} {e a b : Expr} {p q : PX} {m m' : Mode} {pos : Pos}
theorem E.toB (h : E m C e p) : E .b C e p := by
  obtain ⟨t, h1, h2⟩ := h
  exact ⟨t, h1, fun z X H0 H σ env Q k o c hp => h2 z X H0 H σ env Q k o (fun d v H' ev r kd => c d v H' ev (r.toB o) kd) hp⟩
theorem E.fe (h : E .f C e p) : E .e C e p := by
  obtain ⟨t, h1, h2⟩ := h
  exact ⟨t, h1, fun z X H0 H σ env Q k o c hp => h2 z X H0 H σ env Q k o (fun d v H' ev r kd => c d v H' ev (r.fe o) kd) hp⟩
theorem E.ec (h : E .e C e p) : E .c C e p := by
  obtain ⟨t, h1, h2⟩ := h
  exact ⟨t, h1, fun z X H0 H σ env Q k o c hp => h2 z X H0 H σ env Q k o (fun d v H' ev r kd => c d v H' ev r.ec kd) hp⟩

/-! ### names, constants -/
def eC (d : D) : PX := fun _ k => k d
def eV (i : Nat) : PX := fun env k => match env[i]? with
  | some (.val d) => k d
  | _ => False
def eO (i : Nat) : PX := fun env k => match env[i]? with
  | some (.own (.lst xs)) => k (.lst xs)
  | some (.own (.dic xs)) => k (.dic xs)
  | some (.own (.dpr xs)) => k (.dpr xs)
  | some (.own (.st xs)) => k (.st xs)
  | some (.own (.bor xs)) => k (.lst xs)
  | _ => False
theorem re_c {v : V} {d : D} (h : ∀ z M H, Is z M H v d) : RE .e (tC v) (eC d) := fun z X H0 H σ env Q k o c hp => c d v H (Evo.refl _ _) (h _ _ _) hp
theorem e_int {i : Int} {j} : E .e C (.Constant (.int i) j pos) (eC (.int i)) := ⟨_, pe_int, re_c fun _ _ _ => .int i⟩
theorem e_bl {i : Bool} {j} : E .e C (.Constant (.bool i) j pos) (eC (.bl i)) := ⟨_, pe_bl, re_c fun _ _ _ => .bl i⟩
theorem e_non {j} : E .e C (.Constant .none j pos) (eC .non) := ⟨_, pe_non, re_c fun _ _ _ => .non⟩
theorem e_str {i : Str} {j} : E .e C (.Constant (.str i) j pos) (eC (.str i)) := ⟨_, pe_str, re_c fun _ _ _ => .str i⟩
theorem e_gint {x : Str} {i : Int} {t : Tok} (hg : Gl C x) (hm : C.mg x = some (.int i t)) (hd : (x == ("__debug__" : Str)) = false := by decide) : E .e C (.Name x pos) (eC (.int i)) := ⟨_, pe_glob (v := .int i) hg hm ⟨_, rfl⟩ hd, re_c fun _ _ _ => .int i⟩
theorem e_gstr {x : Str} {i : Str} {t : Tok} (hg : Gl C x) (hm : C.mg x = some (.str i t)) (hd : (x == ("__debug__" : Str)) = false := by decide) : E .e C (.Name x pos) (eC (.str i)) := ⟨_, pe_glob (v := .str i) hg hm ⟨_, rfl⟩ hd, re_c fun _ _ _ => .str i⟩
theorem e_ty {x : Str} {n : String} (hg : Gl C x) (hm : C.mg x = none) (hv : bootBuiltins x = some (.type n)) (hn : x ≠ "__name__" := by decide) (hd : (x == ("__debug__" : Str)) = false := by decide) : E .e C (.Name x pos) (eC (.ty n)) :=
  ⟨_, pe_bltn (v := .ty n) hg hm hv rfl hn hd, re_c fun _ _ _ => .ty n⟩
theorem re_v (i : Nat) : RE .e (tVar i) (eV i) := fun z X H0 H σ env Q k o c hp => by
  unfold eV at hp
  split at hp
  · rename_i d he
    obtain ⟨v, h1, h2⟩ := o.val i d he
    exact ⟨v, h1, c d v H (Evo.refl _ _) h2 hp⟩
  · exact hp.elim
theorem re_o (i : Nat) : RE .c (tVar i) (eO i) := fun z X H0 H σ env Q k o c hp => by
  unfold eO at hp
  split at hp
  · rename_i xs he
    obtain ⟨a, h1, h2, h3, h4⟩ := o.own i _ he
    exact ⟨_, h1, c _ _ H (Evo.refl _ _) (.inr ⟨a, rfl, h2, fun q => q.elim h3 h4.1, rfl⟩) hp⟩
  · rename_i xs he
    obtain ⟨a, h1, h2, h3, h4⟩ := o.own i _ he
    exact ⟨_, h1, c _ _ H (Evo.refl _ _) (.inr ⟨a, rfl, h2, fun q => q.elim h3 h4.1, rfl⟩) hp⟩
  · rename_i xs he
    obtain ⟨a, h1, h2, h3, h4⟩ := o.own i _ he
    exact ⟨_, h1, c _ _ H (Evo.refl _ _) (.inr ⟨a, rfl, h2, fun q => q.elim h3 h4.1, rfl⟩) hp⟩
  · rename_i xs he
    obtain ⟨a, h1, h2, h3, h4⟩ := o.own i _ he
    exact ⟨_, h1, c _ _ H (Evo.refl _ _) (.inr ⟨a, rfl, h2, fun q => q.elim h3 h4.1, rfl⟩) hp⟩
  · rename_i xs he
    obtain ⟨a, h1, h2, h3, h4⟩ := o.own i _ he
    exact ⟨_, h1, c (.lst xs) _ H (Evo.refl _ _) (.inr ⟨a, rfl, h2.2, fun q => q.elim h3 h4.1, rfl⟩) hp⟩
  · exact hp.elim
theorem e_v (i : Nat) {x : Str} (hN : C.N[i]? = some x := by rfl) (hv : Vis C.env.scope x := by first | exact Or.inl rfl | exact Or.inr (Or.inl rfl) | exact Or.inr (Or.inr rfl)) (hd : (x == ("__debug__" : Str)) = false := by decide)
    (hcd : (x == ("__classdict__" : Str)) = false := by decide) : E .e C (.Name x pos) (eV i) := ⟨_, pe_var hN hv hd hcd, re_v i⟩
theorem e_o (i : Nat) {x : Str} (hN : C.N[i]? = some x := by rfl) (hv : Vis C.env.scope x := by first | exact Or.inl rfl | exact Or.inr (Or.inl rfl) | exact Or.inr (Or.inr rfl)) (hd : (x == ("__debug__" : Str)) = false := by decide)
    (hcd : (x == ("__classdict__" : Str)) = false := by decide) : E .c C (.Name x pos) (eO i) := ⟨_, pe_var hN hv hd hcd, re_o i⟩

/-! ### operators, by values -/
/-- the pure operation g stands for r: operands of mode mi, the answer of mode mo -/
def OpD (mi mo : Mode) (r : R2) (g : D → D → (D → Prop) → Prop) : Prop := ∀ (z : Zn) (X : AP) (H0 H : Hp) (σ : Sl) (env : List SV) (v u : V) (x y : D) (Q : VK) (k : D → Prop), Ok z X H0 H σ env → Rel mi z X H H σ env v x → Rel mi z X H H σ env u y →
  (∀ d w H', Evo z H H' → Rel mo z X H H' σ env w d → k d → Q w H') → g x y k → r v u H Q
def eOp (g : D → D → (D → Prop) → Prop) (p q : PX) : PX := fun env k => p env fun x => q env fun y => g x y k
theorem RE.op {mi mo : Mode} {r : R2} {g : D → D → (D → Prop) → Prop} {ta tb : TE} (hm : mi ≠ .f) (ho : OpD mi mo r g) (ha : RE mi ta p) (hb : RE mi tb q) : RE mo (tOp r ta tb) (eOp g p q) := fun z X H0 H σ env Q k o c hp => by
  refine ha z X H0 H σ env _ _ o (fun x v H1 e1 r1 hp1 => ?_) hp
  refine hb z X H0 H1 σ env _ _ (o.go e1) (fun y u H2 e2 r2 hp2 => ?_) hp1
  refine ho z X H0 H2 σ env v u x y Q k ((o.go e1).go e2) ((r1.evo o e2 e1).later hm) (r2.later hm) (fun d w H3 e3 r3 kd => ?_) hp2
  exact c d w H3 (e1.trans (e2.trans e3)) (r3.early (e1.trans e2)) kd
theorem e_op {mi mo : Mode} {op : Operator} {r : R2} {g : D → D → (D → Prop) → Prop} (hr : OpR C (binaryOp op) r) (ho : OpD mi mo r g) (ha : E mi C a p) (hb : E mi C b q) (hm : mi ≠ .f := by decide) : E mo C (.BinOp a op b pos) (eOp g p q) := by
  obtain ⟨ta, a1, a2⟩ := ha
  obtain ⟨tb, b1, b2⟩ := hb
  exact ⟨_, pe_op hr a1 b1, RE.op hm ho a2 b2⟩
theorem e_cmp {mi mo : Mode} {op : CmpOp} {r : R2} {g : D → D → (D → Prop) → Prop} (hr : OpR C (compareOp op) r) (ho : OpD mi mo r g) (ha : E mi C a p) (hb : E mi C b q) (hk : behindInMarks op b = false) (hm : mi ≠ .f := by decide) : E mo C (.Compare a [op] [b] pos) (eOp g p q) := by
  obtain ⟨ta, a1, a2⟩ := ha
  obtain ⟨tb, b1, b2⟩ := hb
  exact ⟨_, pe_cmpR hr a1 b1 hk, RE.op hm ho a2 b2⟩
/-- a value that is a truth, as a test -/
def blK (d : D) (k : Bool → Prop) : Prop := match d with
  | .bl b => k b
  | _ => False
def tOf (p : PX) : PTs' := fun env k => p env fun d => blK d k
theorem RT.of {t : TE} (h : RE .b t p) : RT (tTest t) (tOf p) := fun z X H0 H σ env Q k o c hp => by
  refine h z X H0 H σ env _ _ o (fun d v H' e r hd => ?_) hp
  cases d with
  | bl b =>
    cases (show Is z _ H' v (.bl b) from r)
    exact ⟨b, rfl, c b H' e hd⟩
  | _ => exact (show False from hd).elim
theorem t_cmp {mi : Mode} {op : CmpOp} {r : R2} {g : D → D → (D → Prop) → Prop} (hr : OpR C (compareOp op) r) (ho : OpD mi .b r g) (ha : E mi C a p) (hb : E mi C b q) (hk : behindInMarks op b = false) (hm : mi ≠ .f := by decide) : T C (.Compare a [op] [b] pos) (tOf (eOp g p q)) := by
  obtain ⟨ta, a1, a2⟩ := ha
  obtain ⟨tb, b1, b2⟩ := hb
  exact ⟨_, pt_cmpR hr a1 b1 hk, RT.of (RE.op hm ho a2 b2)⟩
theorem t_val (h : E m C e p) (he : ∀ whole, isTrue e C.env whole = (do let v ← whole; standAt e.pos; holding [v] (truthy v)) := by intro _; rfl) : T C e (tOf p) := by
  obtain ⟨t, h1, h2⟩ := h.toB
  exact ⟨_, pt_val h1 he, RT.of h2⟩
/-- a op b op' c -/
def bCase (d : D) (A B : Prop) : Prop := match d with
  | .bl true => A
  | .bl false => B
  | _ => False
def eChain (g g' : D → D → (D → Prop) → Prop) (p q r : PX) : PX := fun env k => p env fun x => q env fun y => g x y fun w => bCase w (r env fun u => g' y u k) (k (.bl false))
theorem RE.chain {s : PX} {r r' : R2} {g g' : D → D → (D → Prop) → Prop} {ta tb tc : TE} (ho : OpD .b .b r g) (ho' : OpD .b .e r' g') (ha : RE .b ta p) (hb : RE .b tb q) (hc : RE .b tc s) : RE .e (tChain r r' ta tb tc) (eChain g g' p q s) := fun z X H0 H σ env Q k o c hp => by
  refine ha z X H0 H σ env _ _ o (fun x v H1 e1 r1 hp1 => ?_) hp
  refine hb z X H0 H1 σ env _ _ (o.go e1) (fun y u H2 e2 r2 hp2 => ?_) hp1
  have o2 := (o.go e1).go e2
  refine ho z X H0 H2 σ env v u x y _ _ o2 ((r1.evo o e2 e1).later (by decide)) (r2.later (by decide)) (fun d w H3 e3 r3 kd => ?_) hp2
  cases d with
  | bl b =>
    cases (show Is z _ H3 w (.bl b) from r3)
    refine ⟨b, rfl, ?_⟩
    cases b with
    | false =>
      rw [if_neg Bool.false_ne_true]
      exact c _ _ H3 (e1.trans (e2.trans e3)) (Is.bl false) kd
    | true =>
      rw [if_pos rfl]
      refine hc z X H0 H3 σ env _ _ (o2.go e3) (fun l w H4 e4 r4 hp4 => ?_) kd
      refine ho' z X H0 H4 σ env u w y l Q k ((o2.go e3).go e4) ((r2.evo (o.go e1) (e3.trans e4) e2).later (by decide)) (r4.later (by decide)) (fun d x H5 e5 r5 kd => ?_) hp4
      exact c d x H5 (e1.trans (e2.trans (e3.trans (e4.trans e5)))) r5 kd
  | _ => exact (show False from kd).elim
theorem e_chain {c : Expr} {s : PX} {op op' : CmpOp} {r r' : R2} {g g' : D → D → (D → Prop) → Prop} (hr : OpR C (compareOp op) r) (hr' : OpR C (compareOp op') r') (ho : OpD .b .b r g) (ho' : OpD .b .e r' g') (ha : E .b C a p) (hb : E .b C b q) (hc : E .b C c s)
    (hm : lastMarks [op, op'] [b, c] = false := by with_unfolding_all rfl) : E .e C (.Compare a [op, op'] [b, c] pos) (eChain g g' p q s) := by
  obtain ⟨ta, a1, a2⟩ := ha
  obtain ⟨tb, b1, b2⟩ := hb
  obtain ⟨tc, c1, c2⟩ := hc
  exact ⟨_, pe_chain hr hr' a1 b1 c1 hm, RE.chain ho ho' a2 b2 c2⟩
theorem t_chain {c : Expr} {s : PX} {op op' : CmpOp} {r r' : R2} {g g' : D → D → (D → Prop) → Prop} (hr : OpR C (compareOp op) r) (hr' : OpR C (compareOp op') r') (ho : OpD .b .b r g) (ho' : OpD .b .e r' g') (ha : E .b C a p) (hb : E .b C b q) (hc : E .b C c s)
    (hm : lastMarks [op, op'] [b, c] = false := by with_unfolding_all rfl) : T C (.Compare a [op, op'] [b, c] pos) (tOf (eChain g g' p q s)) := by
  obtain ⟨ta, a1, a2⟩ := ha
  obtain ⟨tb, b1, b2⟩ := hb
  obtain ⟨tc, c1, c2⟩ := hc
  exact ⟨_, pt_chain hr hr' a1 b1 c1 hm, RT.of (fun z X H0 H σ env Q k o c hp => RE.chain ho ho' a2 b2 c2 z X H0 H σ env Q k o (fun d v H' ev r kd => c d v H' ev r.eb kd) hp)⟩

/-! whole numbers -/
def dII (Cc : Int → Int → Prop) (g : Int → Int → D) : D → D → (D → Prop) → Prop := fun x y k => match x, y with
  | .int i, .int j => Cc i j ∧ k (g i j)
  | _, _ => False
def dI0 (g : Int → Int → D) : D → D → (D → Prop) → Prop := fun x y k => match x, y with
  | .int i, .int j => k (g i j)
  | _, _ => False
theorem Is.intI {z : Zn} {M : AP} {H : Hp} {v : V} {i : Int} (h : Is z M H v (.int i)) : v = .int i := by cases h; rfl
theorem opd_II {Cc : Int → Int → Prop} {g : Int → Int → D} {g' : Int → Int → V} (h : ∀ i j z M H, Is z M H (g' i j) (g i j)) : OpD .b .e (rI Cc g') (dII Cc g) := fun z X H0 H σ env v u x y Q k o r1 r2 c hp => by
  cases x with
  | int i =>
    cases y with
    | int j => exact ⟨i, j, Is.intI r1, Is.intI r2, hp.1, c _ _ H (Evo.refl _ _) (h i j _ _ _) hp.2⟩
    | _ => exact (show False from hp).elim
  | _ => exact (show False from hp).elim
theorem opd_I0 {g : Int → Int → D} {g' : Int → Int → V} (h : ∀ i j z M H, Is z M H (g' i j) (g i j)) : OpD .b .e (rI0 g') (dI0 g) := fun z X H0 H σ env v u x y Q k o r1 r2 c hp => by
  cases x with
  | int i =>
    cases y with
    | int j => exact ⟨i, j, Is.intI r1, Is.intI r2, c _ _ H (Evo.refl _ _) (h i j _ _ _) hp⟩
    | _ => exact (show False from hp).elim
  | _ => exact (show False from hp).elim
theorem OpD.eb {mi : Mode} {r : R2} {g : D → D → (D → Prop) → Prop} (h : OpD mi .e r g) : OpD mi .b r g := fun z X H0 H σ env v u x y Q k o r1 r2 c hp => h z X H0 H σ env v u x y Q k o r1 r2 (fun d w H' e r kd => c d w H' e r.eb kd) hp
abbrev dSub := dI0 fun i j => .int (i - j)
abbrev dMul := dII CMul fun i j => .int (i * j)
abbrev dDiv := dII CDiv fun i j => .int (i / j)
abbrev dMod := dII (fun _ j => 0 < j) fun i j => .int (i % j)
abbrev dPow := dII CPow fun i j => .int (i ^ j.toNat)
abbrev dLt := dI0 fun i j => .bl (decide (i < j))
abbrev dLe := dI0 fun i j => .bl (decide (i ≤ j))
abbrev dGt := dI0 fun i j => .bl (decide (j < i))
abbrev dGe := dI0 fun i j => .bl (decide (j ≤ i))
theorem opd_sub : OpD .b .e (rI0 fun i j => .int (i - j)) dSub := opd_I0 fun i j _ _ _ => .int _
theorem opd_mul : OpD .b .e (rI CMul fun i j => .int (i * j)) dMul := opd_II fun i j _ _ _ => .int _
theorem opd_div : OpD .b .e (rI CDiv fun i j => .int (i / j)) dDiv := opd_II fun i j _ _ _ => .int _
theorem opd_mod : OpD .b .e (rI (fun _ j => 0 < j) fun i j => .int (i % j)) dMod := opd_II fun i j _ _ _ => .int _
theorem opd_pow : OpD .b .e (rI CPow fun i j => .int (i ^ j.toNat)) dPow := opd_II fun i j _ _ _ => .int _
theorem opd_lt : OpD .b .e (rI0 fun i j => .bl (decide (i < j))) dLt := opd_I0 fun i j _ _ _ => .bl _
theorem opd_le : OpD .b .e (rI0 fun i j => .bl (decide (i ≤ j))) dLe := opd_I0 fun i j _ _ _ => .bl _
theorem opd_gt : OpD .b .e (rI0 fun i j => .bl (decide (j < i))) dGt := opd_I0 fun i j _ _ _ => .bl _
theorem opd_ge : OpD .b .e (rI0 fun i j => .bl (decide (j ≤ i))) dGe := opd_I0 fun i j _ _ _ => .bl _
def eUn (g : D → (D → Prop) → Prop) (p : PX) : PX := fun env k => p env fun x => g x k
def dNeg : D → (D → Prop) → Prop := fun x k => match x with
  | .int i => k (.int (-i))
  | _ => False
theorem e_neg (ha : E m C a p) : E .e C (.UnaryOp .USub a pos) (eUn dNeg p) := by
  obtain ⟨t, h1, h2⟩ := ha.toB
  refine ⟨_, pe_un un_neg h1, fun z X H0 H σ env Q k o c hp => h2 z X H0 H σ env _ _ o (fun d v H' e r hd => ?_) hp⟩
  cases d with
  | int i => exact ⟨i, Is.intI r, c _ _ H' e (Is.int _) hd⟩
  | _ => exact (show False from hd).elim
end

/-! + -/
/-- of two rules one -/
theorem opr_or {C : Cx} {f : Value → Value → Sem Value} {r r' : R2} (h : OpR C f r) (h' : OpR C f r') : OpR C f (fun x y H Q => r x y H Q ∨ r' x y H Q) := fun pins s σ H x y v u Q I rx ry q => q.elim (h pins s σ H x y v u Q I rx ry) (h' pins s σ H x y v u Q I rx ry)
def rAddA (K : PySem.W.Frag) : R2 := fun x y H Q => (rI0 fun i j => .int (i + j)) x y H Q ∨ (rCatA K x y H Q ∨ (rCat x y H Q ∨ (∃ i j, x = .str i ∧ y = .str j ∧ i.length + j.length ≤ sizeLine ∧ Q (.str (i ++ j)) H)))
theorem op_addA {C : Cx} : OpR C (binaryOp .Add) (rAddA C.K) := opr_or op_add (opr_or op_catA (opr_or op_cat op_add_str))
def dAdd : D → D → (D → Prop) → Prop := fun x y k => match x, y with
  | .int i, .int j => k (.int (i + j))
  | .tup xs, .tup ys => xs.length + ys.length ≤ 100000 ∧ k (.tup (xs ++ ys))
  | .lst xs, .lst ys => xs.length + ys.length ≤ 100000 ∧ k (.lst (xs ++ ys))
  | .str xs, .str ys => xs.length + ys.length ≤ 100000 ∧ k (.str (xs ++ ys))
  | _, _ => False
theorem sz {n : Nat} (h : n ≤ 100000) : n ≤ sizeLine := Nat.le_trans h (by decide)
section
variable {z : Zn} {X : AP} {H0 H H1 H' : Hp} {σ : Sl} {env : List SV} {v : V} {d : D} {m : Mode} {M : AP}
theorem Rel.conT {xs : List D} (h : Rel .c z X H H' σ env v (.tup xs)) : ∃ a vs, v = .ref a ∧ H' a = some (.tup vs) ∧ IsA z (Ms z X σ env) H' vs xs ∧ ¬ Ms z X σ env a := by
  rcases h with h | ⟨a, rfl, ⟨vs, e, r⟩, n, md⟩
  · cases h with
    | tup e n r => exact ⟨_, _, rfl, e, r, n⟩
  · cases md
theorem Rel.conL {xs : List D} (h : Rel .c z X H H' σ env v (.lst xs)) : ∃ a vs, v = .ref a ∧ H' a = some (.lst vs) ∧ IsA z (Ms z X σ env) H' vs xs ∧ ¬ Zx z X a := by
  rcases h with h | ⟨a, rfl, ⟨vs, e, r⟩, n, md⟩
  · cases h with
    | lst e n r => exact ⟨_, _, rfl, e, r, fun q => n q.ms⟩
  · exact ⟨a, vs, rfl, e, r, n⟩
theorem Rel.strC {s : Str} (h : Rel .c z X H H' σ env v (.str s)) : v = .str s := by
  rcases h with h | ⟨a, _, hc, _⟩
  · cases h; rfl
  · exact hc.elim
theorem Rel.intC {s : Int} (h : Rel .c z X H H' σ env v (.int s)) : v = .int s := by
  rcases h with h | ⟨a, _, hc, _⟩
  · cases h; rfl
  · exact hc.elim
/-- parts of something that stood ahead of a new thing at a -/
theorem IsA.newer {a : Addr} {o : HO} {vs : List V} {ds : List D} (ha : H a = none) (h : IsA z (Ms z X σ env) H vs ds) : IsA z (Ms z (X.or a) σ env) (upd H a o) vs ds :=
  h.gen (fun b u q n => ⟨by rw [upd_ne (ne_of_none q ha)]; exact q, fun x => by
    rcases x with x | (x | x) | x
    · exact n (.inl x)
    · exact n (.inr (.inl x))
    · rw [x, ha] at q; cases q
    · exact n (.inr (.inr x))⟩) fun _ h => ok_new ha h
theorem Rel.newL {a : Addr} {vs : List V} {ds : List D} (hn : H a = none) (ha : H' a = none) (h : IsA z (Ms z X σ env) H' vs ds) : Rel .f z X H (upd H' a (.lst vs)) σ env (.ref a) (.lst ds) :=
  ⟨a, rfl, hn, vs, upd_same, h.newer ha⟩
theorem Rel.newT {a : Addr} {vs : List V} {ds : List D} (hn : H a = none) (ha : H' a = none) (h : IsA z (Ms z X σ env) H' vs ds) : Rel .f z X H (upd H' a (.tup vs)) σ env (.ref a) (.tup ds) :=
  ⟨a, rfl, hn, vs, upd_same, h.newer ha⟩
end
theorem opd_add {K : PySem.W.Frag} : OpD .c .e (rAddA K) dAdd := fun z X H0 H σ env v u x y Q k o r1 r2 c hp => by
  cases x with
  | int i =>
    cases y with
    | int j => exact .inl ⟨i, j, r1.intC, r2.intC, c _ _ H (Evo.refl _ _) (Is.int _) hp⟩
    | _ => exact (show False from hp).elim
  | str i =>
    cases y with
    | str j => exact .inr (.inr (.inr ⟨i, j, r1.strC, r2.strC, sz hp.1, c _ _ H (Evo.refl _ _) (Is.str _) hp.2⟩))
    | _ => exact (show False from hp).elim
  | tup xs =>
    cases y with
    | tup ys =>
      obtain ⟨a, vs, e1, h1, i1, n1⟩ := r1.conT
      obtain ⟨b, us, e2, h2, i2, n2⟩ := r2.conT
      subst e1 e2
      have l1 := i1.length
      have l2 := i2.length
      refine .inr (.inl ⟨a, b, vs, us, rfl, rfl, SqT.of h1, SqT.of h2, sz (by rw [l1, l2]; exact hp.1), fun e => ?_, fun e1 e => ?_, fun e1 e2 q hq => ?_⟩)
      · subst e
        cases i1
        exact c _ _ H (Evo.refl _ _) (Is.tup h2 n2 i2) hp.2
      · subst e
        cases i2
        have hp2 := hp.2
        rw [List.append_nil] at hp2
        exact c _ _ H (Evo.refl _ _) (Is.tup h1 n1 i1) hp2
      · exact c _ _ _ ((Evo.refl _ _).new hq) ((Rel.newT hq hq (i1.append i2)).fe o) hp.2
    | _ => exact (show False from hp).elim
  | lst xs =>
    cases y with
    | lst ys =>
      obtain ⟨a, vs, e1, h1, i1, n1⟩ := r1.conL
      obtain ⟨b, us, e2, h2, i2, n2⟩ := r2.conL
      subst e1 e2
      refine .inr (.inr (.inl ⟨a, b, vs, us, rfl, rfl, h1, h2, sz (by rw [i1.length, i2.length]; exact hp.1), fun q hq => ?_⟩))
      exact c _ _ _ ((Evo.refl _ _).new hq) ((Rel.newL hq hq (i1.append i2)).fe o) hp.2
    | _ => exact (show False from hp).elim
  | _ => exact (show False from hp).elim
end Pu

namespace Pu
open PySem PySem.Spec PyProof.Rows L2
variable [Tbs]
section
variable {C : Cx} {e a b : Expr} {p q : PX} {m m' : Mode} {pos : Pos}

/-! ### ==, in, is -/
def EqV (x y : D) (c : Bool) : Prop := shp 60 x = true ∧ shp 60 y = true ∧ eqvD x y = c
def dEq : D → D → (D → Prop) → Prop := fun x y k => ∃ c, EqV x y c ∧ k (.bl c)
def dNe : D → D → (D → Prop) → Prop := fun x y k => ∃ c, EqV x y c ∧ k (.bl (!c))
theorem opd_eq {K : PySem.W.Frag} : OpD .b .e (rEqD K) dEq := fun z X H0 H σ env v u x y Q k o r1 r2 c hp => by
  obtain ⟨b, ⟨h1, h2, h3⟩, hk⟩ := hp
  exact ⟨_, _, Is.dp r1 h1, Is.dp r2 h2, shaped_of h1, shaped_of h2, by rw [show PyData.eqv (pd x) (pd y) = b from h3]; exact c _ _ H (Evo.refl _ _) (Is.bl _) hk⟩
theorem opd_ne {K : PySem.W.Frag} : OpD .b .e (rNeD K) dNe := fun z X H0 H σ env v u x y Q k o r1 r2 c hp => by
  obtain ⟨b, ⟨h1, h2, h3⟩, hk⟩ := hp
  exact ⟨_, _, Is.dp r1 h1, Is.dp r2 h2, shaped_of h1, shaped_of h2, by rw [show PyData.eqv (pd x) (pd y) = b from h3]; exact c _ _ H (Evo.refl _ _) (Is.bl _) hk⟩
/-- is None; truths -/
def isD (x y : D) : Option Bool := match x, y with
  | .non, .non => some true
  | .bl a, .bl b => some (decide (a = b))
  | _, .non => some false
  | _, _ => none
def dIs (neg : Bool) : D → D → (D → Prop) → Prop := fun x y k => match x, y with
  | .non, .non => k (.bl (neg ^^ true))
  | .bl a, .bl b => k (.bl (neg ^^ decide (a = b)))
  | _, .non => k (.bl neg)
  | _, _ => False
def rIsA : R2 := fun x y H Q => (y = .non ∧ Q (.bl (decide (x = .non))) H) ∨ (∃ a b, x = .bl a ∧ y = .bl b ∧ Q (.bl (decide (a = b))) H)
def rIsNA : R2 := fun x y H Q => (y = .non ∧ Q (.bl (!decide (x = .non))) H) ∨ (∃ a b, x = .bl a ∧ y = .bl b ∧ Q (.bl (!decide (a = b))) H)
theorem op_isA : OpR C (compareOp .Is) rIsA := opr_or op_isN op_is_bl
theorem op_isNA : OpR C (compareOp .IsNot) rIsNA := opr_or op_notN op_isnot_bl
theorem Is.notNon {z : Zn} {M : AP} {H : Hp} {v : V} {d : D} (h : Is z M H v d) (hd : d ≠ .non) : v ≠ .non := by
  cases h <;> first | exact absurd rfl hd | (intro q; cases q)
theorem opd_is : OpD .b .e rIsA (dIs false) := fun z X H0 H σ env v u x y Q k o r1 r2 c hp => by
  cases y with
  | non =>
    cases (show Is z _ H u .non from r2)
    refine .inl ⟨rfl, ?_⟩
    by_cases hx : x = .non
    · subst hx
      cases (show Is z _ H v .non from r1)
      exact c _ _ H (Evo.refl _ _) (Is.bl _) hp
    · rw [decide_eq_false (Is.notNon r1 hx)]
      refine c (.bl false) _ H (Evo.refl _ _) (Is.bl _) ?_
      cases x <;> first | exact absurd rfl hx | exact hp
  | bl b =>
    cases x with
    | bl a =>
      cases (show Is z _ H u _ from r2)
      cases (show Is z _ H v _ from r1)
      exact .inr ⟨a, b, rfl, rfl, c _ _ H (Evo.refl _ _) (Is.bl _) (by simpa [dIs] using hp)⟩
    | _ => exact (show False from hp).elim
  | _ => cases x <;> exact (show False from hp).elim
theorem opd_isN : OpD .b .e rIsNA (dIs true) := fun z X H0 H σ env v u x y Q k o r1 r2 c hp => by
  cases y with
  | non =>
    cases (show Is z _ H u .non from r2)
    refine .inl ⟨rfl, ?_⟩
    by_cases hx : x = .non
    · subst hx
      cases (show Is z _ H v .non from r1)
      exact c _ _ H (Evo.refl _ _) (Is.bl _) hp
    · rw [decide_eq_false (Is.notNon r1 hx)]
      refine c (.bl true) _ H (Evo.refl _ _) (Is.bl _) ?_
      cases x <;> first | exact absurd rfl hx | exact hp
  | bl b =>
    cases x with
    | bl a =>
      cases (show Is z _ H u _ from r2)
      cases (show Is z _ H v _ from r1)
      exact .inr ⟨a, b, rfl, rfl, c _ _ H (Evo.refl _ _) (Is.bl _) (by simpa [dIs] using hp)⟩
    | _ => exact (show False from hp).elim
  | _ => cases x <;> exact (show False from hp).elim
/-- a number among numbers -/
def intsD : List D → Option (List Int)
  | [] => some []
  | .int i :: r => (intsD r).map (i :: ·)
  | _ => none
theorem intsD_eq : ∀ {ds : List D} {ns : List Int}, intsD ds = some ns → ds = ns.map D.int
  | [], _, h => by cases h; rfl
  | .int i :: r, ns, h => by
    unfold intsD at h
    cases e : intsD r with
    | none => rw [e] at h; cases h
    | some z => rw [e] at h; cases h; rw [intsD_eq e]; rfl
  | .non :: _, _, h => by cases h
  | .bl _ :: _, _, h => by cases h
  | .str _ :: _, _, h => by cases h
  | .ty _ :: _, _, h => by cases h
  | .tup _ :: _, _, h => by cases h
  | .lst _ :: _, _, h => by cases h
  | .dic _ :: _, _, h => by cases h
  | .deck _ :: _, _, h => by cases h
  | .dpr _ :: _, _, h => by cases h
  | .dfz _ :: _, _, h => by cases h
  | .st _ :: _, _, h => by cases h
  | .bor _ :: _, _, h => by cases h
theorem intsD_map : ∀ ns : List Int, intsD (ns.map D.int) = some ns
  | [] => rfl
  | n :: ns => by show (intsD (ns.map D.int)).map (n :: ·) = _; rw [intsD_map ns]; rfl
theorem inI {x : Int} {xs : List Int} : inV (.int x) (xs.map V.int) = decide (x ∈ xs) := by
  induction xs with
  | nil => rfl
  | cons y r ih =>
    have e : inV (.int x) ((y :: r).map V.int) = (eqV (.int y) (.int x) || inV (.int x) (r.map V.int)) := rfl
    rw [e, ih]
    have e2 : eqV (.int y) (.int x) = decide (y = x) := by
      show (y == x) = _
      by_cases h : y = x
      · simp [h]
      · simp [h]
    rw [e2]
    by_cases h : y = x
    · simp [h]
    · have h' : ¬ x = y := fun e => h e.symm
      simp [h, h']
def seqD : D → Option (List D)
  | .tup xs => some xs
  | .lst xs => some xs
  | _ => none
def dIn (neg : Bool) : D → D → (D → Prop) → Prop := fun x y k => ∃ i ds ns, x = .int i ∧ seqD y = some ds ∧ intsD ds = some ns ∧ k (.bl (if neg then !decide (i ∈ ns) else decide (i ∈ ns)))
theorem flatInts : ∀ ns : List Int, (ns.map V.int).all flatV = true
  | [] => rfl
  | n :: ns => by simp only [List.map_cons, List.all_cons, flatInts ns, Bool.and_true]; rfl
theorem opd_in {K : PySem.W.Frag} {neg : Bool} : OpD .b .e (rIn K neg) (dIn neg) := fun z X H0 H σ env v u x y Q k o r1 r2 c hp => by
  obtain ⟨i, ds, ns, rfl, hs, hi, hk⟩ := hp
  cases Is.intI r1
  cases intsD_eq hi
  have fin : ∀ vs : List V, IsA z (Zx z X) H vs (ns.map D.int) → Q (.bl (if neg then !inV (.int i) vs else inV (.int i) vs)) H := fun vs h => by
    rw [h.ints, inI]
    exact c _ _ H (Evo.refl _ _) (Is.bl _) hk
  cases y with
  | tup xs =>
    cases hs
    cases (show Is z _ H u _ from r2) with
    | tup e n r => exact ⟨_, _, rfl, .inr (SqT.of e), rfl, by rw [r.ints]; exact flatInts ns, fin _ r⟩
  | lst xs =>
    cases hs
    cases (show Is z _ H u _ from r2) with
    | lst e n r => exact ⟨_, _, rfl, .inl (SqL.of e), rfl, by rw [r.ints]; exact flatInts ns, fin _ r⟩
  | _ => cases hs

/-! ### tests, and, or, not, if -/
variable {s t : PTs'} {rest : List Expr}
def tAndP (s t : PTs') : PTs' := fun env k => s env fun x => if x = true then t env k else k false
def tOrP (s t : PTs') : PTs' := fun env k => s env fun x => if x = true then k true else t env k
def tNotP (s : PTs') : PTs' := fun env k => s env fun x => k (!x)
theorem w_t (h : W C e s) : T C e s := let ⟨t, h1, h2⟩ := h; ⟨t, h1.pt, h2⟩
theorem w_and1 (h : T C a s) : W C (.BoolOp .And [a] pos) s := let ⟨t, h1, h2⟩ := h; ⟨t, pw_and1 h1, h2⟩
theorem w_or1 (h : T C a s) : W C (.BoolOp .Or [a] pos) s := let ⟨t, h1, h2⟩ := h; ⟨t, pw_or1 h1, h2⟩
theorem w_and (h : T C a s) (g : W C (.BoolOp .And (b :: rest) pos) t) : W C (.BoolOp .And (a :: b :: rest) pos) (tAndP s t) := by
  obtain ⟨t1, h1, h2⟩ := h
  obtain ⟨t2, g1, g2⟩ := g
  refine ⟨_, pw_and h1 g1, fun z X H0 H σ env Q k o c hp => h2 z X H0 H σ env _ _ o (fun x H1 e1 hx => ?_) hp⟩
  cases x with
  | true => exact g2 z X H0 H1 σ env Q k (o.go e1) (fun y H2 e2 hy => c y H2 (e1.trans e2) hy) hx
  | false => exact c false H1 e1 hx
theorem w_or (h : T C a s) (g : W C (.BoolOp .Or (b :: rest) pos) t) : W C (.BoolOp .Or (a :: b :: rest) pos) (tOrP s t) := by
  obtain ⟨t1, h1, h2⟩ := h
  obtain ⟨t2, g1, g2⟩ := g
  refine ⟨_, pw_or h1 g1, fun z X H0 H σ env Q k o c hp => h2 z X H0 H σ env _ _ o (fun x H1 e1 hx => ?_) hp⟩
  cases x with
  | false => exact g2 z X H0 H1 σ env Q k (o.go e1) (fun y H2 e2 hy => c y H2 (e1.trans e2) hy) hx
  | true => exact c true H1 e1 hx
theorem t_not (h : T C a s) : T C (.UnaryOp .Not a pos) (tNotP s) := by
  obtain ⟨t1, h1, h2⟩ := h
  exact ⟨_, pt_not h1, fun z X H0 H σ env Q k o c hp => h2 z X H0 H σ env _ _ o (fun x H1 e1 hx => c _ H1 e1 hx) hp⟩
/-- values -/
def eAnd (p q : PX) : PX := fun env k => p env fun x => bCase x (q env k) (k (.bl false))
def eOr (p q : PX) : PX := fun env k => p env fun x => bCase x (k (.bl true)) (q env k)
def dNot : D → (D → Prop) → Prop := fun x k => match x with
  | .bl c => k (.bl (!c))
  | _ => False
theorem e_one {op} (h : E m C a p) : E m C (.BoolOp op [a] pos) p := let ⟨t, h1, h2⟩ := h; ⟨t, pe_one h1, h2⟩
theorem e_and (h : E m C a p) (g : E .e C (.BoolOp .And (b :: rest) pos) q) : E .e C (.BoolOp .And (a :: b :: rest) pos) (eAnd p q) := by
  obtain ⟨t1, h1, h2⟩ := h.toB
  obtain ⟨t2, g1, g2⟩ := g
  refine ⟨_, pe_and h1 g1, fun z X H0 H σ env Q k o c hp => h2 z X H0 H σ env _ _ o (fun d v H1 e1 r1 hx => ?_) hp⟩
  cases d with
  | bl x =>
    cases (show Is z _ H1 v _ from r1)
    refine ⟨x, rfl, ?_⟩
    cases x with
    | true => rw [if_pos rfl]; exact g2 z X H0 H1 σ env Q k (o.go e1) (fun d v H2 e2 r2 hy => c d v H2 (e1.trans e2) r2 hy) hx
    | false => rw [if_neg Bool.false_ne_true]; exact c _ _ H1 e1 (Is.bl _) hx
  | _ => exact (show False from hx).elim
theorem e_or (h : E m C a p) (g : E .e C (.BoolOp .Or (b :: rest) pos) q) : E .e C (.BoolOp .Or (a :: b :: rest) pos) (eOr p q) := by
  obtain ⟨t1, h1, h2⟩ := h.toB
  obtain ⟨t2, g1, g2⟩ := g
  refine ⟨_, pe_or h1 g1, fun z X H0 H σ env Q k o c hp => h2 z X H0 H σ env _ _ o (fun d v H1 e1 r1 hx => ?_) hp⟩
  cases d with
  | bl x =>
    cases (show Is z _ H1 v _ from r1)
    refine ⟨x, rfl, ?_⟩
    cases x with
    | false => rw [if_neg Bool.false_ne_true]; exact g2 z X H0 H1 σ env Q k (o.go e1) (fun d v H2 e2 r2 hy => c d v H2 (e1.trans e2) r2 hy) hx
    | true => rw [if_pos rfl]; exact c _ _ H1 e1 (Is.bl _) hx
  | _ => exact (show False from hx).elim
theorem e_not (h : E m C a p) : E .e C (.UnaryOp .Not a pos) (eUn dNot p) := by
  obtain ⟨t1, h1, h2⟩ := h.toB
  refine ⟨_, pe_not h1, fun z X H0 H σ env Q k o c hp => h2 z X H0 H σ env _ _ o (fun d v H1 e1 r1 hx => ?_) hp⟩
  cases d with
  | bl x =>
    cases (show Is z _ H1 v _ from r1)
    exact ⟨x, rfl, c _ _ H1 e1 (Is.bl _) hx⟩
  | _ => exact (show False from hx).elim
def eIf (s : PTs') (p q : PX) : PX := fun env k => s env fun x => if x = true then p env k else q env k
theorem e_if {c : Expr} (h : T C c s) (ha : E .e C a p) (hb : E .e C b q) : E .e C (.IfExp c a b pos) (eIf s p q) := by
  obtain ⟨t, h1, h2⟩ := h
  obtain ⟨ta, a1, a2⟩ := ha
  obtain ⟨tb, b1, b2⟩ := hb
  refine ⟨_, pe_ifExp h1 a1 b1, fun z X H0 H σ env Q k o c hp => h2 z X H0 H σ env _ _ o (fun x H1 e1 hx => ?_) hp⟩
  cases x with
  | true => exact a2 z X H0 H1 σ env Q k (o.go e1) (fun d v H2 e2 r2 hy => c d v H2 (e1.trans e2) r2 hy) hx
  | false => exact b2 z X H0 H1 σ env Q k (o.go e1) (fun d v H2 e2 r2 hy => c d v H2 (e1.trans e2) r2 hy) hx
/-- truth of any value -/
def truD : D → Option Bool
  | .non => some false
  | .bl b => some b
  | .int i => some (i != 0)
  | .tup xs => some (!xs.isEmpty)
  | .lst xs => some (!xs.isEmpty)
  | _ => none
def tTru (p : PX) : PTs' := fun env k => p env fun d => ∃ b, truD d = some b ∧ k b
theorem IsA.isEmpty {z : Zn} {M : AP} {H : Hp} {vs : List V} {ds : List D} (h : IsA z M H vs ds) : ds.isEmpty = vs.isEmpty := by cases h <;> rfl
theorem t_tru (h : E m C e p) (he : ∀ whole, isTrue e C.env whole = (do let v ← whole; standAt e.pos; holding [v] (truthy v)) := by intro _; rfl) : T C e (tTru p) := by
  obtain ⟨t, h1, h2⟩ := h.toB
  refine ⟨_, pt_truth h1 he, fun z X H0 H σ env Q k o c hp => h2 z X H0 H σ env _ _ o (fun d v H1 e1 r1 hx => ?_) hp⟩
  obtain ⟨b, hb, hk⟩ := hx
  refine ⟨b, ?_, c b H1 e1 hk⟩
  cases (show Is z _ H1 v d from r1) with
  | non => cases hb; rfl
  | bl b => cases hb; rfl
  | int i => cases hb; rfl
  | tup e n r => cases hb; exact .inr (.inl ⟨_, SqT.of e, by rw [r.isEmpty]⟩)
  | lst e n r => cases hb; exact .inl ⟨_, SqL.of e, by rw [r.isEmpty]⟩
  | _ => cases hb

/-! ### arguments, displays -/
variable {es : List Expr} {l : Bool} {g : PAs}
def lm : Bool → Mode
  | true => .e
  | false => .b
def aNil : PAs := fun _ k => k []
def aCons (p : PX) (g : PAs) : PAs := fun env k => p env fun x => g env fun xs => k (x :: xs)
theorem a_nil : A l C [] aNil := ⟨_, pa_nil, fun z X H0 H σ env Q k o c hp => c [] [] H (Evo.refl _ _) .nil hp⟩
theorem a_cons (h : E (lm l) C e p) (hr : A l C es g) (hs : starEach (e :: es) C.env = (false, eval e C.env) :: starEach es C.env := by rfl) : A l C (e :: es) (aCons p g) := by
  obtain ⟨t, h1, h2⟩ := h
  obtain ⟨u, g1, g2⟩ := hr
  refine ⟨_, pa_cons h1 g1 hs, fun z X H0 H σ env Q k o c hp => h2 z X H0 H σ env _ _ o (fun d v H1 e1 r1 hx => ?_) hp⟩
  refine g2 z X H0 H1 σ env _ _ (o.go e1) (fun ds vs H2 e2 r2 hy => c (d :: ds) (v :: vs) H2 (e1.trans e2) (.cons ?_ r2) hy) hx
  cases l with
  | true => exact Is.evo (fun _ q => .inl q) e2 r1
  | false => exact Is.evo (fun _ q => .inl q) e2 r1
def eTup (g : PAs) : PX := fun env k => g env fun xs => xs.length ≤ 100000 ∧ k (.tup xs)
def eLst (g : PAs) : PX := fun env k => g env fun xs => xs.length ≤ 100000 ∧ k (.lst xs)
theorem e_tup {x1} (h : A true C es g) : E .e C (.Tuple es x1 pos) (eTup g) := by
  obtain ⟨t, h1, h2⟩ := h
  refine ⟨_, pe_tup h1, fun z X H0 H σ env Q k o c hp => h2 z X H0 H σ env _ _ o (fun ds vs H1 e1 r1 hx => ⟨by rw [r1.length]; exact sz hx.1, fun q hq => ?_⟩) hp⟩
  exact c _ _ _ (e1.new hq) ((Rel.newT (e1.fresh hq) hq r1).fe o) hx.2
theorem e_lst (h : A true C es g) : E .f C (.List es pos) (eLst g) := by
  obtain ⟨t, h1, h2⟩ := h
  refine ⟨_, pe_lst h1, fun z X H0 H σ env Q k o c hp => h2 z X H0 H σ env _ _ o (fun ds vs H1 e1 r1 hx => ⟨by rw [r1.length]; exact sz hx.1, fun q hq => ?_⟩) hp⟩
  exact c _ _ _ (e1.new hq) (Rel.newL (e1.fresh hq) hq r1) hx.2
/-- for a look -/
theorem e_tupB {x1} (h : A false C es g) : E .b C (.Tuple es x1 pos) (eTup g) := by
  obtain ⟨t, h1, h2⟩ := h
  refine ⟨_, pe_tup h1, fun z X H0 H σ env Q k o c hp => h2 z X H0 H σ env _ _ o (fun ds vs H1 e1 r1 hx => ⟨by rw [r1.length]; exact sz hx.1, fun q hq => ?_⟩) hp⟩
  exact c _ _ _ (e1.new hq) (Is.tup upd_same (fun hz => (o.go e1).notMs hq hz.ms) (IsA.new hq r1)) hx.2
theorem e_lstB (h : A false C es g) : E .b C (.List es pos) (eLst g) := by
  obtain ⟨t, h1, h2⟩ := h
  refine ⟨_, pe_lst h1, fun z X H0 H σ env Q k o c hp => h2 z X H0 H σ env _ _ o (fun ds vs H1 e1 r1 hx => ⟨by rw [r1.length]; exact sz hx.1, fun q hq => ?_⟩) hp⟩
  exact c _ _ _ (e1.new hq) (Is.lst upd_same (fun hz => (o.go e1).notMs hq hz.ms) (IsA.new hq r1)) hx.2

/-! ### x[i], x[i:j] -/
def dIx : D → D → (D → Prop) → Prop := fun x y k => match x, y with
  | .tup xs, .int i => ∃ d, atI xs i = some d ∧ k d
  | .lst xs, .int i => ∃ d, atI xs i = some d ∧ k d
  | .str s, .int i => ∃ c, s.length ≤ 100000 ∧ atI s.cps.toList i = some c ∧ k (.str ⟨#[c]⟩)
  | _, _ => False
theorem IsA.atI {z : Zn} {M : AP} {H : Hp} {vs : List V} {ds : List D} {i : Int} {d : D} (h : IsA z M H vs ds) (e : L2.atI ds i = some d) : ∃ v, L2.atI vs i = some v ∧ Is z M H v d := by
  unfold L2.atI at e ⊢
  rw [h.length]
  cases q : ixN ds.length i with
  | none => rw [q] at e; cases e
  | some j =>
    rw [q] at e
    obtain ⟨v, h1, h2⟩ := h.get (i := j) e
    exact ⟨v, h1, h2⟩
theorem opd_ix {K : PySem.W.Frag} : OpD .c .e (rIx K) dIx := fun z X H0 H σ env v u x y Q k o r1 r2 c hp => by
  cases x with
  | tup xs =>
    cases y with
    | int i =>
      obtain ⟨d, hd, hk⟩ := hp
      obtain ⟨a, vs, rfl, h1, h2, _⟩ := r1.conT
      obtain ⟨w, h3, h4⟩ := h2.atI hd
      exact .inr (.inl ⟨a, vs, i, w, rfl, r2.intC, SqT.of h1, h3, c d w H (Evo.refl _ _) h4 hk⟩)
    | _ => exact (show False from hp).elim
  | lst xs =>
    cases y with
    | int i =>
      obtain ⟨d, hd, hk⟩ := hp
      obtain ⟨a, vs, rfl, h1, h2, _⟩ := r1.conL
      obtain ⟨w, h3, h4⟩ := h2.atI hd
      exact .inl ⟨a, vs, i, w, rfl, r2.intC, SqL.of h1, h3, c d w H (Evo.refl _ _) h4 hk⟩
    | _ => exact (show False from hp).elim
  | str s =>
    cases y with
    | int i =>
      obtain ⟨d, hl, hd, hk⟩ := hp
      exact .inr (.inr ⟨s, i, d, r1.strC, r2.intC, sz hl, hd, c _ _ H (Evo.refl _ _) (Is.str _) hk⟩)
    | _ => exact (show False from hp).elim
  | _ => exact (show False from hp).elim
theorem e_ix (ha : E .c C a p) (hb : E .c C b q) (hs : PlainIx b := by exact fun _ _ => rfl) : E .e C (.Subscript a b pos) (eOp dIx p q) := by
  obtain ⟨ta, a1, a2⟩ := ha
  obtain ⟨tb, b1, b2⟩ := hb
  exact ⟨_, pe_ix (r := rIx C.K) ix_seq a1 b1 hs, RE.op (by decide) opd_ix a2 b2⟩
def cutD (xs : List D) (lo hi : Option Int) : List D := (xs.drop (HT.sIx xs.length 0 lo)).take (HT.sIx xs.length xs.length hi - HT.sIx xs.length 0 lo)
theorem IsA.cut {z : Zn} {M : AP} {H : Hp} {vs : List V} {ds : List D} {lo hi : Option Int} (h : IsA z M H vs ds) : IsA z M H (cutV vs lo hi) (cutD ds lo hi) := by
  unfold cutV cutD
  rw [h.length]
  exact (h.drop _).take _
theorem cut_whole {α : Type} {xs : List α} {lo hi : Option Int} (h : HT.sIx xs.length 0 lo = 0 ∧ HT.sIx xs.length xs.length hi = xs.length) : (xs.drop (HT.sIx xs.length 0 lo)).take (HT.sIx xs.length xs.length hi - HT.sIx xs.length 0 lo) = xs := by
  rw [h.1, h.2]; simp
def dSl : D → Option Int → Option Int → (D → Prop) → Prop := fun x lo hi k => match x with
  | .tup xs => k (.tup (cutD xs lo hi))
  | .lst xs => k (.lst (cutD xs lo hi))
  | _ => False
def rSlQ (K : PySem.W.Frag) : V → Option Int → Option Int → Hp → VK → Prop := fun x lo hi H Q => rSlA K x lo hi H Q ∨ rSlL K x lo hi H Q
theorem sl_seq : SlR C (rSlQ C.K) := fun pins s σ H x v vl vu lo hi sl Q I rx hs pl pu h => h.elim (sl_tupA pins s σ H x v vl vu lo hi sl Q I rx hs pl pu) (sl_list pins s σ H x v vl vu lo hi sl Q I rx hs pl pu)
abbrev PO' := List SV → (Option Int → Prop) → Prop
def RO (t : TO) (p : PO') : Prop := ∀ (z : Zn) (X : AP) (H0 H : Hp) (σ : Sl) (env : List SV) (Q : Option Int → Hp → Prop) (k : Option Int → Prop), Ok z X H0 H σ env →
  (∀ b H', Evo z H H' → k b → Q b H') → p env k → t σ H Q
structure O (C : Cx) (e : Option Expr) (p : PO') : Prop where
  ex : ∃ t, PO C e t ∧ RO t p
def oNo : PO' := fun _ k => k none
def inK (d : D) (k : Int → Prop) : Prop := match d with
  | .int i => k i
  | _ => False
def oPart (p : PX) : PO' := fun env k => p env fun d => inK d fun i => k (some i)
theorem o_none : O C none oNo := ⟨_, po_none, fun z X H0 H σ env Q k o c hp => c none H (Evo.refl _ _) hp⟩
theorem o_some (h : E m C e p) : O C (some e) (oPart p) := by
  obtain ⟨t, h1, h2⟩ := h.toB
  refine ⟨_, po_some h1, fun z X H0 H σ env Q k o c hp => h2 z X H0 H σ env _ _ o (fun d v H1 e1 r1 hx => ?_) hp⟩
  cases d with
  | int i => exact ⟨i, Is.intI r1, c _ H1 e1 hx⟩
  | _ => exact (show False from hx).elim
def eSl (p : PX) (lo hi : PO') : PX := fun env k => p env fun x => lo env fun i => hi env fun j => dSl x i j k
theorem e_slice {lo hi : Option Expr} {pl ph : PO'} {p2 : Pos} (h : E .c C e p) (hl : O C lo pl) (hh : O C hi ph) : E .e C (.Subscript e (.Slice lo hi none p2) pos) (eSl p pl ph) := by
  obtain ⟨t, h1, h2⟩ := h
  obtain ⟨tl, l1, l2⟩ := hl
  obtain ⟨th, g1, g2⟩ := hh
  refine ⟨_, pe_slice (r := rSlQ C.K) sl_seq h1 l1 g1, fun z X H0 H σ env Q k o c hp => h2 z X H0 H σ env _ _ o (fun d v H1 e1 r1 hx => ?_) hp⟩
  refine l2 z X H0 H1 σ env _ _ (o.go e1) (fun i H2 e2 hx => ?_) hx
  refine g2 z X H0 H2 σ env _ _ ((o.go e1).go e2) (fun j H3 e3 hx => ?_) hx
  have r3 := r1.evo o (e2.trans e3) e1
  have ev := e1.trans (e2.trans e3)
  cases d with
  | tup xs =>
    obtain ⟨a, vs, rfl, q1, q2, n⟩ := r3.conT
    refine .inl ⟨a, vs, rfl, SqT.of q1, fun w => ?_, fun w q hq => ?_⟩
    · refine c _ _ H3 ev ?_ hx
      have e : cutD xs i j = xs := by
        have l := q2.length
        rw [l] at w
        exact cut_whole w
      rw [e]
      exact Is.tup q1 n q2
    · exact c _ _ _ (ev.new hq) ((Rel.newT (ev.fresh hq) hq q2.cut).fe o) hx
  | lst xs =>
    obtain ⟨a, vs, rfl, q1, q2, n⟩ := r3.conL
    exact .inr ⟨a, vs, rfl, SqL.of q1, fun q hq => c _ _ _ (ev.new hq) ((Rel.newL (ev.fresh hq) hq q2.cut).fe o) hx⟩
  | _ => exact (show False from hx).elim
end
end Pu

namespace Ew
open PySem PySem.Spec PyProof.Rows L2
section
variable {prog : Program} {w : World} {A : Around} {E : Value → Shared → Prop} {s : Shared}
/-- what max asks of the tuple of its arguments -/
def Askmax (prog : Program) (w : World) (A : Around) (Q : Value → Shared → Prop) (it : Value) (s₂ : Shared) : Prop := ∃ I fp wr n P St bt, it = .ref I ∧ Walks prog w A.in1 I fp wr n P St ∧ St 0 s₂.heap ∧ (∀ b ∈ fp, b < s₂.heap.objs.size) ∧ 0 < n ∧ CmpOf prog w A.in1 .Gt P bt ∧
  ∀ v h' tk, P (argBest bt (n - 1)) v → (∀ b o, b ∉ wr → s₂.heap.get? b = some o → h'.get? b = some o) → Q v { s₂ with heap := h', toks := tk }
theorem ask_max {xs : Array (Int × Tok)} {Q : Value → Shared → Prop} {c : Sem Value} (hh : A.handled = none) (hne : 0 < xs.size)
    (hc : wpAny (model prog w) A.in1 (pyIter (.ref s.heap.objs.size)) (Askmax prog w A Q) E { s with heap := s.heap.push { cls := .type "tuple", data := .seq (intItems xs) } } → wpAny (model prog w) A c Q E s)
    (h : ∀ h' tk M t', (∀ d o, s.heap.get? d = some o → h'.get? d = some o) → M ∈ xs.toList.map (·.1) → (∀ a, a ∈ xs.toList.map (·.1) → a ≤ M) → Q (.int M t') { s with heap := h', toks := tk }) : wpAny (model prog w) A c Q E s := by
  have hT : (s.heap.push { cls := .type "tuple", data := .seq (intItems xs) }).IsTuple s.heap.objs.size (intItems xs) := ⟨_, Heap.get?_push_size _ rfl, rfl, 0, rfl⟩
  have hsz : (s.heap.push { cls := .type "tuple", data := .seq (intItems xs) }).objs.size = s.heap.objs.size + 1 := Heap.size_push ..
  have hln : (intItems xs).size = xs.size := by simp [intItems]
  refine hc (wpAny_pyIter_tuple hT ?_)
  refine ⟨_, [_, s.heap.objs.size], [_], _, _, _, _, rfl, Walks.tuple (A := A.in1) hh _ s.heap.objs.size (by rw [hsz]; exact Nat.ne_of_lt (Nat.lt_succ_self _)) (intItems xs),
    ⟨⟨_, Heap.get?_push_size _ rfl, rfl, rfl⟩, hT.push _⟩, fun d hd => ?_, by rw [hln]; exact hne, CmpOf.ints_gt (numAt xs) (fun _ _ => intItems_at), fun v h' tk hP hk => ?_⟩
  · show d < ((s.heap.push _).push _).objs.size
    rw [Heap.size_push, hsz]
    rcases List.mem_cons.mp hd with e | hd
    · rw [e, hsz]; exact Nat.lt_succ_self _
    · rw [List.mem_singleton.mp hd]; exact Nat.lt_succ_of_lt (Nat.lt_succ_self _)
  · have hold : ∀ d o, s.heap.get? d = some o → h'.get? d = some o := fun d o e => by
      refine hk d o (fun hm => ?_) (Heap.get?_push_of_some _ (Heap.get?_push_of_some _ e))
      have := Heap.lt_size e
      rw [List.mem_singleton.mp hm, hsz] at this
      exact Nat.lt_irrefl _ (Nat.lt_of_succ_lt this)
    obtain ⟨t, rfl⟩ := intItems_at hP
    obtain ⟨h1, h2⟩ := argBest_gt (numAt xs) ((intItems xs).size - 1)
    refine h h' tk _ t hold ?_ fun a ha => ?_
    · rw [numAt_eq]; exact PySem.getD_mem (by rw [List.length_map, Array.length_toList]; omega)
    · obtain ⟨j, hj, rfl⟩ := PySem.mem_getD ha
      rw [List.length_map, Array.length_toList] at hj
      rw [← numAt_eq]; exact h2 j (by omega)
theorem args_max3 (a0 a1 a2 : Value) : argsOk "max" ⟨[a0, a1, a2], []⟩ := by unfold argsOk; kernel_rfl
theorem tree_max3 {a0 a1 a2 : Value} {Q : Value → Shared → Prop} (h : wpAny (model prog w) A.in1 (pyIter (.ref s.heap.objs.size)) (Askmax prog w A Q) E { s with heap := s.heap.push { cls := .type "tuple", data := .seq #[a0, a1, a2] } }) : wpAny (model prog w) A (call (.builtin "max") [a0, a1, a2]) Q E s := by
  have hname : (toString "max" ++ toString ".loop" : String) = "max.loop" := by decide
  refine call_function_tree F.kind_max F.plain_max F.entry_max (args_max3 _ _ _) ?_
  show wpAny _ A.in1 (Builtin.Builtins.bindParams "max" ["key", "default"] 0 ⟨[], []⟩ >>= _) _ _ s
  refine wpAny_bind (wpAny_of_eq (show Builtin.Builtins.bindParams "max" ["key", "default"] 0 ⟨[], []⟩ = pure [none, none] from rfl) ?_)
  show wpAny _ A.in1 (newTuple [a0, a1, a2] >>= _) _ _ s
  refine wpAny_bind (wpAny_newObj_type ?_)
  refine wpAny_bind (wpAny_mono h (fun it s₂ h₂ => ?_) fun _ _ e => e)
  obtain ⟨I, fp, wr, n, P, St, bt, rfl, W, hst, hfp, hn, hcmp, hQ⟩ := h₂
  refine wpAny_bind (wpAny_newObj_type ?_)
  have hSf : s₂.heap.objs.size ∉ fp := fun hm => Nat.lt_irrefl _ (hfp _ hm)
  rw [hname]
  refine wpAny_pure ⟨plainId_quiet F.plain_max_loop _, codeAny_max_loop_first W bt hcmp s₂.heap.objs.size hSf hn (W.frame _ _ _ hst fun b _ o e => Heap.get?_push_of_some _ e) (Heap.get?_push_size _ rfl) fun v h' tk hP hk => ?_⟩
  exact hQ v h' tk hP fun b o hbw e => hk b o hbw (Nat.ne_of_lt (Heap.lt_size e)) (Heap.get?_push_of_some _ e)
theorem args_max4 (a0 a1 a2 a3 : Value) : argsOk "max" ⟨[a0, a1, a2, a3], []⟩ := by unfold argsOk; kernel_rfl
theorem tree_max4 {a0 a1 a2 a3 : Value} {Q : Value → Shared → Prop} (h : wpAny (model prog w) A.in1 (pyIter (.ref s.heap.objs.size)) (Askmax prog w A Q) E { s with heap := s.heap.push { cls := .type "tuple", data := .seq #[a0, a1, a2, a3] } }) : wpAny (model prog w) A (call (.builtin "max") [a0, a1, a2, a3]) Q E s := by
  have hname : (toString "max" ++ toString ".loop" : String) = "max.loop" := by decide
  refine call_function_tree F.kind_max F.plain_max F.entry_max (args_max4 _ _ _ _) ?_
  show wpAny _ A.in1 (Builtin.Builtins.bindParams "max" ["key", "default"] 0 ⟨[], []⟩ >>= _) _ _ s
  refine wpAny_bind (wpAny_of_eq (show Builtin.Builtins.bindParams "max" ["key", "default"] 0 ⟨[], []⟩ = pure [none, none] from rfl) ?_)
  show wpAny _ A.in1 (newTuple [a0, a1, a2, a3] >>= _) _ _ s
  refine wpAny_bind (wpAny_newObj_type ?_)
  refine wpAny_bind (wpAny_mono h (fun it s₂ h₂ => ?_) fun _ _ e => e)
  obtain ⟨I, fp, wr, n, P, St, bt, rfl, W, hst, hfp, hn, hcmp, hQ⟩ := h₂
  refine wpAny_bind (wpAny_newObj_type ?_)
  have hSf : s₂.heap.objs.size ∉ fp := fun hm => Nat.lt_irrefl _ (hfp _ hm)
  rw [hname]
  refine wpAny_pure ⟨plainId_quiet F.plain_max_loop _, codeAny_max_loop_first W bt hcmp s₂.heap.objs.size hSf hn (W.frame _ _ _ hst fun b _ o e => Heap.get?_push_of_some _ e) (Heap.get?_push_size _ rfl) fun v h' tk hP hk => ?_⟩
  exact hQ v h' tk hP fun b o hbw e => hk b o hbw (Nat.ne_of_lt (Heap.lt_size e)) (Heap.get?_push_of_some _ e)
theorem args_max5 (a0 a1 a2 a3 a4 : Value) : argsOk "max" ⟨[a0, a1, a2, a3, a4], []⟩ := by unfold argsOk; kernel_rfl
theorem tree_max5 {a0 a1 a2 a3 a4 : Value} {Q : Value → Shared → Prop} (h : wpAny (model prog w) A.in1 (pyIter (.ref s.heap.objs.size)) (Askmax prog w A Q) E { s with heap := s.heap.push { cls := .type "tuple", data := .seq #[a0, a1, a2, a3, a4] } }) : wpAny (model prog w) A (call (.builtin "max") [a0, a1, a2, a3, a4]) Q E s := by
  have hname : (toString "max" ++ toString ".loop" : String) = "max.loop" := by decide
  refine call_function_tree F.kind_max F.plain_max F.entry_max (args_max5 _ _ _ _ _) ?_
  show wpAny _ A.in1 (Builtin.Builtins.bindParams "max" ["key", "default"] 0 ⟨[], []⟩ >>= _) _ _ s
  refine wpAny_bind (wpAny_of_eq (show Builtin.Builtins.bindParams "max" ["key", "default"] 0 ⟨[], []⟩ = pure [none, none] from rfl) ?_)
  show wpAny _ A.in1 (newTuple [a0, a1, a2, a3, a4] >>= _) _ _ s
  refine wpAny_bind (wpAny_newObj_type ?_)
  refine wpAny_bind (wpAny_mono h (fun it s₂ h₂ => ?_) fun _ _ e => e)
  obtain ⟨I, fp, wr, n, P, St, bt, rfl, W, hst, hfp, hn, hcmp, hQ⟩ := h₂
  refine wpAny_bind (wpAny_newObj_type ?_)
  have hSf : s₂.heap.objs.size ∉ fp := fun hm => Nat.lt_irrefl _ (hfp _ hm)
  rw [hname]
  refine wpAny_pure ⟨plainId_quiet F.plain_max_loop _, codeAny_max_loop_first W bt hcmp s₂.heap.objs.size hSf hn (W.frame _ _ _ hst fun b _ o e => Heap.get?_push_of_some _ e) (Heap.get?_push_size _ rfl) fun v h' tk hP hk => ?_⟩
  exact hQ v h' tk hP fun b o hbw e => hk b o hbw (Nat.ne_of_lt (Heap.lt_size e)) (Heap.get?_push_of_some _ e)
end
section
variable {X : Cx}
theorem call_max3 (hc : X.calm = true) : CallR X (.builtin "max") (fun xs H Q => ∃ a0 a1 a2 : Int, xs = [.int a0, .int a1, .int a2] ∧ ∀ m, (m = a0 ∨ m = a1 ∨ m = a2) → a0 ≤ m → a1 ≤ m → a2 ≤ m → Q (.int m) H) := by
  intro pins s σ H xs us Q I r h
  obtain ⟨a0, a1, a2, rfl, q⟩ := h
  cases r with | cons q0 r0 =>
  obtain ⟨t0, rfl⟩ := q0
  cases r0 with | cons q1 r1 =>
  obtain ⟨t1, rfl⟩ := q1
  cases r1 with | cons q2 r2 =>
  obtain ⟨t2, rfl⟩ := q2
  cases r2
  refine ask_max (xs := #[(a0, t0), (a1, t1), (a2, t2)]) (I.ok.hd hc) (by simp) (fun h => tree_max3 (by simpa [intItems] using h)) fun h' tk M t' hk hm hle => ⟨.int M, H, I.kept hk, ⟨_, rfl⟩, q M ?_ (hle _ (by simp)) (hle _ (by simp)) (hle _ (by simp))⟩
  · simpa using hm
theorem call_max4 (hc : X.calm = true) : CallR X (.builtin "max") (fun xs H Q => ∃ a0 a1 a2 a3 : Int, xs = [.int a0, .int a1, .int a2, .int a3] ∧ ∀ m, (m = a0 ∨ m = a1 ∨ m = a2 ∨ m = a3) → a0 ≤ m → a1 ≤ m → a2 ≤ m → a3 ≤ m → Q (.int m) H) := by
  intro pins s σ H xs us Q I r h
  obtain ⟨a0, a1, a2, a3, rfl, q⟩ := h
  cases r with | cons q0 r0 =>
  obtain ⟨t0, rfl⟩ := q0
  cases r0 with | cons q1 r1 =>
  obtain ⟨t1, rfl⟩ := q1
  cases r1 with | cons q2 r2 =>
  obtain ⟨t2, rfl⟩ := q2
  cases r2 with | cons q3 r3 =>
  obtain ⟨t3, rfl⟩ := q3
  cases r3
  refine ask_max (xs := #[(a0, t0), (a1, t1), (a2, t2), (a3, t3)]) (I.ok.hd hc) (by simp) (fun h => tree_max4 (by simpa [intItems] using h)) fun h' tk M t' hk hm hle => ⟨.int M, H, I.kept hk, ⟨_, rfl⟩, q M ?_ (hle _ (by simp)) (hle _ (by simp)) (hle _ (by simp)) (hle _ (by simp))⟩
  · simpa using hm
theorem call_max5 (hc : X.calm = true) : CallR X (.builtin "max") (fun xs H Q => ∃ a0 a1 a2 a3 a4 : Int, xs = [.int a0, .int a1, .int a2, .int a3, .int a4] ∧ ∀ m, (m = a0 ∨ m = a1 ∨ m = a2 ∨ m = a3 ∨ m = a4) → a0 ≤ m → a1 ≤ m → a2 ≤ m → a3 ≤ m → a4 ≤ m → Q (.int m) H) := by
  intro pins s σ H xs us Q I r h
  obtain ⟨a0, a1, a2, a3, a4, rfl, q⟩ := h
  cases r with | cons q0 r0 =>
  obtain ⟨t0, rfl⟩ := q0
  cases r0 with | cons q1 r1 =>
  obtain ⟨t1, rfl⟩ := q1
  cases r1 with | cons q2 r2 =>
  obtain ⟨t2, rfl⟩ := q2
  cases r2 with | cons q3 r3 =>
  obtain ⟨t3, rfl⟩ := q3
  cases r3 with | cons q4 r4 =>
  obtain ⟨t4, rfl⟩ := q4
  cases r4
  refine ask_max (xs := #[(a0, t0), (a1, t1), (a2, t2), (a3, t3), (a4, t4)]) (I.ok.hd hc) (by simp) (fun h => tree_max5 (by simpa [intItems] using h)) fun h' tk M t' hk hm hle => ⟨.int M, H, I.kept hk, ⟨_, rfl⟩, q M ?_ (hle _ (by simp)) (hle _ (by simp)) (hle _ (by simp)) (hle _ (by simp)) (hle _ (by simp))⟩
  · simpa using hm
end
section
variable {prog : Program} {w : World} {A : Around} {E : Value → Shared → Prop} {s : Shared}
/-- what min asks of the tuple of its arguments -/
def Askmin (prog : Program) (w : World) (A : Around) (Q : Value → Shared → Prop) (it : Value) (s₂ : Shared) : Prop := ∃ I fp wr n P St bt, it = .ref I ∧ Walks prog w A.in1 I fp wr n P St ∧ St 0 s₂.heap ∧ (∀ b ∈ fp, b < s₂.heap.objs.size) ∧ 0 < n ∧ CmpOf prog w A.in1 .Lt P bt ∧
  ∀ v h' tk, P (argBest bt (n - 1)) v → (∀ b o, b ∉ wr → s₂.heap.get? b = some o → h'.get? b = some o) → Q v { s₂ with heap := h', toks := tk }
theorem ask_min {xs : Array (Int × Tok)} {Q : Value → Shared → Prop} {c : Sem Value} (hh : A.handled = none) (hne : 0 < xs.size)
    (hc : wpAny (model prog w) A.in1 (pyIter (.ref s.heap.objs.size)) (Askmin prog w A Q) E { s with heap := s.heap.push { cls := .type "tuple", data := .seq (intItems xs) } } → wpAny (model prog w) A c Q E s)
    (h : ∀ h' tk M t', (∀ d o, s.heap.get? d = some o → h'.get? d = some o) → M ∈ xs.toList.map (·.1) → (∀ a, a ∈ xs.toList.map (·.1) → M ≤ a) → Q (.int M t') { s with heap := h', toks := tk }) : wpAny (model prog w) A c Q E s := by
  have hT : (s.heap.push { cls := .type "tuple", data := .seq (intItems xs) }).IsTuple s.heap.objs.size (intItems xs) := ⟨_, Heap.get?_push_size _ rfl, rfl, 0, rfl⟩
  have hsz : (s.heap.push { cls := .type "tuple", data := .seq (intItems xs) }).objs.size = s.heap.objs.size + 1 := Heap.size_push ..
  have hln : (intItems xs).size = xs.size := by simp [intItems]
  refine hc (wpAny_pyIter_tuple hT ?_)
  refine ⟨_, [_, s.heap.objs.size], [_], _, _, _, _, rfl, Walks.tuple (A := A.in1) hh _ s.heap.objs.size (by rw [hsz]; exact Nat.ne_of_lt (Nat.lt_succ_self _)) (intItems xs),
    ⟨⟨_, Heap.get?_push_size _ rfl, rfl, rfl⟩, hT.push _⟩, fun d hd => ?_, by rw [hln]; exact hne, CmpOf.ints_lt (numAt xs) (fun _ _ => intItems_at), fun v h' tk hP hk => ?_⟩
  · show d < ((s.heap.push _).push _).objs.size
    rw [Heap.size_push, hsz]
    rcases List.mem_cons.mp hd with e | hd
    · rw [e, hsz]; exact Nat.lt_succ_self _
    · rw [List.mem_singleton.mp hd]; exact Nat.lt_succ_of_lt (Nat.lt_succ_self _)
  · have hold : ∀ d o, s.heap.get? d = some o → h'.get? d = some o := fun d o e => by
      refine hk d o (fun hm => ?_) (Heap.get?_push_of_some _ (Heap.get?_push_of_some _ e))
      have := Heap.lt_size e
      rw [List.mem_singleton.mp hm, hsz] at this
      exact Nat.lt_irrefl _ (Nat.lt_of_succ_lt this)
    obtain ⟨t, rfl⟩ := intItems_at hP
    obtain ⟨h1, h2⟩ := argBest_lt (numAt xs) ((intItems xs).size - 1)
    refine h h' tk _ t hold ?_ fun a ha => ?_
    · rw [numAt_eq]; exact PySem.getD_mem (by rw [List.length_map, Array.length_toList]; omega)
    · obtain ⟨j, hj, rfl⟩ := PySem.mem_getD ha
      rw [List.length_map, Array.length_toList] at hj
      rw [← numAt_eq]; exact h2 j (by omega)
theorem args_min3 (a0 a1 a2 : Value) : argsOk "min" ⟨[a0, a1, a2], []⟩ := by unfold argsOk; kernel_rfl
theorem tree_min3 {a0 a1 a2 : Value} {Q : Value → Shared → Prop} (h : wpAny (model prog w) A.in1 (pyIter (.ref s.heap.objs.size)) (Askmin prog w A Q) E { s with heap := s.heap.push { cls := .type "tuple", data := .seq #[a0, a1, a2] } }) : wpAny (model prog w) A (call (.builtin "min") [a0, a1, a2]) Q E s := by
  have hname : (toString "min" ++ toString ".loop" : String) = "min.loop" := by decide
  refine call_function_tree F.kind_min F.plain_min F.entry_min (args_min3 _ _ _) ?_
  show wpAny _ A.in1 (Builtin.Builtins.bindParams "min" ["key", "default"] 0 ⟨[], []⟩ >>= _) _ _ s
  refine wpAny_bind (wpAny_of_eq (show Builtin.Builtins.bindParams "min" ["key", "default"] 0 ⟨[], []⟩ = pure [none, none] from rfl) ?_)
  show wpAny _ A.in1 (newTuple [a0, a1, a2] >>= _) _ _ s
  refine wpAny_bind (wpAny_newObj_type ?_)
  refine wpAny_bind (wpAny_mono h (fun it s₂ h₂ => ?_) fun _ _ e => e)
  obtain ⟨I, fp, wr, n, P, St, bt, rfl, W, hst, hfp, hn, hcmp, hQ⟩ := h₂
  refine wpAny_bind (wpAny_newObj_type ?_)
  have hSf : s₂.heap.objs.size ∉ fp := fun hm => Nat.lt_irrefl _ (hfp _ hm)
  rw [hname]
  refine wpAny_pure ⟨plainId_quiet F.plain_min_loop _, codeAny_min_loop_first W bt hcmp s₂.heap.objs.size hSf hn (W.frame _ _ _ hst fun b _ o e => Heap.get?_push_of_some _ e) (Heap.get?_push_size _ rfl) fun v h' tk hP hk => ?_⟩
  exact hQ v h' tk hP fun b o hbw e => hk b o hbw (Nat.ne_of_lt (Heap.lt_size e)) (Heap.get?_push_of_some _ e)
theorem args_min4 (a0 a1 a2 a3 : Value) : argsOk "min" ⟨[a0, a1, a2, a3], []⟩ := by unfold argsOk; kernel_rfl
theorem tree_min4 {a0 a1 a2 a3 : Value} {Q : Value → Shared → Prop} (h : wpAny (model prog w) A.in1 (pyIter (.ref s.heap.objs.size)) (Askmin prog w A Q) E { s with heap := s.heap.push { cls := .type "tuple", data := .seq #[a0, a1, a2, a3] } }) : wpAny (model prog w) A (call (.builtin "min") [a0, a1, a2, a3]) Q E s := by
  have hname : (toString "min" ++ toString ".loop" : String) = "min.loop" := by decide
  refine call_function_tree F.kind_min F.plain_min F.entry_min (args_min4 _ _ _ _) ?_
  show wpAny _ A.in1 (Builtin.Builtins.bindParams "min" ["key", "default"] 0 ⟨[], []⟩ >>= _) _ _ s
  refine wpAny_bind (wpAny_of_eq (show Builtin.Builtins.bindParams "min" ["key", "default"] 0 ⟨[], []⟩ = pure [none, none] from rfl) ?_)
  show wpAny _ A.in1 (newTuple [a0, a1, a2, a3] >>= _) _ _ s
  refine wpAny_bind (wpAny_newObj_type ?_)
  refine wpAny_bind (wpAny_mono h (fun it s₂ h₂ => ?_) fun _ _ e => e)
  obtain ⟨I, fp, wr, n, P, St, bt, rfl, W, hst, hfp, hn, hcmp, hQ⟩ := h₂
  refine wpAny_bind (wpAny_newObj_type ?_)
  have hSf : s₂.heap.objs.size ∉ fp := fun hm => Nat.lt_irrefl _ (hfp _ hm)
  rw [hname]
  refine wpAny_pure ⟨plainId_quiet F.plain_min_loop _, codeAny_min_loop_first W bt hcmp s₂.heap.objs.size hSf hn (W.frame _ _ _ hst fun b _ o e => Heap.get?_push_of_some _ e) (Heap.get?_push_size _ rfl) fun v h' tk hP hk => ?_⟩
  exact hQ v h' tk hP fun b o hbw e => hk b o hbw (Nat.ne_of_lt (Heap.lt_size e)) (Heap.get?_push_of_some _ e)
theorem args_min5 (a0 a1 a2 a3 a4 : Value) : argsOk "min" ⟨[a0, a1, a2, a3, a4], []⟩ := by unfold argsOk; kernel_rfl
theorem tree_min5 {a0 a1 a2 a3 a4 : Value} {Q : Value → Shared → Prop} (h : wpAny (model prog w) A.in1 (pyIter (.ref s.heap.objs.size)) (Askmin prog w A Q) E { s with heap := s.heap.push { cls := .type "tuple", data := .seq #[a0, a1, a2, a3, a4] } }) : wpAny (model prog w) A (call (.builtin "min") [a0, a1, a2, a3, a4]) Q E s := by
  have hname : (toString "min" ++ toString ".loop" : String) = "min.loop" := by decide
  refine call_function_tree F.kind_min F.plain_min F.entry_min (args_min5 _ _ _ _ _) ?_
  show wpAny _ A.in1 (Builtin.Builtins.bindParams "min" ["key", "default"] 0 ⟨[], []⟩ >>= _) _ _ s
  refine wpAny_bind (wpAny_of_eq (show Builtin.Builtins.bindParams "min" ["key", "default"] 0 ⟨[], []⟩ = pure [none, none] from rfl) ?_)
  show wpAny _ A.in1 (newTuple [a0, a1, a2, a3, a4] >>= _) _ _ s
  refine wpAny_bind (wpAny_newObj_type ?_)
  refine wpAny_bind (wpAny_mono h (fun it s₂ h₂ => ?_) fun _ _ e => e)
  obtain ⟨I, fp, wr, n, P, St, bt, rfl, W, hst, hfp, hn, hcmp, hQ⟩ := h₂
  refine wpAny_bind (wpAny_newObj_type ?_)
  have hSf : s₂.heap.objs.size ∉ fp := fun hm => Nat.lt_irrefl _ (hfp _ hm)
  rw [hname]
  refine wpAny_pure ⟨plainId_quiet F.plain_min_loop _, codeAny_min_loop_first W bt hcmp s₂.heap.objs.size hSf hn (W.frame _ _ _ hst fun b _ o e => Heap.get?_push_of_some _ e) (Heap.get?_push_size _ rfl) fun v h' tk hP hk => ?_⟩
  exact hQ v h' tk hP fun b o hbw e => hk b o hbw (Nat.ne_of_lt (Heap.lt_size e)) (Heap.get?_push_of_some _ e)
end
section
variable {X : Cx}
theorem call_min3 (hc : X.calm = true) : CallR X (.builtin "min") (fun xs H Q => ∃ a0 a1 a2 : Int, xs = [.int a0, .int a1, .int a2] ∧ ∀ m, (m = a0 ∨ m = a1 ∨ m = a2) → m ≤ a0 → m ≤ a1 → m ≤ a2 → Q (.int m) H) := by
  intro pins s σ H xs us Q I r h
  obtain ⟨a0, a1, a2, rfl, q⟩ := h
  cases r with | cons q0 r0 =>
  obtain ⟨t0, rfl⟩ := q0
  cases r0 with | cons q1 r1 =>
  obtain ⟨t1, rfl⟩ := q1
  cases r1 with | cons q2 r2 =>
  obtain ⟨t2, rfl⟩ := q2
  cases r2
  refine ask_min (xs := #[(a0, t0), (a1, t1), (a2, t2)]) (I.ok.hd hc) (by simp) (fun h => tree_min3 (by simpa [intItems] using h)) fun h' tk M t' hk hm hle => ⟨.int M, H, I.kept hk, ⟨_, rfl⟩, q M ?_ (hle _ (by simp)) (hle _ (by simp)) (hle _ (by simp))⟩
  · simpa using hm
theorem call_min4 (hc : X.calm = true) : CallR X (.builtin "min") (fun xs H Q => ∃ a0 a1 a2 a3 : Int, xs = [.int a0, .int a1, .int a2, .int a3] ∧ ∀ m, (m = a0 ∨ m = a1 ∨ m = a2 ∨ m = a3) → m ≤ a0 → m ≤ a1 → m ≤ a2 → m ≤ a3 → Q (.int m) H) := by
  intro pins s σ H xs us Q I r h
  obtain ⟨a0, a1, a2, a3, rfl, q⟩ := h
  cases r with | cons q0 r0 =>
  obtain ⟨t0, rfl⟩ := q0
  cases r0 with | cons q1 r1 =>
  obtain ⟨t1, rfl⟩ := q1
  cases r1 with | cons q2 r2 =>
  obtain ⟨t2, rfl⟩ := q2
  cases r2 with | cons q3 r3 =>
  obtain ⟨t3, rfl⟩ := q3
  cases r3
  refine ask_min (xs := #[(a0, t0), (a1, t1), (a2, t2), (a3, t3)]) (I.ok.hd hc) (by simp) (fun h => tree_min4 (by simpa [intItems] using h)) fun h' tk M t' hk hm hle => ⟨.int M, H, I.kept hk, ⟨_, rfl⟩, q M ?_ (hle _ (by simp)) (hle _ (by simp)) (hle _ (by simp)) (hle _ (by simp))⟩
  · simpa using hm
theorem call_min5 (hc : X.calm = true) : CallR X (.builtin "min") (fun xs H Q => ∃ a0 a1 a2 a3 a4 : Int, xs = [.int a0, .int a1, .int a2, .int a3, .int a4] ∧ ∀ m, (m = a0 ∨ m = a1 ∨ m = a2 ∨ m = a3 ∨ m = a4) → m ≤ a0 → m ≤ a1 → m ≤ a2 → m ≤ a3 → m ≤ a4 → Q (.int m) H) := by
  intro pins s σ H xs us Q I r h
  obtain ⟨a0, a1, a2, a3, a4, rfl, q⟩ := h
  cases r with | cons q0 r0 =>
  obtain ⟨t0, rfl⟩ := q0
  cases r0 with | cons q1 r1 =>
  obtain ⟨t1, rfl⟩ := q1
  cases r1 with | cons q2 r2 =>
  obtain ⟨t2, rfl⟩ := q2
  cases r2 with | cons q3 r3 =>
  obtain ⟨t3, rfl⟩ := q3
  cases r3 with | cons q4 r4 =>
  obtain ⟨t4, rfl⟩ := q4
  cases r4
  refine ask_min (xs := #[(a0, t0), (a1, t1), (a2, t2), (a3, t3), (a4, t4)]) (I.ok.hd hc) (by simp) (fun h => tree_min5 (by simpa [intItems] using h)) fun h' tk M t' hk hm hle => ⟨.int M, H, I.kept hk, ⟨_, rfl⟩, q M ?_ (hle _ (by simp)) (hle _ (by simp)) (hle _ (by simp)) (hle _ (by simp)) (hle _ (by simp))⟩
  · simpa using hm
end
end Ew

namespace Pu
open PySem PySem.Spec PyProof.Rows L2
variable [Tbs]
/-! ### calls of built-ins -/
def CallD (l : Bool) (mo : Mode) (r : List V → Hp → VK → Prop) (g : List D → (D → Prop) → Prop) : Prop := ∀ (z : Zn) (X : AP) (H0 H : Hp) (σ : Sl) (env : List SV) (vs : List V) (ds : List D) (Q : VK) (k : D → Prop), Ok z X H0 H σ env →
  IsA z (if l = true then Ms z X σ env else Zx z X) H vs ds → (∀ d w H', Evo z H H' → Rel mo z X H H' σ env w d → k d → Q w H') → g ds k → r vs H Q
def eCall (g : List D → (D → Prop) → Prop) (a : PAs) : PX := fun env k => a env fun ds => g ds k
section
variable {C : Cx} {e a b : Expr} {es : List Expr} {p q : PX} {ga : PAs} {m mo : Mode} {l : Bool} {pos pp : Pos} {x : Str} {id ty : String} {r : List V → Hp → VK → Prop} {g : List D → (D → Prop) → Prop}
theorem RE.cB {t : TA} (hd : CallD l mo r g) (h : RA l t ga) : RE mo (tCB r t) (eCall g ga) := fun z X H0 H σ env Q k o c hp =>
  h z X H0 H σ env _ _ o (fun ds vs H1 e1 r1 hx => hd z X H0 H1 σ env vs ds Q k (o.go e1) r1 (fun d w H2 e2 r2 kd => c d w H2 (e1.trans e2) (r2.early e1) kd) hx) hp
theorem e_callB (hc : CallR C (.builtin id) r) (hd : CallD l mo r g) (hg : Gl C x) (hm : C.mg x = none) (hv : bootBuiltins x = some (.builtin id)) (ha : A l C (e :: es) ga) (hn : x ≠ "__name__" := by decide) (hdb : (x == ("__debug__" : Str)) = false := by decide)
    (he : starEach (e :: es) C.env = (false, eval e C.env) :: starEach es C.env := by rfl) (hpl : (backTo pos (starEach es C.env)).any (·.1) = false := by rfl) : E mo C (.Call (.Name x pp) (e :: es) [] pos) (eCall g ga) := by
  obtain ⟨t, h1, h2⟩ := ha
  exact ⟨_, pe_callB hc hg hm hv h1 hn hdb he hpl, RE.cB hd h2⟩
theorem e_callTy (hc : CallR C (.type ty) r) (hd : CallD l mo r g) (hg : Gl C x) (hm : C.mg x = none) (hv : bootBuiltins x = some (.type ty)) (ha : A l C (e :: es) ga) (hn : x ≠ "__name__" := by decide) (hdb : (x == ("__debug__" : Str)) = false := by decide)
    (he : starEach (e :: es) C.env = (false, eval e C.env) :: starEach es C.env := by rfl) (hpl : (backTo pos (starEach es C.env)).any (·.1) = false := by rfl) : E mo C (.Call (.Name x pp) (e :: es) [] pos) (eCall g ga) := by
  obtain ⟨t, h1, h2⟩ := ha
  exact ⟨_, pe_callTy hc hg hm hv h1 hn hdb he hpl, RE.cB hd h2⟩
end
def gAbs : List D → (D → Prop) → Prop := fun ds k => match ds with
  | [.int i] => k (.int (if i < 0 then -i else i))
  | _ => False
theorem IsA.one {z : Zn} {M : AP} {H : Hp} {vs : List V} {d : D} (h : IsA z M H vs [d]) : ∃ v, vs = [v] ∧ Is z M H v d := by
  cases h with
  | cons q t => cases t; exact ⟨_, rfl, q⟩
theorem IsA.two {z : Zn} {M : AP} {H : Hp} {vs : List V} {d d' : D} (h : IsA z M H vs [d, d']) : ∃ v v', vs = [v, v'] ∧ Is z M H v d ∧ Is z M H v' d' := by
  cases h with
  | cons q t => obtain ⟨v', rfl, h⟩ := IsA.one t; exact ⟨_, _, rfl, q, h⟩
theorem cd_abs {l : Bool} : CallD l .e (fun xs H Q => ∃ i, xs = [.int i] ∧ Q (.int (if i < 0 then -i else i)) H) gAbs := fun z X H0 H σ env vs ds Q k o h c hp => by
  unfold gAbs at hp
  split at hp
  · rename_i i
    obtain ⟨v, rfl, hv⟩ := h.one
    cases hv
    exact ⟨i, rfl, c _ _ H (Evo.refl _ _) (Is.int _) hp⟩
  · exact hp.elim
/-- the greatest, the least of some numbers -/
def maxI : List Int → Int
  | [] => 0
  | [a] => a
  | a :: b :: r => max a (maxI (b :: r))
def minI : List Int → Int
  | [] => 0
  | [a] => a
  | a :: b :: r => min a (minI (b :: r))
theorem maxI_le : ∀ {ns : List Int} {n : Int}, n ∈ ns → n ≤ maxI ns
  | [a], n, h => by simp at h; subst h; exact Int.le_refl _
  | a :: b :: r, n, h => by
    show n ≤ max a (maxI (b :: r))
    rcases List.mem_cons.mp h with rfl | h
    · exact Int.le_max_left ..
    · exact Int.le_trans (maxI_le h) (Int.le_max_right ..)
theorem maxI_mem : ∀ {ns : List Int}, ns ≠ [] → maxI ns ∈ ns
  | [], h => absurd rfl h
  | [a], _ => List.mem_singleton.mpr rfl
  | a :: b :: r, _ => by
    show max a (maxI (b :: r)) ∈ _
    have q := maxI_mem (ns := b :: r) (by simp)
    rcases Int.le_total a (maxI (b :: r)) with h | h
    · rw [Int.max_eq_right h]; exact List.mem_cons_of_mem _ q
    · rw [Int.max_eq_left h]; exact List.mem_cons_self
theorem minI_le : ∀ {ns : List Int} {n : Int}, n ∈ ns → minI ns ≤ n
  | [a], n, h => by simp at h; subst h; exact Int.le_refl _
  | a :: b :: r, n, h => by
    show min a (minI (b :: r)) ≤ n
    rcases List.mem_cons.mp h with rfl | h
    · exact Int.min_le_left ..
    · exact Int.le_trans (Int.min_le_right ..) (minI_le h)
theorem minI_mem : ∀ {ns : List Int}, ns ≠ [] → minI ns ∈ ns
  | [], h => absurd rfl h
  | [a], _ => List.mem_singleton.mpr rfl
  | a :: b :: r, _ => by
    show min a (minI (b :: r)) ∈ _
    have q := minI_mem (ns := b :: r) (by simp)
    rcases Int.le_total a (minI (b :: r)) with h | h
    · rw [Int.min_eq_left h]; exact List.mem_cons_self
    · rw [Int.min_eq_right h]; exact List.mem_cons_of_mem _ q
theorem maxI_eq {ns : List Int} {m : Int} (h : m ∈ ns) (u : ∀ y ∈ ns, y ≤ m) : m = maxI ns := Int.le_antisymm (maxI_le h) (u _ (maxI_mem (List.ne_nil_of_mem h)))
theorem minI_eq {ns : List Int} {m : Int} (h : m ∈ ns) (u : ∀ y ∈ ns, m ≤ y) : m = minI ns := Int.le_antisymm (u _ (minI_mem (List.ne_nil_of_mem h))) (minI_le h)
def gMaxN : List D → (D → Prop) → Prop := fun ds k => match ds with
  | [.int a, .int b] => k (.int (max a b))
  | [.int a, .int b, .int c] => k (.int (max a (max b c)))
  | [.int a, .int b, .int c, .int d] => k (.int (max a (max b (max c d))))
  | [.int a, .int b, .int c, .int d, .int e] => k (.int (max a (max b (max c (max d e)))))
  | _ => False
def gMinN : List D → (D → Prop) → Prop := fun ds k => match ds with
  | [.int a, .int b] => k (.int (min a b))
  | [.int a, .int b, .int c] => k (.int (min a (min b c)))
  | [.int a, .int b, .int c, .int d] => k (.int (min a (min b (min c d))))
  | [.int a, .int b, .int c, .int d, .int e] => k (.int (min a (min b (min c (min d e)))))
  | _ => False
def rMaxN : List V → Hp → VK → Prop := fun xs H Q => (∃ i j, xs = [.int i, .int j] ∧ Q (.int (if j > i then j else i)) H) ∨
  (∃ a0 a1 a2 : Int, xs = [.int a0, .int a1, .int a2] ∧ ∀ m, (m = a0 ∨ m = a1 ∨ m = a2) → a0 ≤ m → a1 ≤ m → a2 ≤ m → Q (.int m) H) ∨
  (∃ a0 a1 a2 a3 : Int, xs = [.int a0, .int a1, .int a2, .int a3] ∧ ∀ m, (m = a0 ∨ m = a1 ∨ m = a2 ∨ m = a3) → a0 ≤ m → a1 ≤ m → a2 ≤ m → a3 ≤ m → Q (.int m) H) ∨
  (∃ a0 a1 a2 a3 a4 : Int, xs = [.int a0, .int a1, .int a2, .int a3, .int a4] ∧ ∀ m, (m = a0 ∨ m = a1 ∨ m = a2 ∨ m = a3 ∨ m = a4) → a0 ≤ m → a1 ≤ m → a2 ≤ m → a3 ≤ m → a4 ≤ m → Q (.int m) H)
def rMinN : List V → Hp → VK → Prop := fun xs H Q => (∃ i j, xs = [.int i, .int j] ∧ Q (.int (if j < i then j else i)) H) ∨
  (∃ a0 a1 a2 : Int, xs = [.int a0, .int a1, .int a2] ∧ ∀ m, (m = a0 ∨ m = a1 ∨ m = a2) → m ≤ a0 → m ≤ a1 → m ≤ a2 → Q (.int m) H) ∨
  (∃ a0 a1 a2 a3 : Int, xs = [.int a0, .int a1, .int a2, .int a3] ∧ ∀ m, (m = a0 ∨ m = a1 ∨ m = a2 ∨ m = a3) → m ≤ a0 → m ≤ a1 → m ≤ a2 → m ≤ a3 → Q (.int m) H) ∨
  (∃ a0 a1 a2 a3 a4 : Int, xs = [.int a0, .int a1, .int a2, .int a3, .int a4] ∧ ∀ m, (m = a0 ∨ m = a1 ∨ m = a2 ∨ m = a3 ∨ m = a4) → m ≤ a0 → m ≤ a1 → m ≤ a2 → m ≤ a3 → m ≤ a4 → Q (.int m) H)
theorem callr_or {C : Cx} {f : Value} {r r' : List V → Hp → VK → Prop} (h : CallR C f r) (h' : CallR C f r') : CallR C f (fun xs H Q => r xs H Q ∨ r' xs H Q) := fun pins s σ H xs us Q I rx q => q.elim (h pins s σ H xs us Q I rx) (h' pins s σ H xs us Q I rx)
theorem call_maxN {C : Cx} (hc : C.calm = true) : CallR C (.builtin "max") rMaxN := callr_or (call_max2 hc) (callr_or (Ew.call_max3 hc) (callr_or (Ew.call_max4 hc) (Ew.call_max5 hc)))
theorem call_minN {C : Cx} (hc : C.calm = true) : CallR C (.builtin "min") rMinN := callr_or (call_min2 hc) (callr_or (Ew.call_min3 hc) (callr_or (Ew.call_min4 hc) (Ew.call_min5 hc)))
theorem IsA.int1 {z : Zn} {M : AP} {H : Hp} {vs : List V} {i : Int} {ds : List D} (h : IsA z M H vs (.int i :: ds)) : ∃ us, vs = .int i :: us ∧ IsA z M H us ds := by
  cases h with
  | cons q t => cases q; exact ⟨_, rfl, t⟩
theorem IsA.nil' {z : Zn} {M : AP} {H : Hp} {vs : List V} (h : IsA z M H vs []) : vs = [] := by cases h; rfl
theorem cd_maxN {l : Bool} : CallD l .e rMaxN gMaxN := fun z X H0 H σ env vs ds Q k o h c hp => by
  unfold gMaxN at hp
  split at hp
  · cases IsA.ints (ns := [_, _]) h
    refine .inl ⟨_, _, rfl, c _ _ H (Evo.refl _ _) ?_ hp⟩
    have : ∀ a b : Int, (if b > a then b else a) = max a b := fun a b => by split <;> omega
    rw [this]
    exact Is.int _
  · cases IsA.ints (ns := [_, _, _]) h
    refine .inr (.inl ⟨_, _, _, rfl, fun m h1 h2 h3 h4 => c (.int m) _ H (Evo.refl _ _) (Is.int m) ?_⟩)
    rename_i a b d
    have : max a (max b d) = m := by omega
    rw [← this]; exact hp
  · cases IsA.ints (ns := [_, _, _, _]) h
    refine .inr (.inr (.inl ⟨_, _, _, _, rfl, fun m h1 h2 h3 h4 h5 => c (.int m) _ H (Evo.refl _ _) (Is.int m) ?_⟩))
    rename_i a b d e
    have : max a (max b (max d e)) = m := by omega
    rw [← this]; exact hp
  · cases IsA.ints (ns := [_, _, _, _, _]) h
    refine .inr (.inr (.inr ⟨_, _, _, _, _, rfl, fun m h1 h2 h3 h4 h5 h6 => c (.int m) _ H (Evo.refl _ _) (Is.int m) ?_⟩))
    rename_i a b d e f
    have : max a (max b (max d (max e f))) = m := by omega
    rw [← this]; exact hp
  · exact hp.elim
theorem cd_minN {l : Bool} : CallD l .e rMinN gMinN := fun z X H0 H σ env vs ds Q k o h c hp => by
  unfold gMinN at hp
  split at hp
  · cases IsA.ints (ns := [_, _]) h
    refine .inl ⟨_, _, rfl, c _ _ H (Evo.refl _ _) ?_ hp⟩
    have : ∀ a b : Int, (if b < a then b else a) = min a b := fun a b => by split <;> omega
    rw [this]
    exact Is.int _
  · cases IsA.ints (ns := [_, _, _]) h
    refine .inr (.inl ⟨_, _, _, rfl, fun m h1 h2 h3 h4 => c (.int m) _ H (Evo.refl _ _) (Is.int m) ?_⟩)
    rename_i a b d
    have : min a (min b d) = m := by omega
    rw [← this]; exact hp
  · cases IsA.ints (ns := [_, _, _, _]) h
    refine .inr (.inr (.inl ⟨_, _, _, _, rfl, fun m h1 h2 h3 h4 h5 => c (.int m) _ H (Evo.refl _ _) (Is.int m) ?_⟩))
    rename_i a b d e
    have : min a (min b (min d e)) = m := by omega
    rw [← this]; exact hp
  · cases IsA.ints (ns := [_, _, _, _, _]) h
    refine .inr (.inr (.inr ⟨_, _, _, _, _, rfl, fun m h1 h2 h3 h4 h5 h6 => c (.int m) _ H (Evo.refl _ _) (Is.int m) ?_⟩))
    rename_i a b d e f
    have : min a (min b (min d (min e f))) = m := by omega
    rw [← this]; exact hp
  · exact hp.elim
/-- of a list of numbers -/
def gMaxL : List D → (D → Prop) → Prop := fun ds k => ∃ xs ns, ds = [.lst xs] ∧ intsD xs = some ns ∧ ns ≠ [] ∧ k (.int (maxI ns))
def gMinL : List D → (D → Prop) → Prop := fun ds k => ∃ xs ns, ds = [.lst xs] ∧ intsD xs = some ns ∧ ns ≠ [] ∧ k (.int (minI ns))
def gSum : List D → (D → Prop) → Prop := fun ds k => ∃ xs ns, ds = [.lst xs] ∧ intsD xs = some ns ∧ k (.int ns.sum)
theorem one_ints {z : Zn} {M : AP} {H : Hp} {vs : List V} {xs : List D} {ns : List Int} (h : IsA z M H vs [.lst xs]) (hi : intsD xs = some ns) : ∃ a, vs = [.ref a] ∧ H a = some (.lst (ns.map V.int)) := by
  obtain ⟨v, rfl, hv⟩ := h.one
  cases intsD_eq hi
  cases hv with
  | lst e n r => exact ⟨_, rfl, by rw [← r.ints]; exact e⟩
theorem cd_maxL {l : Bool} {K : PySem.W.Frag} : CallD l .e (rMax K) gMaxL := fun z X H0 H σ env vs ds Q k o h c hp => by
  obtain ⟨xs, ns, rfl, hi, hne, hk⟩ := hp
  obtain ⟨a, rfl, ha⟩ := one_ints h hi
  refine ⟨a, ns, rfl, SqL.of ha, List.length_pos_iff.mpr hne, fun m h1 h2 => ?_⟩
  rw [maxI_eq h1 h2]
  exact c _ _ H (Evo.refl _ _) (Is.int _) hk
theorem cd_minL {l : Bool} {K : PySem.W.Frag} : CallD l .e (rMin K) gMinL := fun z X H0 H σ env vs ds Q k o h c hp => by
  obtain ⟨xs, ns, rfl, hi, hne, hk⟩ := hp
  obtain ⟨a, rfl, ha⟩ := one_ints h hi
  refine ⟨a, ns, rfl, SqL.of ha, List.length_pos_iff.mpr hne, fun m h1 h2 => ?_⟩
  rw [minI_eq h1 h2]
  exact c _ _ H (Evo.refl _ _) (Is.int _) hk
theorem cd_sum {l : Bool} {K : PySem.W.Frag} : CallD l .e (rSum K) gSum := fun z X H0 H σ env vs ds Q k o h c hp => by
  obtain ⟨xs, ns, rfl, hi, hk⟩ := hp
  obtain ⟨a, rfl, ha⟩ := one_ints h hi
  exact ⟨a, ns, rfl, SqL.of ha, c _ _ H (Evo.refl _ _) (Is.int _) hk⟩
/-- len -/
def gLen : List D → (D → Prop) → Prop := fun ds k => match ds with
  | [.tup xs] => k (.int xs.length)
  | [.lst xs] => k (.int xs.length)
  | [.str s] => s.length ≤ 100000 ∧ k (.int s.length)
  | _ => False
def rLenA (K : PySem.W.Frag) : List V → Hp → VK → Prop := fun xs H Q => (∃ p ys, xs = [.ref p] ∧ (SqL K H p ys ∨ SqT K H p ys) ∧ Q (.int ys.length) H) ∨ (∃ z, xs = [.str z] ∧ z.length ≤ sizeLine ∧ Q (.int z.length) H)
theorem call_lenA {C : Cx} : CallR C (.builtin "len") (rLenA C.K) := callr_or call_len_seq call_len_str
theorem cd_len {l : Bool} {K : PySem.W.Frag} : CallD l .e (rLenA K) gLen := fun z X H0 H σ env vs ds Q k o h c hp => by
  unfold gLen at hp
  split at hp
  · obtain ⟨v, rfl, hv⟩ := h.one
    cases hv with
    | tup e n r => exact .inl ⟨_, _, rfl, .inr (SqT.of e), by rw [r.length]; exact c _ _ H (Evo.refl _ _) (Is.int _) hp⟩
  · obtain ⟨v, rfl, hv⟩ := h.one
    cases hv with
    | lst e n r => exact .inl ⟨_, _, rfl, .inl (SqL.of e), by rw [r.length]; exact c _ _ H (Evo.refl _ _) (Is.int _) hp⟩
  · obtain ⟨v, rfl, hv⟩ := h.one
    cases hv
    exact .inr ⟨_, rfl, sz hp.1, c _ _ H (Evo.refl _ _) (Is.int _) hp.2⟩
  · exact hp.elim
/-- int of a truth or a number -/
def gInt : List D → (D → Prop) → Prop := fun ds k => match ds with
  | [.int i] => k (.int i)
  | [.bl b] => k (.int (if b then 1 else 0))
  | _ => False
theorem cd_int {l : Bool} : CallD l .e (fun xs H Q => (∃ i, xs = [.int i] ∧ Q (.int i) H) ∨ ∃ k, xs = [.bl k] ∧ Q (.int (if k then 1 else 0)) H) gInt := fun z X H0 H σ env vs ds Q k o h c hp => by
  unfold gInt at hp
  split at hp
  · obtain ⟨v, rfl, hv⟩ := h.one
    cases hv
    exact .inl ⟨_, rfl, c _ _ H (Evo.refl _ _) (Is.int _) hp⟩
  · obtain ⟨v, rfl, hv⟩ := h.one
    cases hv
    exact .inr ⟨_, rfl, c _ _ H (Evo.refl _ _) (Is.int _) hp⟩
  · exact hp.elim
/-- isinstance -/
def tyD : D → Option String
  | .non => some "NoneType"
  | .bl _ => some "bool"
  | .int _ => some "int"
  | .str _ => some "str"
  | .tup _ => some "tuple"
  | .lst _ => some "list"
  | .dic _ => some "dict"
  | _ => none
def isB : String → String → Option Bool
  | "int", "int" => some true
  | "bool", "int" => some true
  | "bool", "bool" => some true
  | "str", "str" => some true
  | "tuple", "tuple" => some true
  | "list", "list" => some true
  | "dict", "dict" => some true
  | "NoneType", "int" => some false
  | "NoneType", "bool" => some false
  | "NoneType", "str" => some false
  | "NoneType", "tuple" => some false
  | "NoneType", "list" => some false
  | "NoneType", "dict" => some false
  | "bool", "str" => some false
  | "bool", "tuple" => some false
  | "bool", "list" => some false
  | "bool", "dict" => some false
  | "int", "bool" => some false
  | "int", "str" => some false
  | "int", "tuple" => some false
  | "int", "list" => some false
  | "int", "dict" => some false
  | "str", "int" => some false
  | "str", "bool" => some false
  | "str", "tuple" => some false
  | "str", "list" => some false
  | "str", "dict" => some false
  | "tuple", "int" => some false
  | "tuple", "bool" => some false
  | "tuple", "str" => some false
  | "tuple", "list" => some false
  | "tuple", "dict" => some false
  | "list", "int" => some false
  | "list", "bool" => some false
  | "list", "str" => some false
  | "list", "tuple" => some false
  | "list", "dict" => some false
  | "dict", "int" => some false
  | "dict", "bool" => some false
  | "dict", "str" => some false
  | "dict", "tuple" => some false
  | "dict", "list" => some false
  | _, _ => none
theorem isB_kit {a b : String} {r : Bool} (h : isB a b = some r) : kitB a b = some r := by
  unfold isB at h
  split at h <;> first | (cases h; decide +kernel) | cases h
def gIsi : List D → (D → Prop) → Prop := fun ds k => match ds with
  | [x, .ty n] => ∃ t b, tyD x = some t ∧ isB t n = some b ∧ k (.bl b)
  | _ => False
theorem Is.ty' {z : Zn} {M : AP} {H : Hp} {v : V} {d : D} {K : PySem.W.Frag} {t : String} (h : Is z M H v d) (e : tyD d = some t) : TyOf K H v (.type t) := by
  cases h with
  | non => cases e; exact .non
  | bl b => cases e; exact .bl b
  | int b => cases e; exact .int b
  | str b => cases e; exact .str b
  | tup h _ _ => cases e; exact .tup h
  | lst h _ _ => cases e; exact .lst h
  | dic h _ _ => cases e; exact .dK h
  | _ => cases e
theorem cd_isi {l : Bool} {K : PySem.W.Frag} : CallD l .e (rIsi K) gIsi := fun z X H0 H σ env vs ds Q k o h c hp => by
  unfold gIsi at hp
  split at hp
  · obtain ⟨v, u, rfl, hv, hu⟩ := h.two
    cases hu
    obtain ⟨t, b, h1, h2, hk⟩ := hp
    exact ⟨v, .ty _, .type t, .type _, b, rfl, .ty _, .base (hv.ty' h1), kit_ty (isB_kit h2), c _ _ H (Evo.refl _ _) (Is.bl _) hk⟩
  · exact hp.elim
section
variable {C : Cx} {e : Expr} {p : PX} {m : Mode} {pos pp : Pos} {x : Str}
/-- tuple(x), list(x) -/
def dTuple : D → (D → Prop) → Prop := fun d k => match d with
  | .lst xs => k (.tup xs)
  | .tup xs => k (.tup xs)
  | _ => False
def dList : D → (D → Prop) → Prop := fun d k => match d with
  | .lst xs => k (.lst xs)
  | .tup xs => k (.lst xs)
  | _ => False
theorem e_tuple (h : E .c C e p) (hg : Gl C x) (hm : C.mg x = none) (hv : bootBuiltins x = some (.type "tuple")) (hn : x ≠ "__name__" := by decide) (hdb : (x == ("__debug__" : Str)) = false := by decide)
    (he : starEach [e] C.env = (false, eval e C.env) :: starEach [] C.env := by rfl) (hpl : (backTo pos (starEach [] C.env)).any (·.1) = false := by rfl) : E .e C (.Call (.Name x pp) [e] [] pos) (eUn dTuple p) := by
  obtain ⟨t, h1, h2⟩ := h
  refine ⟨_, pe_callTy call_tuple_of hg hm hv (pa_cons h1 pa_nil he) hn hdb he hpl, fun z X H0 H σ env Q k o c hp => h2 z X H0 H σ env _ _ o (fun d v H1 e1 r1 hx => ?_) hp⟩
  cases d with
  | tup xs =>
    obtain ⟨a, vs, rfl, q1, q2, n⟩ := r1.conT
    exact ⟨a, vs, rfl, .inr ⟨SqT.of q1, c _ _ H1 e1 (Is.tup q1 n q2) hx⟩⟩
  | lst xs =>
    obtain ⟨a, vs, rfl, q1, q2, n⟩ := r1.conL
    exact ⟨a, vs, rfl, .inl ⟨SqL.of q1, fun q hq => c _ _ _ (e1.new hq) ((Rel.newT (e1.fresh hq) hq q2).fe o) hx⟩⟩
  | _ => exact (show False from hx).elim
theorem e_list (h : E .c C e p) (hg : Gl C x) (hm : C.mg x = none) (hv : bootBuiltins x = some (.type "list")) (hn : x ≠ "__name__" := by decide) (hdb : (x == ("__debug__" : Str)) = false := by decide)
    (he : starEach [e] C.env = (false, eval e C.env) :: starEach [] C.env := by rfl) (hpl : (backTo pos (starEach [] C.env)).any (·.1) = false := by rfl) : E .f C (.Call (.Name x pp) [e] [] pos) (eUn dList p) := by
  obtain ⟨t, h1, h2⟩ := h
  refine ⟨_, pe_callTy call_list_of hg hm hv (pa_cons h1 pa_nil he) hn hdb he hpl, fun z X H0 H σ env Q k o c hp => h2 z X H0 H σ env _ _ o (fun d v H1 e1 r1 hx => ?_) hp⟩
  cases d with
  | tup xs =>
    obtain ⟨a, vs, rfl, q1, q2, n⟩ := r1.conT
    exact ⟨a, vs, rfl, .inr (SqT.of q1), fun q hq => c _ _ _ (e1.new hq) (Rel.newL (e1.fresh hq) hq q2) hx⟩
  | lst xs =>
    obtain ⟨a, vs, rfl, q1, q2, n⟩ := r1.conL
    exact ⟨a, vs, rfl, .inl (SqL.of q1), fun q hq => c _ _ _ (e1.new hq) (Rel.newL (e1.fresh hq) hq q2) hx⟩
  | _ => exact (show False from hx).elim
/-- [x] * n -/
def dRep : D → D → (D → Prop) → Prop := fun x y k => match x, y with
  | .lst xs, .int i => i < 100000 ∧ xs.length * i.toNat ≤ 100000 ∧ -100000 < i ∧ k (.lst (List.replicate i.toNat xs).flatten)
  | _, _ => False
theorem IsA.rep {z : Zn} {M : AP} {H : Hp} {vs : List V} {ds : List D} (h : IsA z M H vs ds) : ∀ n : Nat, IsA z M H (List.replicate n vs).flatten (List.replicate n ds).flatten
  | 0 => .nil
  | n + 1 => by
    rw [List.replicate_succ, List.replicate_succ, List.flatten_cons, List.flatten_cons]
    exact h.append (IsA.rep h n)
theorem opd_rep : OpD .c .f rRep dRep := fun z X H0 H σ env v u x y Q k o r1 r2 c hp => by
  cases x with
  | lst xs =>
    cases y with
    | int i =>
      obtain ⟨h1, h2, h3, hk⟩ := hp
      obtain ⟨a, vs, rfl, q1, q2, n⟩ := r1.conL
      exact ⟨a, i, vs, rfl, r2.intC, q1, by omega, by omega, sz (by rw [q2.length]; exact h2), fun q hq => c _ _ _ ((Evo.refl _ _).new hq) (Rel.newL hq hq (q2.rep _)) hk⟩
    | _ => exact (show False from hp).elim
  | _ => exact (show False from hp).elim
end

/-! ### calls of the program's own defs -/
/-- the promise of a def by its reading wp without places; fr: it gives a new list -/
def Sf (fr : Bool) (n : Nat) (wp : List D → (D → Prop) → Prop) : Sp := fun vs H Q _ => ∃ (z : Zn) (X : AP) (ds : List D) (k : D → Prop), vs.length = n ∧ ((∀ a, z.Z a → H a ≠ none) ∧ Tabs H) ∧ (∀ a, X a → H a ≠ none ∧ ¬ z.Z a) ∧ IsA z (Zx z X) H vs ds ∧ wp ds k ∧
  ∀ d v H', Evo z H H' → Is z (Zx z X) H' v d → (fr = true → ∃ a, v = .ref a ∧ H a = none ∧ Con z (Zx z (X.or a)) H' a d) → k d → Q v H'
section
variable {C : Cx} {e : Expr} {es : List Expr} {p : PX} {ga : PAs} {m mo : Mode} {fr : Bool} {k n : Nat} {pos pp : Pos} {x : Str} {f : Addr} {fd : FuncData} {ps : List Str} {wp : List D → (D → Prop) → Prop}
/-- what slots own, and X -/
def Ox (X : AP) (σ : Sl) (env : List SV) : AP := fun a => X a ∨ ∃ (i : Nat) (d : D), env[i]? = some (.own d) ∧ σ[i]? = some (some (V.ref a))
theorem Ok.ox {z : Zn} {X : AP} {H0 H : Hp} {σ : Sl} {env : List SV} (o : Ok z X H0 H σ env) {a : Addr} (h : Ox X σ env a) : H a ≠ none ∧ ¬ z.Z a := by
  rcases h with h | ⟨i, d, h1, h2⟩
  · exact o.xal a h
  · obtain ⟨b, q1, q2, q3, _⟩ := o.own i d h1
    rw [h2] at q1
    cases q1
    obtain ⟨u, hu⟩ := q2.some
    exact ⟨(by rw [hu]; intro w; cases w), q3⟩
theorem zx_ox {z : Zn} {X : AP} {σ : Sl} {env : List SV} {a : Addr} : Zx z (Ox X σ env) a ↔ Ms z X σ env a := by
  constructor
  · rintro (h | h | h)
    · exact .inl h
    · exact .inr (.inl h)
    · exact .inr (.inr h)
  · rintro (h | h | h)
    · exact .inl h
    · exact .inr (.inl h)
    · exact .inr (.inr h)
theorem re_call {t : TA} (h : RA true t ga) (E' : XK) (hm : mo = .e ∨ (mo = .f ∧ fr = true)) : RE mo (tCall (Sf fr n wp) [] E' t) (eCall (fun ds k => ds.length = n ∧ wp ds k) ga) := fun z X H0 H σ env Q k o c hp => by
  refine h z X H0 H σ env _ _ o (fun ds vs H1 e1 r1 hx => ?_) hp
  have o1 := o.go e1
  rw [if_pos rfl] at r1
  refine ⟨z, Ox X σ env, ds, k, by rw [List.append_nil, r1.length]; exact hx.1, ⟨o1.zal, o1.tab⟩, fun a => o1.ox, by rw [List.append_nil]; exact r1.weak fun a q => zx_ox.mp q, hx.2, fun d v H2 e2 r2 fq kd => ?_⟩
  refine c d v H2 (e1.trans e2) ?_ kd
  rcases hm with rfl | ⟨rfl, hf⟩
  · exact Is.weak (fun a q => zx_ox.mpr q) r2
  · obtain ⟨a, ev, ha, hc⟩ := fq hf
    refine ⟨a, ev, e1.fresh ha, hc.gen (fun _ q => q) (fun b u q n => ⟨q, fun y => n ?_⟩) fun _ h => h⟩
    rcases y with y | (y | y) | y
    · exact .inl y
    · exact .inr (.inl (.inl y))
    · exact .inr (.inr y)
    · exact .inr (.inl (.inr y))
/-- with arguments for a look only -/
theorem re_callB {t : TA} (h : RA false t ga) (E' : XK) : RE .b (tCall (Sf fr n wp) [] E' t) (eCall (fun ds k => ds.length = n ∧ wp ds k) ga) := fun z X H0 H σ env Q k o c hp => by
  refine h z X H0 H σ env _ _ o (fun ds vs H1 e1 r1 hx => ?_) hp
  have o1 := o.go e1
  rw [if_neg Bool.false_ne_true] at r1
  exact ⟨z, X, ds, k, by rw [List.append_nil, r1.length]; exact hx.1, ⟨o1.zal, o1.tab⟩, o1.xal, by rw [List.append_nil]; exact r1, hx.2, fun d v H2 e2 r2 fq kd => c d v H2 (e1.trans e2) r2 kd⟩
theorem e_call (F : FnOk C.prog C.w C.K C.mg C.base CX0 k f fd ps (Sf fr n wp)) (hr : Room k C.A) (hg : Gl C x) (hm : C.mg x = some (.ref f)) (hk : PySem.W.keepIn C.K (.ref f) = true) (hb : Binds C.K fd ps [])
    (ha : A true C (e :: es) ga) (hmo : mo = .e ∨ (mo = .f ∧ fr = true)) (hdb : (x == ("__debug__" : Str)) = false := by decide) (he : starEach (e :: es) C.env = (false, eval e C.env) :: starEach es C.env := by rfl) (hpl : (backTo pos (starEach es C.env)).any (·.1) = false := by rfl) :
    E mo C (.Call (.Name x pp) (e :: es) [] pos) (eCall (fun ds k => ds.length = n ∧ wp ds k) ga) := by
  obtain ⟨t, h1, h2⟩ := ha
  exact ⟨_, pe_call F hr hg hm hk hb .nil pass0 h1 hdb he hpl, re_call h2 E0 hmo⟩
theorem e_callL (F : FnOk C.prog C.w C.K C.mg C.base CX0 k f fd ps (Sf fr n wp)) (hr : Room k C.A) (hg : Gl C x) (hm : C.mg x = some (.ref f)) (hk : PySem.W.keepIn C.K (.ref f) = true) (hb : Binds C.K fd ps [])
    (ha : A false C (e :: es) ga) (hdb : (x == ("__debug__" : Str)) = false := by decide) (he : starEach (e :: es) C.env = (false, eval e C.env) :: starEach es C.env := by rfl) (hpl : (backTo pos (starEach es C.env)).any (·.1) = false := by rfl) :
    E .b C (.Call (.Name x pp) (e :: es) [] pos) (eCall (fun ds k => ds.length = n ∧ wp ds k) ga) := by
  obtain ⟨t, h1, h2⟩ := ha
  exact ⟨_, pe_call F hr hg hm hk hb .nil pass0 h1 hdb he hpl, re_callB h2 E0⟩
end
end Pu

namespace Pu
open PySem PySem.Spec PyProof.Rows L2
variable [Tbs]
/-! ### statements -/
structure PK' where
  nx : List SV → Prop
  rt : D → Prop
  bk : List SV → Prop := fun _ => False
  ct : List SV → Prop := fun _ => False
  /-- a return of a def that hands a borrowed thing back -/
  re : List SV → D → Prop := fun _ _ => False
abbrev PSt := List SV → PK' → Prop
structure Sim (fr : Bool) (z : Zn) (X : AP) (H0 : Hp) (M : AP) (H : Hp) (G : Ends) (k : PK') : Prop where
  nx : ∀ env' σ' H', Ok z X H0 H' σ' env' → Fr z X M H (Ms z X σ' env') H' → k.nx env' → G.nx σ' H'
  rt : ∀ d v H', Evo z H0 H' → Is z (Zx z X) H' v d → (fr = true → ∃ a, v = .ref a ∧ H0 a = none ∧ Con z (Zx z (X.or a)) H' a d) → k.rt d → G.rt v H'
  bk : ∀ env' σ' H', Ok z X H0 H' σ' env' → Fr z X M H (Ms z X σ' env') H' → k.bk env' → G.bk σ' H'
  ct : ∀ env' σ' H', Ok z X H0 H' σ' env' → Fr z X M H (Ms z X σ' env') H' → k.ct env' → G.ct σ' H'
  re : ∀ env' σ' H' d v, Ok z X H0 H' σ' env' → Is z (Ms z X σ' env') H' v d → k.re env' d → G.rt v H'
theorem Sim.go {fr : Bool} {z : Zn} {X : AP} {H0 : Hp} {M M1 : AP} {H H1 : Hp} {G : Ends} {k : PK'} (s : Sim fr z X H0 M H G k) (f : Fr z X M H M1 H1) : Sim fr z X H0 M1 H1 G k :=
  ⟨fun e σ H' o g h => s.nx e σ H' o (f.trans g) h, s.rt, fun e σ H' o g h => s.bk e σ H' o (f.trans g) h, fun e σ H' o g h => s.ct e σ H' o (f.trans g) h, s.re⟩
def RS (fr : Bool) (t : TS) (p : PSt) : Prop := ∀ (z : Zn) (X : AP) (H0 H : Hp) (σ : Sl) (env : List SV) (G : Ends) (k : PK'), Ok z X H0 H σ env → Sim fr z X H0 (Ms z X σ env) H G k → p env k → t G σ H
structure S (fr : Bool) (C : Cx) (st : Stmt) (p : PSt) : Prop where
  ex : ∃ t, PS C st t ∧ RS fr t p
structure B (fr : Bool) (C : Cx) (st : List Stmt) (p : PSt) : Prop where
  ex : ∃ t, PSs C st t ∧ RS fr t p
section
variable {C : Cx} {fr : Bool} {st : Stmt} {rest : List Stmt} {p q : PSt} {e : Expr} {pe : PX} {m : Mode} {pos : Pos}
def sNext : PSt := fun env k => k.nx env
def sSeq (p q : PSt) : PSt := fun env k => p env { k with nx := fun env' => q env' k }
theorem b_nil : B fr C [] sNext := ⟨_, pss_nil, fun z X H0 H σ env G k o s h => s.nx env σ H o Fr.refl h⟩
theorem b_cons (h : S fr C st p) (g : B fr C rest q) : B fr C (st :: rest) (sSeq p q) := by
  obtain ⟨t, h1, h2⟩ := h
  obtain ⟨u, g1, g2⟩ := g
  refine ⟨_, pss_cons h1 g1, fun z X H0 H σ env G k o s hp => h2 z X H0 H σ env _ { k with nx := fun env' => q env' k } o ⟨fun env' σ' H' o' f hx => ?_, s.rt, s.bk, s.ct, s.re⟩ hp⟩
  exact g2 z X H0 H' σ' env' G k o' (s.go f) hx
theorem b_one (h : S fr C st p) : B fr C [st] p := let ⟨t, h1, h2⟩ := h; ⟨t, pss_one h1, h2⟩
theorem s_pass : S fr C (.Pass pos) sNext := ⟨_, ps_pass, fun z X H0 H σ env G k o s h => s.nx env σ H o Fr.refl h⟩
def sBreak : PSt := fun env k => k.bk env
def sCont : PSt := fun env k => k.ct env
theorem s_break : S fr C (.Break pos) sBreak := ⟨_, ps_break, fun z X H0 H σ env G k o s h => s.bk env σ H o Fr.refl h⟩
theorem s_cont : S fr C (.Continue pos) sCont := ⟨_, ps_continue, fun z X H0 H σ env G k o s h => s.ct env σ H o Fr.refl h⟩
def sDrop (p : PX) : PSt := fun env k => p env fun _ => k.nx env
theorem s_expr (h : E m C e pe) (hs : swapsWith e none pos.line C.env = pure false := by rfl) : S fr C (.Expr e pos) (sDrop pe) := by
  obtain ⟨t, h1, h2⟩ := h
  exact ⟨_, ps_expr h1 hs, fun z X H0 H σ env G k o s hp => h2 z X H0 H σ env _ _ o (fun d v H1 e1 r1 hx => s.nx env σ H1 (o.go e1) (o.fr e1) hx) hp⟩
def sRet (p : PX) : PSt := fun env k => p env k.rt
theorem s_ret (h : E m C e pe) : S false C (.Return (some e) pos) (sRet pe) := by
  obtain ⟨t, h1, h2⟩ := h.toB
  exact ⟨_, ps_ret h1, fun z X H0 H σ env G k o s hp => h2 z X H0 H σ env _ _ o (fun d v H1 e1 r1 hx => s.rt d v H1 (o.evo.trans e1) r1 (fun q => Bool.noConfusion q) hx) hp⟩
theorem s_retF (h : E .f C e pe) : S true C (.Return (some e) pos) (sRet pe) := by
  obtain ⟨t, h1, h2⟩ := h
  refine ⟨_, ps_ret h1, fun z X H0 H σ env G k o s hp => h2 z X H0 H σ env _ _ o (fun d v H1 e1 r1 hx => s.rt d v H1 (o.evo.trans e1) (r1.fe o).eb (fun _ => ?_) hx) hp⟩
  obtain ⟨a, ev, ha, hc⟩ := r1
  refine ⟨a, ev, o.evo.fresh ha, hc.gen (fun _ q => q) (fun b u q n => ⟨q, fun y => n ?_⟩) fun _ h => h⟩
  rcases y with y | y
  · exact .inl y
  · exact .inr (.inl y)
/-- return of a list that a slot owns -/
def sRetO (i : Nat) : PSt := fun env k => match env[i]? with
  | some (.own d) => k.rt d
  | _ => False
theorem s_retO (i : Nat) {x : Str} {pp : Pos} (hN : C.N[i]? = some x := by rfl) (hv : Vis C.env.scope x := by first | exact Or.inl rfl | exact Or.inr (Or.inl rfl) | exact Or.inr (Or.inr rfl)) (hd : (x == ("__debug__" : Str)) = false := by decide)
    (hcd : (x == ("__classdict__" : Str)) = false := by decide) : S fr C (.Return (some (.Name x pp)) pos) (sRetO i) := by
  refine ⟨_, ps_ret (pe_var hN hv hd hcd), fun z X H0 H σ env G k o s hp => ?_⟩
  unfold sRetO at hp
  split at hp
  · rename_i d he
    obtain ⟨a, h1, h2, h3, h4, h5⟩ := o.own i d he
    refine ⟨_, h1, s.rt d _ H o.evo ((h2.gen (fun _ q => q) (fun b u q n => ⟨q, fun y => n y.ms⟩) fun _ h => h).is fun q => q.elim h3 h4) (fun _ => ⟨a, rfl, h5, h2.gen (fun _ q => q) (fun b u q n => ⟨q, fun y => n ?_⟩) fun _ h => h⟩) hp⟩
    rcases y with y | y | y
    · exact .inl y
    · exact .inr (.inl y)
    · exact .inr (.inr ⟨i, d, he, by rw [y]; exact h1⟩)
  · exact hp.elim
def sRetN : PSt := fun _ k => k.rt .non
theorem s_retN : S false C (.Return none pos) sRetN := ⟨_, ps_retN, fun z X H0 H σ env G k o s hp => s.rt .non .non H o.evo .non (fun q => Bool.noConfusion q) hp⟩
def sIf (c : PTs') (p q : PSt) : PSt := fun env k => c env fun b => if b = true then p env k else q env k
theorem s_if {c : Expr} {a b : List Stmt} {tc : PTs'} (h : T C c tc) (ha : B fr C a p) (hb : B fr C b q) : S fr C (.If c a b pos) (sIf tc p q) := by
  obtain ⟨t, h1, h2⟩ := h
  obtain ⟨ta, a1, a2⟩ := ha
  obtain ⟨tb, b1, b2⟩ := hb
  refine ⟨_, ps_if h1 a1 b1, fun z X H0 H σ env G k o s hp => h2 z X H0 H σ env _ _ o (fun x H1 e1 hx => ?_) hp⟩
  cases x with
  | true => exact a2 z X H0 H1 σ env G k (o.go e1) (s.go (o.fr e1)) hx
  | false => exact b2 z X H0 H1 σ env G k (o.go e1) (s.go (o.fr e1)) hx
/-! ### stores -/
def sSet (i : Nat) (p : PX) : PSt := fun env k => p env fun d => k.nx (env.set i (.val d))
theorem s_set {i : Nat} {x : Str} {pp : Pos} (h : E .e C e pe) (hN : C.N.Nodup) (hi : C.N[i]? = some x) (hx : Loc C.env.scope x) (hs : swapsWith e (some (.Name x pp)) pos.line C.env = pure false := by rfl) (hf : C.fn x = true ∨ C.env.scope.names.lookup x = some .local := by first | exact .inl rfl | exact .inr rfl | assumption) :
    S fr C (.Assign [.Name x pp] e pos) (sSet i pe) := by
  obtain ⟨t, h1, h2⟩ := h
  refine ⟨_, ps_set hN hi hx h1 hs hf, fun z X H0 H σ env G k o s hp => h2 z X H0 H σ env _ _ o (fun d v H1 e1 r1 hx => ?_) hp⟩
  obtain ⟨o2, f2⟩ := (o.go e1).set (i := i) (show Is z _ H1 v d from r1)
  exact s.nx _ _ H1 o2 ((o.fr e1).trans f2) hx
def sOwn (i : Nat) (p : PX) : PSt := fun env k => p env fun d => i < env.length ∧ k.nx (env.set i (.own d))
theorem rs_own {i : Nat} {t : TE} (h : RE .f t pe) : RS fr (tAsg t (gName i)) (sOwn i pe) := fun z X H0 H σ env G k o s hp => h z X H0 H σ env _ _ o (fun d v H1 e1 r1 hx => by
  obtain ⟨a, rfl, ha, hc⟩ := r1
  obtain ⟨o2, f2⟩ := o.take hx.1 e1 ha hc
  exact s.nx _ _ H1 o2 f2 hx.2) hp
theorem s_own {i : Nat} {x : Str} {pp : Pos} (h : E .f C e pe) (hN : C.N.Nodup) (hi : C.N[i]? = some x) (hx : Loc C.env.scope x) (hs : swapsWith e (some (.Name x pp)) pos.line C.env = pure false := by rfl) (hf : C.fn x = true ∨ C.env.scope.names.lookup x = some .local := by first | exact .inl rfl | exact .inr rfl | assumption) :
    S fr C (.Assign [.Name x pp] e pos) (sOwn i pe) := by
  obtain ⟨t, h1, h2⟩ := h
  exact ⟨_, ps_set hN hi hx h1 hs hf, rs_own h2⟩
/-- targets -/
abbrev PGt := D → List SV → (List SV → Prop) → Prop
abbrev PGs' := List D → List SV → (List SV → Prop) → Prop
/-- nothing but the slots js is stored to -/
def Keep (js : List Nat) (σ : Sl) (env : List SV) (σ' : Sl) (env' : List SV) : Prop := σ'.length = σ.length ∧ ∀ i, i ∉ js → env'[i]? = env[i]? ∧ σ'[i]? = σ[i]?
theorem Keep.refl {σ : Sl} {env : List SV} : Keep [] σ env σ env := ⟨rfl, fun _ _ => ⟨rfl, rfl⟩⟩
theorem Keep.trans {a b : List Nat} {σ σ1 σ2 : Sl} {env env1 env2 : List SV} (h : Keep a σ env σ1 env1) (g : Keep b σ1 env1 σ2 env2) : Keep (a ++ b) σ env σ2 env2 :=
  ⟨g.1.trans h.1, fun i hi => by
    rw [List.mem_append, not_or] at hi
    exact ⟨(g.2 i hi.2).1.trans (h.2 i hi.1).1, (g.2 i hi.2).2.trans (h.2 i hi.1).2⟩⟩
def RG (js : List Nat) (g : TG) (p : PGt) : Prop := ∀ (z : Zn) (X : AP) (H0 H : Hp) (σ : Sl) (env : List SV) (v : V) (d : D) (Q : Sl → Hp → Prop) (k : List SV → Prop), Ok z X H0 H σ env → Is z (Ms z X σ env) H v d →
  (∀ env' σ', Ok z X H0 H σ' env' → Fr z X (Ms z X σ env) H (Ms z X σ' env') H → Keep js σ env σ' env' → k env' → Q σ' H) → p d env k → g v σ H Q
def RGs (js : List Nat) (g : TGs) (p : PGs') : Prop := ∀ (z : Zn) (X : AP) (H0 H : Hp) (σ : Sl) (env : List SV) (v : List V) (d : List D) (Q : Sl → Hp → Prop) (k : List SV → Prop), Ok z X H0 H σ env → IsA z (Ms z X σ env) H v d →
  (∀ env' σ', Ok z X H0 H σ' env' → Fr z X (Ms z X σ env) H (Ms z X σ' env') H → Keep js σ env σ' env' → k env' → Q σ' H) → p d env k → g v σ H Q
structure G (C : Cx) (tg : Expr) (js : List Nat) (g : TG) (p : PGt) : Prop where
  pg : PG C tg g
  rg : RG js g p
structure Gs (C : Cx) (tg : List Expr) (js : List Nat) (g : TGs) (p : PGs') : Prop where
  pg : PGs C tg g
  rg : RGs js g p
def gtName (i : Nat) : PGt := fun d env k => k (env.set i (.val d))
theorem g_name {i : Nat} {x : Str} (hN : C.N.Nodup) (hi : C.N[i]? = some x) (hx : Loc C.env.scope x) (hf : C.fn x = true ∨ C.env.scope.names.lookup x = some .local := by first | exact .inl rfl | exact .inr rfl | assumption) : G C (.Name x pos) [i] (gName i) (gtName i) :=
  ⟨pg_name hN hi hx hf, fun z X H0 H σ env v d Q k o hv c hp => let ⟨o2, f2⟩ := o.set (i := i) hv; c _ _ o2 f2 ⟨by simp, fun j hj => by
    have hj' : i ≠ j := fun e => hj (by simp [e])
    exact ⟨List.getElem?_set_ne hj', List.getElem?_set_ne hj'⟩⟩ hp⟩
def gtNil : PGs' := fun ds env k => match ds with
  | [] => k env
  | _ => False
def gtCons (p : PGt) (q : PGs') : PGs' := fun ds env k => match ds with
  | d :: r => p d env fun env' => q r env' k
  | _ => False
theorem gs_nil : Gs C [] [] gNil gtNil := ⟨pgs_nil, fun z X H0 H σ env v d Q k o hv c hp => by
  cases hv with
  | nil => exact ⟨rfl, c env σ o Fr.refl Keep.refl hp⟩
  | cons _ _ => exact (show False from hp).elim⟩
theorem gs_cons {es : List Expr} {js ks : List Nat} {g : TG} {gs : TGs} {p : PGt} {q : PGs'} (h1 : G C e js g p) (h2 : Gs C es ks gs q) (hs : (assignEach (e :: es) C.env).map (·.2) = assign e C.env :: (assignEach es C.env).map (·.2) := by rfl) : Gs C (e :: es) (js ++ ks) (gCons g gs) (gtCons p q) :=
  ⟨pgs_cons h1.pg h2.pg hs, fun z X H0 H σ env v d Q k o hv c hp => by
    cases hv with
    | nil => exact (show False from hp).elim
    | cons q t =>
      refine ⟨_, _, rfl, h1.rg z X H0 H σ env _ _ _ _ o q (fun env' σ' o' f' kp hx => ?_) hp⟩
      exact h2.rg z X H0 H σ' env' _ _ _ _ o' (f'.isA t) (fun env2 σ2 o2 f2 kp2 hy => c env2 σ2 o2 (f'.trans f2) (kp.trans kp2) hy) hx⟩
def gtTup (n : Nat) (q : PGs') : PGt := fun d env k => match d with
  | .tup ds => ds.length = n ∧ q ds env k
  | _ => False
theorem g_tup {es : List Expr} {js : List Nat} {kk : Nat} {gs : TGs} {q : PGs'} {n : Nat} (hc : C.calm = true) (h : Gs C es js gs q)
    (hn : (assignEach es C.env).length = n := by rfl) (hst : (assignEach es C.env).findIdx? (·.1) = none := by rfl) : G C (.Tuple es kk pos) js (gTup C.K n gs) (gtTup n q) :=
  ⟨pg_tup hc h.pg hn hst, fun z X H0 H σ env v d Q k o hv c hp => by
    cases hv with
    | tup e nn r => exact ⟨_, _, rfl, SqT.of e, by rw [r.length]; exact hp.1, h.rg z X H0 H σ env _ _ _ _ o r c hp.2⟩
    | _ => exact (show False from hp).elim⟩
def sAsg (p : PX) (g : PGt) : PSt := fun env k => p env fun d => g d env k.nx
theorem s_asg {tg : Expr} {js : List Nat} {g : TG} {pg : PGt} (h : E .e C e pe) (hg : G C tg js g pg) (hs : swapsWithSole [tg] e pos.line C.env = pure false := by rfl) (hw : swappedStores [tg] e C.env = pure none := by rfl)
    (h1 : (assignEach [tg] C.env).map (·.2) = [assign tg C.env] := by rfl) : S fr C (.Assign [tg] e pos) (sAsg pe pg) := by
  obtain ⟨t, a1, a2⟩ := h
  refine ⟨_, ps_asg a1 hg.pg hs hw h1, fun z X H0 H σ env G k o s hp => a2 z X H0 H σ env _ _ o (fun d v H1 e1 r1 hx => ?_) hp⟩
  exact hg.rg z X H0 H1 σ env v d _ _ (o.go e1) r1 (fun env' σ' o' f' _ hy => s.nx env' σ' H1 o' ((o.fr e1).trans f') hy) hx
/-- a, b = x, y -/
def prK (ds : List D) (k : D → D → Prop) : Prop := match ds with
  | [c, d] => k c d
  | _ => False
def sPar (i j : Nat) (g : PAs) : PSt := fun env k => g env fun ds => prK ds fun c d => k.nx ((env.set i (.val c)).set j (.val d))
theorem s_par {i j : Nat} {x y : Str} {a b : Expr} {g : PAs} {px py pt : Pos} {kt k2 pt2} (ha : A true C [a, b] g) (hc : C.calm = true) (hN : C.N.Nodup) (hi : C.N[i]? = some x) (hj : C.N[j]? = some y) (hij : i ≠ j)
    (hx : C.env.scope.names.lookup x = some .local) (hy : C.env.scope.names.lookup y = some .local)
    (hw : swappedStores [.Tuple [.Name x px, .Name y py] kt pt] (.Tuple [a, b] k2 pt2) C.env = pure (some [x, y]))
    (hs : swapsWithSole [.Tuple [.Name x px, .Name y py] kt pt] (.Tuple [a, b] k2 pt2) pos.line C.env = pure false := by rfl) :
    S fr C (.Assign [.Tuple [.Name x px, .Name y py] kt pt] (.Tuple [a, b] k2 pt2) pos) (sPar i j g) := by
  obtain ⟨t, a1, a2⟩ := ha
  refine ⟨_, ps_par hc hN hi hj hij hx hy a1 hw hs, fun z X H0 H σ env G k o s hp => a2 z X H0 H σ env _ _ o (fun ds vs H1 e1 r1 hx => ?_) hp⟩
  rw [if_pos rfl] at r1
  unfold prK at hx
  split at hx
  · obtain ⟨v, u, rfl, hv, hu⟩ := r1.two
    obtain ⟨o2, f2⟩ := (o.go e1).set (i := i) hv
    obtain ⟨o3, f3⟩ := o2.set (i := j) (f2.is hu)
    exact ⟨v, u, rfl, s.nx _ _ H1 o3 ((o.fr e1).trans (f2.trans f3)) hx⟩
  · exact hx.elim
/-! ### what a slot owns is changed -/
/-- x.append(e) -/
def sAppend (i : Nat) (p : PX) : PSt := fun env k => match env[i]? with
  | some (.own (.lst xs)) => p env fun d => xs.length ≤ 100000 ∧ k.nx (env.set i (.own (.lst (xs ++ [d]))))
  | some (.own (.bor xs)) => p env fun d => xs.length ≤ 100000 ∧ k.nx (env.set i (.own (.bor (xs ++ [d]))))
  | _ => False
theorem szl {n : Nat} (h : n ≤ 100000) : n < sizeLine := Nat.lt_of_le_of_lt h (by decide)
theorem s_append (i : Nat) {x : Str} {pp apos cpos : Pos} (h : E .e C e pe) (hN : C.N[i]? = some x := by rfl) (hv : Vis C.env.scope x := by first | exact Or.inl rfl | exact Or.inr (Or.inl rfl) | exact Or.inr (Or.inr rfl)) (hd : (x == ("__debug__" : Str)) = false := by decide)
    (hcd : (x == ("__classdict__" : Str)) = false := by decide)
    (hb : ∀ to te, PE C (.Name x pp) to → PE C e te → PE C (.Call (.Attribute (.Name x pp) "append" apos) [e] [] cpos) (tBM C.K "list" rAppend to (tCons te tNil)))
    (hs : swapsWith (.Call (.Attribute (.Name x pp) "append" apos) [e] [] cpos) none pos.line C.env = pure false := by rfl) :
    S fr C (.Expr (.Call (.Attribute (.Name x pp) "append" apos) [e] [] cpos) pos) (sAppend i pe) := by
  obtain ⟨t, h1, h2⟩ := h
  refine ⟨_, ps_expr (hb _ _ (pe_var hN hv hd hcd) h1) hs, fun z X H0 H σ env G k o s hp => ?_⟩
  unfold sAppend at hp
  split at hp
  · rename_i xs he
    obtain ⟨a, q1, q2, q3, q4⟩ := o.own i _ he
    obtain ⟨vs, q5, q6⟩ := q2
    refine ⟨_, q1, .inl ⟨rfl, vs, SqL.of q5⟩, h2 z X H0 H σ env _ _ o (fun d v H1 e1 r1 hx => ?_) hp⟩
    have o1 := o.go e1
    have q5' := e1.old a _ q5 q3
    refine ⟨a, vs, v, rfl, rfl, q5', by rw [q6.length]; exact szl hx.1, ?_⟩
    have ia : Ms z X σ env a := .inr (.inr ⟨i, _, he, q1⟩)
    have old : ∀ b u, H1 b = some u → ¬ Ms z X σ env b → upd H1 a (.lst (vs ++ [v])) b = some u ∧ ¬ Ms z X σ env b := fun b u hb n => ⟨by rw [upd_ne (fun e => n (by rw [e]; exact ia))]; exact hb, n⟩
    obtain ⟨o2, f2⟩ := o1.mut (o := .lst (vs ++ [v])) he q1 (d' := .lst (xs ++ [d])) ⟨vs ++ [v], upd_same, ((IsA.evo (fun _ q => .inl q) e1 q6).append (.cons r1 .nil)).gen old fun b hb => ok_mut q3 hb⟩
    exact s.nx _ _ _ o2 ((o.fr e1).trans f2) hx.2
  · rename_i xs he
    obtain ⟨a, q1, q2, q3, q4⟩ := o.own i _ he
    obtain ⟨qb, vs, q5, q6⟩ := q2
    refine ⟨_, q1, .inl ⟨rfl, vs, SqL.of q5⟩, h2 z X H0 H σ env _ _ o (fun d v H1 e1 r1 hx => ?_) hp⟩
    have o1 := o.go e1
    have q5' := e1.old a _ q5 q3
    refine ⟨a, vs, v, rfl, rfl, q5', by rw [q6.length]; exact szl hx.1, ?_⟩
    have ia : Ms z X σ env a := .inr (.inr ⟨i, _, he, q1⟩)
    have old : ∀ b u, H1 b = some u → ¬ Ms z X σ env b → upd H1 a (.lst (vs ++ [v])) b = some u ∧ ¬ Ms z X σ env b := fun b u hb n => ⟨by rw [upd_ne (fun e => n (by rw [e]; exact ia))]; exact hb, n⟩
    obtain ⟨o2, f2⟩ := o1.mut (o := .lst (vs ++ [v])) he q1 (d' := .bor (xs ++ [d])) ⟨qb, vs ++ [v], upd_same, ((IsA.evo (fun _ q => .inl q) e1 q6).append (.cons r1 .nil)).gen old fun b hb => ok_mut q3 hb⟩
    exact s.nx _ _ _ o2 ((o.fr e1).trans f2) hx.2
  · exact hp.elim
end
/-! ### loops -/
def forP (g : PGt) (body : PSt) : List D → PSt
  | [], env, k => k.nx env
  | d :: ds, env, k => g d env fun env1 => body env1 { nx := fun env2 => forP g body ds env2 k, rt := k.rt, bk := k.nx, ct := fun env2 => forP g body ds env2 k }
/-- how J yields the items ds, wherever what stood outside M stands -/
def Yields (z : Zn) (X : AP) (M : AP) (H : Hp) (J : It) (ds : List D) : Prop := ∀ M' H', Fr z X M H M' H' → J.stop ds.length H' ∧
  ∀ i d, ds[i]? = some d → J.go i H' ∧ ∀ x H2, J.yld i H' x H2 → Evo z H' H2 ∧ ((∀ a, z.Z a → M' a) → (∀ b, H' b = none → ¬ M' b) → Is z M' H2 x d)
abbrev PIt := List SV → (List D → Prop) → Prop
def RI (wi : TI) (p : PIt) : Prop := ∀ (z : Zn) (X : AP) (H0 H : Hp) (σ : Sl) (env : List SV) (R : It → Hp → Prop) (k : List D → Prop), Ok z X H0 H σ env →
  (∀ ds J H', Evo z H H' → Yields z X (Ms z X σ env) H' J ds → k ds → R J H') → p env k → wi σ H R
structure I (C : Cx) (tg it : Expr) (p : PIt) : Prop where
  ex : ∃ wi, PI C tg it wi ∧ RI wi p
def sFor (it : PIt) (g : PGt) (body : PSt) : PSt := fun env k => it env fun ds => forP g body ds env k
theorem rs_for {fr : Bool} {wi : TI} {pi : PIt} {js : List Nat} {g : TG} {pg : PGt} {tb : TS} {pb : PSt} (hi : RI wi pi) (hg : RG js g pg) (hb : RS fr tb pb) : RS fr (tFor wi g tb) (sFor pi pg pb) := fun z X H0 H σ env G k o s hp => by
  refine hi z X H0 H σ env _ _ o (fun ds J H1 e1 yl hx => ?_) hp
  have f1 := o.fr e1
  have o1 := o.go e1
  refine ⟨fun i mm σ' H' => mm = ds.length - i ∧ i ≤ ds.length ∧ ∃ env', Ok z X H0 H' σ' env' ∧ Fr z X (Ms z X σ env) H1 (Ms z X σ' env') H' ∧ forP pg pb (ds.drop i) env' k, ⟨ds.length, by simp, Nat.zero_le _, env, o1, Fr.refl, by simpa using hx⟩, ?_⟩
  rintro i mm σ' H' ⟨rfl, hil, env', o', f', hf⟩
  obtain ⟨y1, y2⟩ := yl _ _ f'
  by_cases hlt : i < ds.length
  · obtain ⟨go, y3⟩ := y2 i ds[i] (List.getElem?_eq_getElem hlt)
    rw [List.drop_eq_getElem_cons hlt] at hf
    refine .inr ⟨go, fun σ2 H2 => ∃ env2, Ok z X H0 H2 σ2 env2 ∧ Fr z X (Ms z X σ env) H1 (Ms z X σ2 env2) H2 ∧ forP pg pb (ds.drop (i + 1)) env2 k, fun σ2 H2 h2 => ⟨ds.length - (i + 1), by omega, rfl, hlt, h2⟩, fun x H2 hy => ?_⟩
    obtain ⟨e2, is⟩ := y3 x H2 hy
    have o2 := o'.go e2
    have f2 := f'.trans (o'.fr e2)
    refine hg z X H0 H2 σ' env' x _ _ _ o2 (is (fun a q => .inl q) (fun b q => o'.notMs q)) (fun env3 σ3 o3 f3 _ hx3 => ?_) hf
    refine hb z X H0 H2 σ3 env3 _ { nx := fun env2 => forP pg pb (ds.drop (i + 1)) env2 k, rt := k.rt, bk := k.nx, ct := fun env2 => forP pg pb (ds.drop (i + 1)) env2 k } o3 ⟨fun env4 σ4 H4 o4 f4 hx4 => ⟨env4, o4, f2.trans (f3.trans f4), hx4⟩, s.rt, fun env4 σ4 H4 o4 f4 hx4 => ?_, fun env4 σ4 H4 o4 f4 hx4 => ⟨env4, o4, f2.trans (f3.trans f4), hx4⟩, fun _ _ _ _ _ _ _ h => h.elim⟩ hx3
    exact s.nx env4 σ4 H4 o4 (f1.trans (f2.trans (f3.trans f4))) hx4
  · have ei : i = ds.length := by omega
    subst ei
    rw [List.drop_length] at hf
    exact .inl ⟨y1, s.nx env' σ' H' o' (f1.trans f') hf⟩
section
variable {C : Cx} {fr : Bool} {tg e : Expr} {body : List Stmt} {pe : PX} {m : Mode} {pos pp : Pos}
theorem s_for {iter : Expr} {pi : PIt} {js : List Nat} {g : TG} {pg : PGt} {pb : PSt} (hi : I C tg iter pi) (hg : G C tg js g pg) (hb : B fr C body pb) (hp : PassesOwn (model C.prog C.w) C.A C.env C.xe) (hc : C.calm = true) (hs : ∀ x, foldedSetIterable iter C.env x = pure x := by intro _; rfl) :
    S fr C (.For tg iter body [] pos) (sFor pi pg pb) := by
  obtain ⟨wi, i1, i2⟩ := hi
  obtain ⟨tb, b1, b2⟩ := hb
  exact ⟨_, ps_for hp hc i1 hg.pg b1 hs, rs_for i2 hg.rg b2⟩
/-- over a tuple or a list -/
def sqK (d : D) (k : List D → Prop) : Prop := match d with
  | .tup xs => k xs
  | .lst xs => k xs
  | _ => False
def iSeq (p : PX) : PIt := fun env k => p env fun d => sqK d k
def iTupP (p : PX) : PIt := fun env k => p env fun d => match d with
  | .tup xs => k xs
  | _ => False
def iLstP (p : PX) : PIt := fun env k => p env fun d => match d with
  | .lst xs => k xs
  | _ => False
theorem yl_tup {z : Zn} {X : AP} {M : AP} {H : Hp} {K : PySem.W.Frag} {a : Addr} {vs : List V} {ds : List D} (h : H a = some (.tup vs)) (n : ¬ M a) (r : IsA z M H vs ds) : Yields z X M H (Itt K a) ds := fun M' H' f => by
  have h' := (f.old a _ h n).1
  have r' := f.isA r
  refine ⟨⟨vs, SqT.of h', by rw [r'.length]; exact Nat.le_refl _⟩, fun i d hd => ?_⟩
  obtain ⟨v, h1, h2⟩ := r'.get hd
  refine ⟨⟨vs, v, SqT.of h', h1⟩, fun x H2 y => ?_⟩
  obtain ⟨rfl, y⟩ := y
  refine ⟨Evo.refl _ _, fun _ _ => ?_⟩
  have e := y vs (SqT.of h')
  rw [h1] at e
  cases e
  exact h2
theorem yl_lst {z : Zn} {X : AP} {M : AP} {H : Hp} {K : PySem.W.Frag} {a : Addr} {vs : List V} {ds : List D} (h : H a = some (.lst vs)) (n : ¬ M a) (r : IsA z M H vs ds) : Yields z X M H (Itl K a) ds := fun M' H' f => by
  have h' := (f.old a _ h n).1
  have r' := f.isA r
  refine ⟨⟨vs, SqL.of h', by rw [r'.length]; exact Nat.le_refl _⟩, fun i d hd => ?_⟩
  obtain ⟨v, h1, h2⟩ := r'.get hd
  refine ⟨⟨vs, v, SqL.of h', h1⟩, fun x H2 y => ?_⟩
  obtain ⟨rfl, y⟩ := y
  refine ⟨Evo.refl _ _, fun _ _ => ?_⟩
  have e := y vs (SqL.of h')
  rw [h1] at e
  cases e
  exact h2
theorem i_tup (h : E .e C e pe) : I C tg e (iTupP pe) := by
  obtain ⟨t, h1, h2⟩ := h
  refine ⟨_, pi_tup h1, fun z X H0 H σ env R k o c hp => h2 z X H0 H σ env _ _ o (fun d v H1 e1 r1 hx => ?_) hp⟩
  cases (show Is z _ H1 v d from r1) with
  | tup e n r => exact ⟨_, rfl, ⟨_, SqT.of e⟩, c _ _ H1 e1 (yl_tup e n r) hx⟩
  | _ => exact (show False from hx).elim
theorem i_lst (h : E .e C e pe) : I C tg e (iLstP pe) := by
  obtain ⟨t, h1, h2⟩ := h
  refine ⟨_, pi_list h1, fun z X H0 H σ env R k o c hp => h2 z X H0 H σ env _ _ o (fun d v H1 e1 r1 hx => ?_) hp⟩
  cases (show Is z _ H1 v d from r1) with
  | lst e n r => exact ⟨_, rfl, ⟨_, SqL.of e⟩, c _ _ H1 e1 (yl_lst e n r) hx⟩
  | _ => exact (show False from hx).elim
/-- over a range -/
def rangeD (lo : Int) (n : Nat) : List D := (List.range n).map fun i => .int (lo + (i : Nat))
theorem yl_rng {z : Zn} {X : AP} {M : AP} {H : Hp} {lo : Int} {n : Nat} : Yields z X M H (Itr lo n) (rangeD lo n) := fun M' H' f => by
  refine ⟨(by show n ≤ (rangeD lo n).length; simp [rangeD]), fun i d hd => ?_⟩
  have hi : i < n := by
    have := (List.getElem?_eq_some_iff.mp hd).1
    simpa [rangeD] using this
  refine ⟨hi, fun x H2 y => ?_⟩
  obtain ⟨rfl, rfl⟩ := y
  refine ⟨Evo.refl _ _, fun _ _ => ?_⟩
  have e : d = .int (lo + (i : Nat)) := by simpa [rangeD, hi, List.getElem?_map, List.getElem?_range] using hd.symm
  rw [e]
  exact Is.int _
def rgK1 (ds : List D) (k : List D → Prop) : Prop := match ds with
  | [.int j] => -100000 < j ∧ j < 100000 ∧ k (rangeD 0 j.toNat)
  | _ => False
def rgK2 (ds : List D) (k : List D → Prop) : Prop := match ds with
  | [.int i, .int j] => (-100000 < i ∧ i < 100000 ∧ -100000 < j ∧ j < 100000) ∧ k (rangeD i (j - i).toNat)
  | _ => False
def iRange1 (p : PAs) : PIt := fun env k => p env fun ds => rgK1 ds k
def iRange2 (p : PAs) : PIt := fun env k => p env fun ds => rgK2 ds k
theorem i_range1 {a : Expr} {p : PAs} {l : Bool} (ha : A l C [a] p) (hg : Gl C "range") (hm : C.mg "range" = none) (hs : starEach [a] C.env = [(false, eval a C.env)] := by rfl) : I C tg (.Call (.Name "range" pp) [a] [] pos) (iRange1 p) := by
  obtain ⟨t, h1, h2⟩ := ha
  refine ⟨_, pi_range1 hg hm h1 hs, fun z X H0 H σ env R k o c hp => h2 z X H0 H σ env _ _ o (fun ds vs H1 e1 r1 hx => ?_) hp⟩
  unfold rgK1 at hx
  split at hx
  · rename_i j
    cases IsA.ints (ns := [_]) r1
    exact ⟨j, rfl, by omega, by omega, c _ _ H1 e1 yl_rng hx.2.2⟩
  · exact hx.elim
theorem i_range2 {a b : Expr} {p : PAs} {l : Bool} (ha : A l C [a, b] p) (hg : Gl C "range") (hm : C.mg "range" = none) (hs : starEach [a, b] C.env = [(false, eval a C.env), (false, eval b C.env)] := by rfl) (hs2 : starEach [b] C.env = [(false, eval b C.env)] := by rfl) : I C tg (.Call (.Name "range" pp) [a, b] [] pos) (iRange2 p) := by
  obtain ⟨t, h1, h2⟩ := ha
  refine ⟨_, pi_range2 hg hm h1 hs hs2, fun z X H0 H σ env R k o c hp => h2 z X H0 H σ env _ _ o (fun ds vs H1 e1 r1 hx => ?_) hp⟩
  unfold rgK2 at hx
  split at hx
  · rename_i i j
    cases IsA.ints (ns := [_, _]) r1
    exact ⟨i, j, rfl, by omega, c _ _ H1 e1 yl_rng hx.2⟩
  · exact hx.elim
end
end Pu

namespace Pu
open PySem PySem.Spec PyProof.Rows L2
variable [Tbs]
/-! ### one reading for all places -/
def tP (m : Mode) (p : PX) : TE := fun σ H Q => ∃ z X H0 env k, Ok z X H0 H σ env ∧ (∀ d v H', Evo z H H' → Rel m z X H H' σ env v d → k d → Q v H') ∧ p env k
def tPT (p : PTs') : TT := fun σ H Q => ∃ z X H0 env k, Ok z X H0 H σ env ∧ (∀ b H', Evo z H H' → k b → Q b H') ∧ p env k
def tPI (p : PIt) : TI := fun σ H R => ∃ z X H0 env k, Ok z X H0 H σ env ∧ (∀ ds J H', Evo z H H' → Yields z X (Ms z X σ env) H' J ds → k ds → R J H') ∧ p env k
section
variable {C : Cx} {m : Mode} {e tg : Expr} {p : PX} {q : PTs'} {r : PIt}
theorem E.pe (h : E m C e p) : PE C e (tP m p) := by
  obtain ⟨t, h1, h2⟩ := h
  exact ⟨fun pins s σ H Q I ⟨z, X, H0, env, k, o, c, hp⟩ => h1.run pins s σ H Q I (h2 z X H0 H σ env Q k o c hp)⟩
theorem T.pt (h : T C e q) : PT C e (tPT q) := by
  obtain ⟨t, h1, h2⟩ := h
  exact ⟨fun pins s σ H Q I ⟨z, X, H0, env, k, o, c, hp⟩ => h1.run pins s σ H Q I (h2 z X H0 H σ env Q k o c hp)⟩
theorem I.pi (h : I C tg e r) : PI C tg e (tPI r) := by
  obtain ⟨t, h1, h2⟩ := h
  exact ⟨fun pins s σ H Q I ⟨z, X, H0, env, k, o, c, hp⟩ => h1.run pins s σ H Q I (h2 z X H0 H σ env Q k o c hp)⟩
theorem re_tP : RE m (tP m p) p := fun z X H0 H σ env Q k o c hp => ⟨z, X, H0, env, k, o, c, hp⟩
theorem rt_tP : RT (tPT q) q := fun z X H0 H σ env Q k o c hp => ⟨z, X, H0, env, k, o, c, hp⟩
theorem ri_tP : RI (tPI r) r := fun z X H0 H σ env Q k o c hp => ⟨z, X, H0, env, k, o, c, hp⟩
end
/-- the tests of a clause -/
structure Ts (C : Cx) (es : List Expr) (p : PTs') : Prop where
  ex : PTs C es (tPT p)
theorem ts_nil {C : Cx} : Ts C [] (fun _ k => k true) := by
  refine ⟨⟨fun pins s σ H Q I ⟨z, X, H0, env, k, o, c, hp⟩ => ?_⟩⟩
  exact pts_nil.run pins s σ H Q I (c true H (Evo.refl _ _) hp)
theorem ts_one {C : Cx} {e : Expr} {p : PTs'} (h : T C e p) : Ts C [e] p := ⟨pts_one h.pt⟩

/-! ### comprehensions -/
def wipeE (env : List SV) : List Nat → List SV
  | [] => env
  | v :: vs => (wipeE env vs).set v .no
def noOwn (env : List SV) : List Nat → Prop
  | [] => True
  | v :: vs => (match env[v]? with | some (.own _) => False | _ => True) ∧ noOwn env vs
theorem noOwn_ne {env : List SV} : ∀ {vs : List Nat}, noOwn env vs → ∀ {i : Nat} {d : D}, env[i]? = some (.own d) → i ∉ vs
  | [], _, _, _, _ => by simp
  | v :: vs, h, i, d, e => by
    intro hi
    rcases List.mem_cons.mp hi with q | q
    · subst q
      have h1 := h.1
      rw [e] at h1
      exact h1
    · exact noOwn_ne h.2 e q
section
variable {z : Zn} {X : AP} {H0 H H1 H' : Hp} {σ σ' : Sl} {env env' : List SV}
theorem wipeE_len : ∀ vs : List Nat, (wipeE env vs).length = env.length
  | [] => rfl
  | v :: vs => by unfold wipeE; rw [List.length_set, wipeE_len vs]
theorem wipeE_out : ∀ {vs : List Nat} {i : Nat}, i ∉ vs → (wipeE env vs)[i]? = env[i]?
  | [], _, _ => rfl
  | v :: vs, i, h => by
    rw [List.mem_cons, not_or] at h
    unfold wipeE
    rw [List.getElem?_set_ne (Ne.symm h.1), wipeE_out h.2]
theorem wipeE_in : ∀ {vs : List Nat} {i : Nat}, i ∈ vs → (wipeE env vs)[i]? = none ∨ (wipeE env vs)[i]? = some .no
  | v :: vs, i, h => by
    unfold wipeE
    by_cases hv : v = i
    · subst hv
      rw [List.getElem?_set]
      simp only [if_true]
      split
      · exact .inr rfl
      · exact .inl rfl
    · rw [List.getElem?_set_ne hv]
      exact wipeE_in ((List.mem_cons.mp h).resolve_left (fun e => hv e.symm))
theorem wipe_out' : ∀ {vs : List Nat} {i : Nat}, i ∉ vs → (wipe σ vs)[i]? = σ[i]?
  | [], _, _ => rfl
  | v :: vs, i, h => by
    rw [List.mem_cons, not_or] at h
    unfold wipe
    rw [List.getElem?_set_ne (Ne.symm h.1), wipe_out' h.2]
theorem wipe_in' : ∀ {vs : List Nat} {i : Nat}, i ∈ vs → (wipe σ vs)[i]? = if i < σ.length then some none else none
  | v :: vs, i, h => by
    unfold wipe
    by_cases hv : v = i
    · subst hv
      rw [List.getElem?_set]
      simp only [if_true, wipe_length]
    · rw [List.getElem?_set_ne hv]
      exact wipe_in' ((List.mem_cons.mp h).resolve_left (fun e => hv e.symm))
theorem wipe_eq {vs js : List Nat} (h : Keep js (wipe σ vs) env σ' env') (hj : ∀ i ∈ js, i ∈ vs) : wipe σ' vs = wipe σ vs := by
  apply List.ext_getElem?
  intro i
  have hl : σ'.length = σ.length := by rw [h.1, wipe_length]
  by_cases hi : i ∈ vs
  · rw [wipe_in' hi, wipe_in' hi, hl]
  · rw [wipe_out' hi, (h.2 i (fun q => hi (hj i q))).2]
/-- one more place that is locked -/
theorem Ok.lock (o : Ok z X H0 H σ env) {a : Addr} (ha : H a = none) (e : Evo z H H') (h' : H' a ≠ none) : Ok z (X.or a) H0 H' σ env := by
  have na : ∀ {b u}, H b = some u → b ≠ a := fun {b u} q => ne_of_none q ha
  have ms : ∀ b, Ms z (X.or a) σ env b → Ms z X σ env b ∨ b = a := by
    rintro b (h | (h | h) | h)
    · exact .inl (.inl h)
    · exact .inl (.inr (.inl h))
    · exact .inr h
    · exact .inl (.inr (.inr h))
  have old : ∀ b u, H b = some u → ¬ Ms z X σ env b → H' b = some u ∧ ¬ Ms z (X.or a) σ env b := fun b u q n => ⟨e.old b u q fun y => n (.inl y), fun y => (ms b y).elim n (na q)⟩
  refine ⟨o.len, o.evo.trans e, fun b h => e.al b (o.zal b h), fun b h => ?_, fun i d h => ?_, fun i d h => ?_, o.inj, e.tab o.tab⟩
  · rcases h with h | h
    · exact ⟨e.al b (o.xal b h).1, (o.xal b h).2⟩
    · rw [h]; exact ⟨h', fun q => o.zal a q ha⟩
  · obtain ⟨v, h1, h2⟩ := o.val i d h
    exact ⟨v, h1, h2.gen old e.dk⟩
  · obtain ⟨b, h1, h2, h3, h4, h5⟩ := o.own i d h
    obtain ⟨u, hu⟩ := h2.some
    exact ⟨b, h1, h2.gen (fun u q => e.old b u q h3) old e.dk, h3, fun q => q.elim h4 (na hu), h5⟩
theorem Ok.wipe (o : Ok z X H0 H σ env) {vs : List Nat} : Ok z X H0 H (L2.wipe σ vs) (wipeE env vs) ∧ ∀ a, Ms z X (L2.wipe σ vs) (wipeE env vs) a → Ms z X σ env a := by
  have ow : ∀ {i : Nat} {d : SV}, (wipeE env vs)[i]? = some d → d ≠ .no → i ∉ vs ∧ env[i]? = some d := fun {i d} h n => by
    by_cases hi : i ∈ vs
    · rcases wipeE_in (env := env) hi with q | q
      · rw [q] at h; cases h
      · rw [q] at h; cases h; exact absurd rfl n
    · rw [wipeE_out hi] at h; exact ⟨hi, h⟩
  have sub : ∀ a, Ms z X (L2.wipe σ vs) (wipeE env vs) a → Ms z X σ env a := by
    rintro a (h | h | ⟨i, d, h1, h2⟩)
    · exact .inl h
    · exact .inr (.inl h)
    · obtain ⟨hi, h1⟩ := ow h1 (by intro q; cases q)
      rw [wipe_out' hi] at h2
      exact .inr (.inr ⟨i, d, h1, h2⟩)
  refine ⟨⟨by rw [wipe_length, wipeE_len]; exact o.len, o.evo, o.zal, o.xal, fun i d h => ?_, fun i d h => ?_, fun i j a d f h1 h2 h3 h4 => ?_, o.tab⟩, sub⟩
  · obtain ⟨hi, h⟩ := ow h (by intro q; cases q)
    obtain ⟨v, h1, h2⟩ := o.val i d h
    exact ⟨v, by rw [wipe_out' hi]; exact h1, h2.weak sub⟩
  · obtain ⟨hi, h⟩ := ow h (by intro q; cases q)
    obtain ⟨a, h1, h2, h3⟩ := o.own i d h
    exact ⟨a, by rw [wipe_out' hi]; exact h1, h2.gen (fun _ q => q) (fun b u q n => ⟨q, fun y => n (sub b y)⟩) fun _ h => h, h3⟩
  · obtain ⟨hi, h1⟩ := ow h1 (by intro q; cases q)
    obtain ⟨hj, h2⟩ := ow h2 (by intro q; cases q)
    rw [wipe_out' hi] at h3
    rw [wipe_out' hj] at h4
    exact o.inj i j a d f h1 h2 h3 h4
/-- what slots own is owned in the comprehension too -/
theorem ms_in {vs js : List Nat} {σ2 : Sl} {env2 : List SV} (hn : noOwn env vs) (hj : ∀ i ∈ js, i ∈ vs) (h : Keep js (L2.wipe σ vs) (wipeE env vs) σ2 env2) : ∀ a, Ms z X σ env a → Ms z X σ2 env2 a := by
  rintro a (q | q | ⟨i, d, h1, h2⟩)
  · exact .inl q
  · exact .inr (.inl q)
  · have hi := noOwn_ne hn h1
    obtain ⟨g1, g2⟩ := h.2 i fun q => hi (hj i q)
    refine .inr (.inr ⟨i, d, ?_, ?_⟩)
    · rw [g1, wipeE_out hi]; exact h1
    · rw [g2, wipe_out' hi]; exact h2
end
def lcP (pg : PGt) (pt : PTs') (pe : PX) (env : List SV) : List D → List D → (List D → Prop) → Prop
  | [], acc, k => k acc
  | d :: ds, acc, k => pg d env fun env1 => pt env1 fun b => if b = true then pe env1 fun r => acc.length ≤ 100000 ∧ lcP pg pt pe env ds (acc ++ [r]) k else lcP pg pt pe env ds acc k
def eLc (vs : List Nat) (pi : PIt) (pg : PGt) (pt : PTs') (pe : PX) : PX := fun env k => pi env fun ds => noOwn env vs ∧ lcP pg pt pe (wipeE env vs) ds [] fun r => k (.lst r)
theorem re_lc {wi : TI} {pi : PIt} {js vs : List Nat} {g : TG} {pg : PGt} {tt : TT} {pt : PTs'} {te : TE} {pe : PX} (hi : RI wi pi) (hg : RG js g pg) (hj : ∀ i ∈ js, i ∈ vs) (ht : RT tt pt) (he : RE .e te pe) : RE .f (tLc wi g tt te vs) (eLc vs pi pg pt pe) := fun z X H0 H σ env Q k o c hp => by
  refine hi z X H0 H σ env _ _ o (fun ds J H1 e1 yl hx => ?_) hp
  obtain ⟨hn, hx⟩ := hx
  have o1 := o.go e1
  intro Da hD
  have hzD : ¬ z.Z Da := fun q => o1.zal Da q hD
  refine ⟨fun i mm H' => mm = ds.length - i ∧ i ≤ ds.length ∧ ∃ accV accD, Evo z H1 H' ∧ H' Da = some (.lst accV) ∧ IsA z (Ms z (X.or Da) σ env) H' accV accD ∧ lcP pg pt pe (wipeE env vs) (ds.drop i) accD fun r => k (.lst r),
    ⟨ds.length, by simp, Nat.zero_le _, [], [], (Evo.refl _ _).new hD, upd_same, .nil, by simpa using hx⟩, ?_⟩
  rintro i mm H' ⟨rfl, hil, accV, accD, e', hacc, hA, hk⟩
  have oL : Ok z (X.or Da) H0 H' σ env := o1.lock hD e' (by rw [hacc]; intro q; cases q)
  have ms2 : ∀ b, Ms z (X.or Da) σ env b → Ms z X σ env b ∨ b = Da := by
    rintro b (h | (h | h) | h)
    · exact .inl (.inl h)
    · exact .inl (.inr (.inl h))
    · exact .inr h
    · exact .inl (.inr (.inr h))
  have fr : Fr z X (Ms z X σ env) H1 (Ms z (X.or Da) σ env) H' := ⟨fun b u q n => ⟨e'.old b u q fun y => n (.inl y), fun y => (ms2 b y).elim n (ne_of_none q hD)⟩, e'.dk, e'.al⟩
  obtain ⟨y1, y2⟩ := yl _ _ fr
  by_cases hlt : i < ds.length
  · obtain ⟨go, y3⟩ := y2 i ds[i] (List.getElem?_eq_getElem hlt)
    rw [List.drop_eq_getElem_cons hlt] at hk
    refine .inr ⟨go, fun H2 => ∃ accV accD, Evo z H1 H2 ∧ H2 Da = some (.lst accV) ∧ IsA z (Ms z (X.or Da) σ env) H2 accV accD ∧ lcP pg pt pe (wipeE env vs) (ds.drop (i + 1)) accD fun r => k (.lst r), fun H2 h2 => ⟨ds.length - (i + 1), by omega, rfl, hlt, h2⟩, fun x H2 hy => ?_⟩
    obtain ⟨e2, is⟩ := y3 x H2 hy
    have oL2 := oL.go e2
    obtain ⟨oW, sub⟩ := oL2.wipe (vs := vs)
    refine hg z (X.or Da) H0 H2 _ _ x _ _ _ oW ((is (fun a q => .inl q) (fun b q => oL.notMs q)).weak sub) (fun env3 σ3 o3 f3 kp hx3 => ⟨wipe_eq kp hj, ?_⟩) hk
    refine ht z (X.or Da) H0 H2 σ3 env3 _ _ o3 (fun b H3 e3 hx4 => ?_) hx3
    have e13 := e'.trans (e2.trans e3)
    have acc3 : H3 Da = some (.lst accV) := e3.old _ _ (e2.old _ _ hacc hzD) hzD
    have A3 : IsA z (Ms z (X.or Da) σ env) H3 accV accD := hA.evo (fun _ q => .inl q) (e2.trans e3)
    cases b with
    | false =>
      rw [if_neg Bool.false_ne_true]
      exact ⟨accV, accD, e13, acc3, A3, hx4⟩
    | true =>
      rw [if_pos rfl]
      refine he z (X.or Da) H0 H3 σ3 env3 _ _ (o3.go e3) (fun r y H4 e4 r4 hx5 => ?_) hx4
      refine ⟨accV, e4.old _ _ acc3 hzD, by rw [hA.length]; exact szl hx5.1, accV ++ [y], accD ++ [r], (e13.trans e4).mut hD hzD, upd_same, ?_, hx5.2⟩
      have ir : Is z (Ms z (X.or Da) σ env) H4 y r := Is.weak (ms_in hn hj kp) r4
      refine ((A3.evo (fun _ q => .inl q) e4).append (.cons ir .nil)).gen (fun b u q n => ⟨?_, n⟩) fun b hb => ok_mut hzD hb
      rw [upd_ne (fun w => n (by rw [w]; exact .inr (.inl (.inr rfl))))]
      exact q
  · have ei : i = ds.length := by omega
    subst ei
    rw [List.drop_length] at hk
    exact .inl ⟨y1, c (.lst accD) (.ref Da) H' (e1.trans e') ⟨Da, rfl, e1.fresh hD, accV, hacc, hA⟩ hk⟩
/-- two clauses -/
def lcP2 (vs1 : List Nat) (pg : PGt) (pt : PTs') (pi1 : PIt) (pg1 : PGt) (pt1 : PTs') (pe : PX) (env : List SV) : List D → List D → (List D → Prop) → Prop
  | [], acc, k => k acc
  | d :: ds, acc, k => pg d env fun env1 => pt env1 fun b => if b = true then pi1 env1 fun ds1 => noOwn env1 vs1 ∧ lcP pg1 pt1 pe (wipeE env1 vs1) ds1 acc fun acc1 => lcP2 vs1 pg pt pi1 pg1 pt1 pe env ds acc1 k else lcP2 vs1 pg pt pi1 pg1 pt1 pe env ds acc k
def eLc2 (vs vs1 : List Nat) (pi : PIt) (pg : PGt) (pt : PTs') (pi1 : PIt) (pg1 : PGt) (pt1 : PTs') (pe : PX) : PX := fun env k => pi env fun ds => noOwn env vs ∧ lcP2 vs1 pg pt pi1 pg1 pt1 pe (wipeE env vs) ds [] fun r => k (.lst r)
theorem ms_or {z : Zn} {X : AP} {σ : Sl} {env : List SV} {a b : Addr} (h : Ms z (X.or a) σ env b) : Ms z X σ env b ∨ b = a := by
  rcases h with h | (h | h) | h
  · exact .inl (.inl h)
  · exact .inl (.inr (.inl h))
  · exact .inr h
  · exact .inl (.inr (.inr h))
theorem re_lc2 {wi wi1 : TI} {pi pi1 : PIt} {js js1 vs vs1 : List Nat} {g g1 : TG} {pg pg1 : PGt} {tt tt1 : TT} {pt pt1 : PTs'} {te : TE} {pe : PX} (hi : RI wi pi) (hg : RG js g pg) (hj : ∀ i ∈ js, i ∈ vs) (ht : RT tt pt) (hi1 : RI wi1 pi1) (hg1 : RG js1 g1 pg1) (hj1 : ∀ i ∈ js1, i ∈ vs1) (ht1 : RT tt1 pt1) (he : RE .e te pe) :
    RE .f (tLc2 wi g tt wi1 g1 tt1 te vs vs1) (eLc2 vs vs1 pi pg pt pi1 pg1 pt1 pe) := fun z X H0 H σ env Q k o c hp => by
  refine hi z X H0 H σ env _ _ o (fun ds J H1 e1 yl hx => ?_) hp
  obtain ⟨hn, hx⟩ := hx
  have o1 := o.go e1
  intro Da hD
  have hzD : ¬ z.Z Da := fun q => o1.zal Da q hD
  have nt : ∀ {u : HO}, some u ≠ none := fun q => by cases q
  refine ⟨fun i mm H' => mm = ds.length - i ∧ i ≤ ds.length ∧ ∃ accV accD, Evo z H1 H' ∧ H' Da = some (.lst accV) ∧ IsA z (Ms z (X.or Da) σ env) H' accV accD ∧ lcP2 vs1 pg pt pi1 pg1 pt1 pe (wipeE env vs) (ds.drop i) accD fun r => k (.lst r),
    ⟨ds.length, by simp, Nat.zero_le _, [], [], (Evo.refl _ _).new hD, upd_same, .nil, by simpa using hx⟩, ?_⟩
  rintro i mm H' ⟨rfl, hil, accV, accD, e', hacc, hA, hk⟩
  have oL : Ok z (X.or Da) H0 H' σ env := o1.lock hD e' (by rw [hacc]; exact nt)
  have fr : Fr z X (Ms z X σ env) H1 (Ms z (X.or Da) σ env) H' := ⟨fun b u q n => ⟨e'.old b u q fun y => n (.inl y), fun y => (ms_or y).elim n (ne_of_none q hD)⟩, e'.dk, e'.al⟩
  obtain ⟨y1, y2⟩ := yl _ _ fr
  by_cases hlt : i < ds.length
  · obtain ⟨go, y3⟩ := y2 i ds[i] (List.getElem?_eq_getElem hlt)
    rw [List.drop_eq_getElem_cons hlt] at hk
    refine .inr ⟨go, fun H2 => ∃ accV accD, Evo z H1 H2 ∧ H2 Da = some (.lst accV) ∧ IsA z (Ms z (X.or Da) σ env) H2 accV accD ∧ lcP2 vs1 pg pt pi1 pg1 pt1 pe (wipeE env vs) (ds.drop (i + 1)) accD fun r => k (.lst r), fun H2 h2 => ⟨ds.length - (i + 1), by omega, rfl, hlt, h2⟩, fun x H2 hy => ?_⟩
    obtain ⟨e2, is⟩ := y3 x H2 hy
    have oL2 := oL.go e2
    obtain ⟨oW, sub⟩ := oL2.wipe (vs := vs)
    refine hg z (X.or Da) H0 H2 _ _ x _ _ _ oW ((is (fun a q => .inl q) (fun b q => oL.notMs q)).weak sub) (fun env3 σ3 o3 f3 kp hx3 => ⟨wipe_eq kp hj, ?_⟩) hk
    refine ht z (X.or Da) H0 H2 σ3 env3 _ _ o3 (fun b H3 e3 hx4 => ?_) hx3
    have e13 := e'.trans (e2.trans e3)
    have acc3 : H3 Da = some (.lst accV) := e3.old _ _ (e2.old _ _ hacc hzD) hzD
    have A3 : IsA z (Ms z (X.or Da) σ env) H3 accV accD := hA.evo (fun _ q => .inl q) (e2.trans e3)
    have o3' := o3.go e3
    have up : ∀ a, Ms z (X.or Da) σ env a → Ms z (X.or Da) σ3 env3 a := ms_in hn hj kp
    cases b with
    | false =>
      rw [if_neg Bool.false_ne_true]
      exact ⟨accV, accD, e13, acc3, A3, hx4⟩
    | true =>
      rw [if_pos rfl]
      refine hi1 z (X.or Da) H0 H3 σ3 env3 _ _ o3' (fun ds1 J1 H4 e4 yl1 hx5 => ?_) hx4
      obtain ⟨hn1, hx5⟩ := hx5
      have o4 := o3'.go e4
      refine ⟨fun j mm H' => mm = ds1.length - j ∧ j ≤ ds1.length ∧ ∃ accV accD, Evo z H1 H' ∧ Fr z (X.or Da) (Ms z (X.or Da) σ3 env3) H4 (Ms z (X.or Da) σ3 env3) H' ∧ Ok z (X.or Da) H0 H' σ3 env3 ∧ H' Da = some (.lst accV) ∧ IsA z (Ms z (X.or Da) σ env) H' accV accD ∧
          lcP pg1 pt1 pe (wipeE env3 vs1) (ds1.drop j) accD fun acc1 => lcP2 vs1 pg pt pi1 pg1 pt1 pe (wipeE env vs) (ds.drop (i + 1)) acc1 fun r => k (.lst r),
        ⟨ds1.length, by simp, Nat.zero_le _, accV, accD, e13.trans e4, Fr.refl, o4, e4.old _ _ acc3 hzD, A3.evo (fun _ q => .inl q) e4, by simpa using hx5⟩, ?_⟩
      rintro j mm H5 ⟨rfl, hjl, accV, accD, e5, f5, o5, hacc, hA, hk⟩
      obtain ⟨y1, y2⟩ := yl1 _ _ f5
      by_cases hlt1 : j < ds1.length
      · obtain ⟨go, y3⟩ := y2 j ds1[j] (List.getElem?_eq_getElem hlt1)
        rw [List.drop_eq_getElem_cons hlt1] at hk
        refine .inr ⟨go, fun H' => ∃ accV accD, Evo z H1 H' ∧ Fr z (X.or Da) (Ms z (X.or Da) σ3 env3) H4 (Ms z (X.or Da) σ3 env3) H' ∧ Ok z (X.or Da) H0 H' σ3 env3 ∧ H' Da = some (.lst accV) ∧ IsA z (Ms z (X.or Da) σ env) H' accV accD ∧
          lcP pg1 pt1 pe (wipeE env3 vs1) (ds1.drop (j + 1)) accD fun acc1 => lcP2 vs1 pg pt pi1 pg1 pt1 pe (wipeE env vs) (ds.drop (i + 1)) acc1 fun r => k (.lst r), fun H2 h2 => ⟨ds1.length - (j + 1), by omega, rfl, hlt1, h2⟩, fun x H6 hy => ?_⟩
        obtain ⟨e6, is⟩ := y3 x H6 hy
        have o6 := o5.go e6
        obtain ⟨oW, sub⟩ := o6.wipe (vs := vs1)
        refine hg1 z (X.or Da) H0 H6 _ _ x _ _ _ oW ((is (fun a q => .inl q) (fun b q => o5.notMs q)).weak sub) (fun env7 σ7 o7 f7 kp7 hx7 => ⟨wipe_eq kp7 hj1, ?_⟩) hk
        refine ht1 z (X.or Da) H0 H6 σ7 env7 _ _ o7 (fun b H7 e7 hx8 => ?_) hx7
        have e67 := e6.trans e7
        have acc7 : H7 Da = some (.lst accV) := e67.old _ _ hacc hzD
        have A7 : IsA z (Ms z (X.or Da) σ env) H7 accV accD := hA.evo (fun _ q => .inl q) e67
        cases b with
        | false =>
          rw [if_neg Bool.false_ne_true]
          exact ⟨accV, accD, e5.trans e67, f5.trans (o5.fr e67), o5.go e67, acc7, A7, hx8⟩
        | true =>
          rw [if_pos rfl]
          refine he z (X.or Da) H0 H7 σ7 env7 _ _ (o7.go e7) (fun r y H8 e8 r8 hx9 => ?_) hx8
          have e58 := e67.trans e8
          have o8 := o5.go e58
          have inD : ∀ {σ : Sl} {env : List SV}, Ms z (X.or Da) σ env Da := .inr (.inl (.inr rfl))
          have old : ∀ (M : AP), M Da → ∀ b u, H8 b = some u → ¬ M b → upd H8 Da (.lst (accV ++ [y])) b = some u ∧ ¬ M b := fun M hM b u q n => ⟨by rw [upd_ne (fun w => n (by rw [w]; exact hM))]; exact q, n⟩
          have dk : ∀ b, z.ok H8 b → z.ok (upd H8 Da (.lst (accV ++ [y]))) b := fun b hb => ok_mut hzD hb
          have al : ∀ b, H8 b ≠ none → upd H8 Da (.lst (accV ++ [y])) b ≠ none := fun b hb => by
            by_cases w : b = Da
            · rw [w, upd_same]; exact nt
            · rw [upd_ne w]; exact hb
          have h0D : H0 Da = none := o1.evo.fresh hD
          refine ⟨accV, e8.old _ _ acc7 hzD, by rw [hA.length]; exact szl hx9.1, accV ++ [y], accD ++ [r], (e5.trans e58).mut hD hzD, (f5.trans (o5.fr e58)).trans ⟨old _ inD, dk, al⟩, ?_, upd_same, ?_, hx9.2⟩
          · refine ⟨o8.len, o8.evo.mut h0D hzD, fun b q => al b (o8.zal b q), fun b q => ⟨al b (o8.xal b q).1, (o8.xal b q).2⟩, fun i d q => ?_, fun i d q => ?_, o8.inj, o8.tab.mut hzD⟩
            · obtain ⟨v, h1, h2⟩ := o8.val i d q
              exact ⟨v, h1, h2.gen (old _ inD) dk⟩
            · obtain ⟨a, h1, h2, h3, h4, h5⟩ := o8.own i d q
              exact ⟨a, h1, h2.gen (fun u w => by rw [upd_ne (fun x => h4 (.inr x))]; exact w) (old _ inD) dk, h3, h4, h5⟩
          · have ir : Is z (Ms z (X.or Da) σ env) H8 y r := Is.weak (fun a q => ms_in hn1 hj1 kp7 a (up a q)) r8
            exact ((A7.evo (fun _ q => .inl q) e8).append (.cons ir .nil)).gen (old _ inD) dk
      · have ei : j = ds1.length := by omega
        subst ei
        rw [List.drop_length] at hk
        exact .inl ⟨y1, accV, accD, e5, hacc, hA, hk⟩
  · have ei : i = ds.length := by omega
    subst ei
    rw [List.drop_length] at hk
    exact .inl ⟨y1, c (.lst accD) (.ref Da) H' (e1.trans e') ⟨Da, rfl, e1.fresh hD, accV, hacc, hA⟩ hk⟩
section
variable {C : Cx} {fr : Bool} {elt tg iter tg1 iter1 : Expr} {ifs ifs1 : List Expr} {scope : Scope} {own : List (Str × Nat)} {pos : Pos} {pi pi1 : PIt} {js js1 vs1 : List Nat} {g g1 : TG} {pg pg1 : PGt} {pt pt1 : PTs'} {pe : PX}
theorem e_lc (hi : I C tg iter pi) (hg : ∀ (s : Shared) (H : Hp) (Ca : Addr) (cl : List (Str × Addr)) (fp : List Addr), G (C.blk s H scope (compEnvC scope cl Ca C.env) fp) tg js g pg) (ht : ∀ (s : Shared) (H : Hp) (Ca : Addr) (cl : List (Str × Addr)) (fp : List Addr), Ts (C.blk s H scope (compEnvC scope cl Ca C.env) fp) ifs pt)
    (he : ∀ (s : Shared) (H : Hp) (Ca : Addr) (cl : List (Str × Addr)) (fp : List Addr), E .e (C.blk s H scope (compEnvC scope cl Ca C.env) fp) elt pe) (hc : C.calm = true) (hN : C.N.Nodup) (ok : BlkOk C.N C.env.scope scope own) (hj : ∀ i ∈ js, i ∈ own.map (·.2)) (rg : RG js g pg) (hs : ∀ x, foldedSetIterable iter C.env x = pure x := by intro _; rfl) :
    E .f C (.ListComp elt [⟨tg, iter, ifs, 0⟩] scope pos) (eLc (own.map (·.2)) pi pg pt pe) :=
  ⟨_, pe_lc hc hN hi.pi ok (fun s H Ca cl fp => (hg s H Ca cl fp).pg) (fun s H Ca cl fp => (ht s H Ca cl fp).ex) (fun s H Ca cl fp => (he s H Ca cl fp).pe) hs, re_lc ri_tP rg hj rt_tP re_tP⟩
theorem s_ownLc {i : Nat} {y : Str} {py spos : Pos} (hi : I C tg iter pi) (hg : ∀ (s : Shared) (H : Hp) (Ca : Addr) (cl : List (Str × Addr)) (fp : List Addr), G (C.blk s H scope (compEnvC scope cl Ca C.env) fp) tg js g pg) (ht : ∀ (s : Shared) (H : Hp) (Ca : Addr) (cl : List (Str × Addr)) (fp : List Addr), Ts (C.blk s H scope (compEnvC scope cl Ca C.env) fp) ifs pt)
    (he : ∀ (s : Shared) (H : Hp) (Ca : Addr) (cl : List (Str × Addr)) (fp : List Addr), E .e (C.blk s H scope (compEnvC scope cl Ca C.env) fp) elt pe) (hc : C.calm = true) (hN : C.N.Nodup) (hy : C.N[i]? = some y) (hyl : C.env.scope.names.lookup y = some .local)
    (hsw : swapsWith (.ListComp elt [⟨tg, iter, ifs, 0⟩] scope pos) (some (.Name y py)) spos.line C.env = pure true) (ok : BlkOk C.N C.env.scope scope own) (hj : ∀ i ∈ js, i ∈ own.map (·.2)) (rg : RG js g pg) (hs : ∀ x, foldedSetIterable iter C.env x = pure x := by intro _; rfl) :
    S fr C (.Assign [.Name y py] (.ListComp elt [⟨tg, iter, ifs, 0⟩] scope pos) spos) (sOwn i (eLc (own.map (·.2)) pi pg pt pe)) :=
  ⟨_, ps_setLc hc hN hy hyl hsw hi.pi ok (fun s H Ca cl fp => (hg s H Ca cl fp).pg) (fun s H Ca cl fp => (ht s H Ca cl fp).ex) (fun s H Ca cl fp => (he s H Ca cl fp).pe) hs, rs_own (re_lc ri_tP rg hj rt_tP re_tP)⟩
theorem RE.fe' {t : TE} {p : PX} (h : RE .f t p) : RE .e t p := fun z X H0 H σ env Q k o c hp => h z X H0 H σ env Q k o (fun d v H' ev r kd => c d v H' ev (r.fe o) kd) hp
theorem rs_set {i : Nat} {t : TE} {p : PX} (h : RE .e t p) : RS fr (tAsg t (gName i)) (sSet i p) := fun z X H0 H σ env G k o s hp => h z X H0 H σ env _ _ o (fun d v H1 e1 r1 hx => by
  obtain ⟨o2, f2⟩ := (o.go e1).set (i := i) (show Is z _ H1 v d from r1)
  exact s.nx _ _ H1 o2 ((o.fr e1).trans f2) hx) hp
theorem s_setLc {i : Nat} {y : Str} {py spos : Pos} (hi : I C tg iter pi) (hg : ∀ (s : Shared) (H : Hp) (Ca : Addr) (cl : List (Str × Addr)) (fp : List Addr), G (C.blk s H scope (compEnvC scope cl Ca C.env) fp) tg js g pg) (ht : ∀ (s : Shared) (H : Hp) (Ca : Addr) (cl : List (Str × Addr)) (fp : List Addr), Ts (C.blk s H scope (compEnvC scope cl Ca C.env) fp) ifs pt)
    (he : ∀ (s : Shared) (H : Hp) (Ca : Addr) (cl : List (Str × Addr)) (fp : List Addr), E .e (C.blk s H scope (compEnvC scope cl Ca C.env) fp) elt pe) (hc : C.calm = true) (hN : C.N.Nodup) (hy : C.N[i]? = some y) (hyl : C.env.scope.names.lookup y = some .local)
    (hsw : swapsWith (.ListComp elt [⟨tg, iter, ifs, 0⟩] scope pos) (some (.Name y py)) spos.line C.env = pure true) (ok : BlkOk C.N C.env.scope scope own) (hj : ∀ i ∈ js, i ∈ own.map (·.2)) (rg : RG js g pg) (hs : ∀ x, foldedSetIterable iter C.env x = pure x := by intro _; rfl) :
    S fr C (.Assign [.Name y py] (.ListComp elt [⟨tg, iter, ifs, 0⟩] scope pos) spos) (sSet i (eLc (own.map (·.2)) pi pg pt pe)) :=
  ⟨_, ps_setLc hc hN hy hyl hsw hi.pi ok (fun s H Ca cl fp => (hg s H Ca cl fp).pg) (fun s H Ca cl fp => (ht s H Ca cl fp).ex) (fun s H Ca cl fp => (he s H Ca cl fp).pe) hs, rs_set (RE.fe' (re_lc ri_tP rg hj rt_tP re_tP))⟩
theorem e_lc2 (hi : I C tg iter pi) (hg : ∀ (s : Shared) (H : Hp) (Ca : Addr) (cl : List (Str × Addr)) (fp : List Addr), G (C.blk s H scope (compEnvC scope cl Ca C.env) fp) tg js g pg) (ht : ∀ (s : Shared) (H : Hp) (Ca : Addr) (cl : List (Str × Addr)) (fp : List Addr), Ts (C.blk s H scope (compEnvC scope cl Ca C.env) fp) ifs pt)
    (hi1 : ∀ (s : Shared) (H : Hp) (Ca : Addr) (cl : List (Str × Addr)) (fp : List Addr), I (C.blk s H scope (compEnvC scope cl Ca C.env) fp) tg1 iter1 pi1)
    (hg1 : ∀ (s : Shared) (H : Hp) (Ca : Addr) (cl : List (Str × Addr)) (fp : List Addr), G (C.blk s H scope (compEnvC scope cl Ca C.env) fp) tg1 js1 g1 pg1) (ht1 : ∀ (s : Shared) (H : Hp) (Ca : Addr) (cl : List (Str × Addr)) (fp : List Addr), Ts (C.blk s H scope (compEnvC scope cl Ca C.env) fp) ifs1 pt1)
    (he : ∀ (s : Shared) (H : Hp) (Ca : Addr) (cl : List (Str × Addr)) (fp : List Addr), E .e (C.blk s H scope (compEnvC scope cl Ca C.env) fp) elt pe) (hc : C.calm = true) (hN : C.N.Nodup) (ok : BlkOk C.N C.env.scope scope own) (hj : ∀ i ∈ js, i ∈ own.map (·.2)) (hj1 : ∀ i ∈ js1, i ∈ vs1) (hv : ∀ i ∈ vs1, i ∈ own.map (·.2)) (rg : RG js g pg) (rg1 : RG js1 g1 pg1)
    (hs : ∀ x, foldedSetIterable iter C.env x = pure x := by intro _; rfl) (hs1 : ∀ env x, foldedSetIterable iter1 env x = pure x := by intro _ _; rfl) :
    E .f C (.ListComp elt [⟨tg, iter, ifs, 0⟩, ⟨tg1, iter1, ifs1, 0⟩] scope pos) (eLc2 (own.map (·.2)) vs1 pi pg pt pi1 pg1 pt1 pe) :=
  ⟨_, pe_lc2 hc hN hi.pi ok hv (fun s H Ca cl fp => (hg s H Ca cl fp).pg) (fun s H Ca cl fp => (ht s H Ca cl fp).ex) (fun s H Ca cl fp => (hi1 s H Ca cl fp).pi) (fun s H Ca cl fp => (hg1 s H Ca cl fp).pg) (fun s H Ca cl fp => (ht1 s H Ca cl fp).ex) (fun s H Ca cl fp => (he s H Ca cl fp).pe) hs hs1,
    re_lc2 ri_tP rg hj rt_tP ri_tP rg1 hj1 rt_tP re_tP⟩
end
end Pu

namespace Ew
open PySem PySem.Spec PyProof.Rows L2
theorem places_rev (n : Nat) (hn : 1 ≤ n) : Builtin.Slice.slicePlaces ((n : Int) - 1) (-1) (-1) = n := by
  unfold Builtin.Slice.slicePlaces
  rw [if_neg (by decide), if_pos (by omega)]
  show (((n : Int) - 1 - -1 - 1) / 1 + 1).toNat = n
  rw [Int.ediv_one]
  omega
theorem fm_congr {α β : Type} {f g : α → Option β} : ∀ l : List α, (∀ m ∈ l, f m = g m) → l.filterMap f = l.filterMap g
  | [], _ => rfl
  | a :: r, h => by
    rw [List.filterMap_cons, List.filterMap_cons, h a List.mem_cons_self, fm_congr r fun m hm => h m (List.mem_cons_of_mem _ hm)]
theorem pick_rev (xs : Array Value) : ((List.range xs.size).filterMap fun (m : Nat) => xs[((((xs.size : Nat) : Int) - 1) + (m : Int) * (-1)).toNat]?).toArray = xs.toList.reverse.toArray := by
  congr 1
  have e : (List.range xs.size).filterMap (fun (m : Nat) => xs[((((xs.size : Nat) : Int) - 1) + (m : Int) * (-1)).toNat]?) = (List.range xs.size).filterMap (fun (m : Nat) => xs.toList.reverse[m]?) := by
    apply fm_congr
    intro m hm
    have h := List.mem_range.mp hm
    have e1 : ((((xs.size : Nat) : Int) - 1) + (m : Int) * (-1)).toNat = xs.size - 1 - m := by omega
    rw [e1, List.getElem?_reverse (by rw [Array.length_toList]; exact h), Array.length_toList, Array.getElem?_toList]
  rw [e]
  have hl : xs.toList.reverse.length = xs.size := by rw [List.length_reverse, Array.length_toList]
  rw [← hl]
  generalize xs.toList.reverse = l
  induction l with
  | nil => rfl
  | cons a r ih =>
    rw [List.length_cons, List.range_succ_eq_map, List.filterMap_cons]
    show a :: ((List.range r.length).map Nat.succ).filterMap (fun m => (a :: r)[m]?) = a :: r
    congr 1
    rw [List.filterMap_map]
    exact ih
section
variable {prog : Program} {w : World} {A : Around} {E : Value → Shared → Prop} {s : Shared}
theorem applied_revN {sl : Addr} {tk : Tok} {n : Nat} {Q : Int × Int × Nat → Shared → Prop} (hn : 1 ≤ n) (hs : s.heap.IsSliceOf sl .none .none (.int (-1) tk))
    (h : Q ((n : Int) - 1, -1, n) s) : wpAny (model prog w) A (Builtin.Slice.sliceApplied (.ref sl) (pure (n : Int))) Q E s := by
  obtain ⟨os, hos, hcs, hds⟩ := id hs
  unfold Builtin.Slice.sliceApplied Builtin.Slice.sliceFields
  refine wpAny_bind (wpAny_bind (wpAny_field hos hds (x := .none) rfl (wpAny_bind (wpAny_field hos hds (x := .none) rfl (wpAny_bind (wpAny_field hos hds (x := .int (-1) tk) rfl (wpAny_pure ?_)))))))
  refine wpAny_bind (HT.slicePart_ (.int (-1) tk) ?_)
  show wpAny _ _ (if ((-1 : Int) == 0) = true then _ else _) _ _ s
  rw [if_neg (by decide)]
  refine wpAny_bind (HT.slicePart_ .none (wpAny_bind (HT.slicePart_ .none (wpAny_bind (wpAny_pure ?_)))))
  show wpAny _ _ (pure ((n : Int) - 1, (-1 : Int), Builtin.Slice.slicePlaces ((n : Int) - 1) (-1) (-1))) _ _ s
  rw [places_rev n hn]
  exact wpAny_pure h
theorem getItem_revN {t sl : Addr} {items : Array Value} {tk : Tok} {Q : Value → Shared → Prop} (hn : 1 ≤ items.size) (ht : IsTup s.heap t items) (hs : s.heap.IsSliceOf sl .none .none (.int (-1) tk)) (hz : items.size ≤ sizeLine)
    (h : Q (.ref s.heap.objs.size) { s with heap := s.heap.push { cls := .type "tuple", data := .seq items.toList.reverse.toArray } }) : wpAny (model prog w) A (getItem (.ref t) (.ref sl)) Q E s := by
  have htake : sizeOk (.seq items.toList.reverse.toArray) := by
    show items.toList.reverse.toArray.size ≤ sizeLine
    rw [List.size_toArray, List.length_reverse, Array.length_toList]
    exact hz
  obtain ⟨os, hos, hcs, hds⟩ := id hs
  have hTs : s.TypeIs (.ref sl) "slice" := ⟨os, hos, hcs⟩
  unfold getItem
  try with_reducible refine wpAny_holding ?_
  first | refine wpAny_bind (wpAny_pure ?_) | skip
  refine wpAny_bind (wpAny_sequenceKey ht.typeIs (by decide) ?_)
  refine wpAny_bind (wpAny_callSpecial?_slot (name := Str.ofString "__getitem__") ht.typeIs PyProof.Rows.slot_tuple_getitem
    (wpAny_call_entry PyProof.Rows.slot_tuple_getitem ht.typeIs entry_tuple_getitem ?_ (args_tuple_getitem _ _)))
  show wpAny _ _ (Builtin.Tuple.tupleItemsOf (.ref t) >>= _) _ _ s
  refine wpAny_bind (tupleItemsOf_ ht ?_)
  refine wpAny_bind (wpAny_typeOf hTs ?_)
  rw [if_pos (by decide)]
  refine wpAny_bind (applied_revN hn hs ?_)
  show wpAny _ _ (if ((((items.size : Nat) : Int) - 1 == 0) && ((-1 : Int) == 1) && (items.size == items.size)) = true then _ else _) _ _ s
  rw [if_neg (by rw [show ((-1 : Int) == 1) = false from rfl, Bool.and_false, Bool.false_and]; exact Bool.false_ne_true), pick_rev]
  first
    | exact wpAny_bind (m := Builtin.Tuple.tupleExact _) (wpAny_newObj_type (wpAny_pure ⟨_, rfl, wpAny_pure h⟩) htake)
    | exact wpAny_bind (m := Builtin.Tuple.tupleExact _) (wpAny_newObj_type (wpAny_bind (wpAny_pure (wpAny_pure ⟨_, rfl, wpAny_pure h⟩))) htake)
    | exact wpAny_bind (wpAny_bind (m := Builtin.Tuple.tupleExact _) (wpAny_newObj_type (wpAny_pure (wpAny_pure ⟨_, rfl, wpAny_pure h⟩)) htake))
end
/-- t[::-1] of a tuple that is not empty -/
def tRevN (K : PySem.W.Frag) (te : TE) : TE := fun σ H Q => te σ H fun v H1 => ∃ a xs, v = .ref a ∧ SqT K H1 a xs ∧ 1 ≤ xs.length ∧ ∀ p, H1 p = none → Q (.ref p) (upd H1 p (.tup xs.reverse))
theorem pe_revN {X : Cx} {e : Expr} {te : TE} {k : Nat} {p1 p2 p3 pos : Pos} (he : PE X e te) : PE X (.Subscript e (.Slice none none (some (.UnaryOp .USub (.Constant (.int 1) k p1) p2)) p3) pos) (tRevN X.K te) := by
  refine ⟨fun pins s σ H Q I h => ?_⟩
  refine Subscript_ (thn (he.run pins s σ H _ I h) fun v s1 ⟨x, H1, I1, r1, q1⟩ => ?_)
  obtain ⟨a, xs, ex, hx, h1, q⟩ := q1
  subst ex
  cases r1
  have hst : PO X (some (.UnaryOp .USub (.Constant (.int 1) k p1) p2)) (tPart (tUn (rU fun i => .int (-i)) (tC (.int 1)))) := po_some (pe_un un_neg pe_int)
  refine wpAny_Slice (thn (po_none.run pins s1 σ H1 (fun o H2 => o = none ∧ H2 = H1) I1 ⟨rfl, rfl⟩) fun vl s2 ⟨l, H2, I2, pl, el, e2⟩ => ?_)
  subst el e2
  refine thn (po_none.run pins s2 σ H2 (fun o H3 => o = none ∧ H3 = H2) I2 ⟨rfl, rfl⟩) fun vu s3 ⟨u, H3, I3, pu, eu, e3⟩ => ?_
  subst eu e3
  refine thn (hst.run pins s3 σ H3 (fun o H4 => o = some (-1) ∧ H4 = H3) I3 ⟨1, rfl, -1, rfl, rfl, rfl⟩) fun vs s4 ⟨o, H4, I4, ps, eo, e4⟩ => ?_
  subst eo e4
  cases pl
  cases pu
  cases ps with
  | int _ tk =>
    have I5 : Inv X pins σ H4 { s4 with heap := s4.heap.push { cls := .type "slice", data := .fields #[.none, .none, .int (-1) tk] } } := I4.kept (t' := s4.toks) fun b ob q => Heap.get?_push_of_some _ q
    obtain ⟨its, r, ht, hz⟩ := I5.tuple hx
    have hlen := r.length
    show wpAny (model X.prog X.w) X.A (subscriptTail e (.Slice none none (some (.UnaryOp .USub (.Constant (.int 1) k p1) p2)) p3) (.ref a) (.ref s4.heap.objs.size)) (EP X pins σ Q) X.xe { s4 with heap := s4.heap.push { cls := .type "slice", data := .fields #[.none, .none, .int (-1) tk] } }
    refine tail_any (ops := [.ref a, .ref s4.heap.objs.size]) ht.typeIs (PyProof.Rows.slot_tuple_getitem.lookup) ?_ (by with_unfolding_all rfl)
    refine getItem_revN (by rw [List.size_toArray]; omega) ht (Heap.IsSliceOf.new _ .none .none (.int (-1) tk)) (by rw [List.size_toArray]; omega) ?_
    exact ⟨.ref _, _, I5.laid (t' := s4.toks) (o := .tup xs.reverse) (fun b ob q => Heap.get?_push_of_some _ q) (Nat.le_refl _) ⟨by rw [List.length_reverse]; exact hz, _, r.reverse, IsTup.new _ _⟩, rfl, q _ (I5.hok.fresh (Nat.le_refl _))⟩
end Ew

namespace Pu
open PySem PySem.Spec PyProof.Rows L2
variable [Tbs]
/-! ### targets, once more without a place -/
theorem rg_name {i : Nat} : RG [i] (gName i) (gtName i) := fun z X H0 H σ env v d Q k o hv c hp => let ⟨o2, f2⟩ := o.set (i := i) hv; c _ _ o2 f2 ⟨by simp, fun j hj => by
    have hj' : i ≠ j := fun e => hj (by simp [e])
    exact ⟨List.getElem?_set_ne hj', List.getElem?_set_ne hj'⟩⟩ hp
theorem rgs_nil : RGs [] gNil gtNil := fun z X H0 H σ env v d Q k o hv c hp => by
  cases hv with
  | nil => exact ⟨rfl, c env σ o Fr.refl Keep.refl hp⟩
  | cons _ _ => exact (show False from hp).elim
theorem rgs_cons {js ks : List Nat} {g : TG} {gs : TGs} {p : PGt} {q : PGs'} (h1 : RG js g p) (h2 : RGs ks gs q) : RGs (js ++ ks) (gCons g gs) (gtCons p q) := fun z X H0 H σ env v d Q k o hv c hp => by
  cases hv with
  | nil => exact (show False from hp).elim
  | cons q t =>
    refine ⟨_, _, rfl, h1 z X H0 H σ env _ _ _ _ o q (fun env' σ' o' f' kp hx => ?_) hp⟩
    exact h2 z X H0 H σ' env' _ _ _ _ o' (f'.isA t) (fun env2 σ2 o2 f2 kp2 hy => c env2 σ2 o2 (f'.trans f2) (kp.trans kp2) hy) hx
theorem rg_tup {K : PySem.W.Frag} {js : List Nat} {gs : TGs} {q : PGs'} {n : Nat} (h : RGs js gs q) : RG js (gTup K n gs) (gtTup n q) := fun z X H0 H σ env v d Q k o hv c hp => by
  cases hv with
  | tup e nn r => exact ⟨_, _, rfl, SqT.of e, by rw [r.length]; exact hp.1, h z X H0 H σ env _ _ _ _ o r c hp.2⟩
  | _ => exact (show False from hp).elim

/-! ### a def by its body -/
def wpOf (fr : Bool) (n : Nat) (p : PSt) : List D → (D → Prop) → Prop := fun ds k => p (ds.map SV.val ++ List.replicate (n - ds.length) SV.no) { nx := fun _ => fr = false ∧ k .non, rt := k }
theorem start_ok {z : Zn} {X : AP} {H : Hp} {N : List Str} {vs : List V} {ds : List D} (hz : (∀ a, z.Z a → H a ≠ none) ∧ Tabs H) (hx : ∀ a, X a → H a ≠ none ∧ ¬ z.Z a) (hA : IsA z (Zx z X) H vs ds) :
    Ok z X H H (L2.start N vs) (ds.map SV.val ++ List.replicate (N.length - ds.length) SV.no) := by
  have hl := hA.length
  have no : ∀ (i : Nat) (d : D), (ds.map SV.val ++ List.replicate (N.length - ds.length) SV.no)[i]? = some (.own d) → False := fun i d h => by
    by_cases hi : i < ds.length
    · rw [List.getElem?_append_left (by simpa using hi), List.getElem?_map] at h
      cases q : ds[i]? with
      | none => rw [q] at h; cases h
      | some x => rw [q] at h; cases h
    · rw [List.getElem?_append_right (by simpa using hi), List.getElem?_replicate] at h
      split at h <;> cases h
  have ms : ∀ a, Ms z X (L2.start N vs) (ds.map SV.val ++ List.replicate (N.length - ds.length) SV.no) a → Zx z X a := by
    rintro a (h | h | ⟨i, d, h1, _⟩)
    · exact .inl h
    · exact .inr h
    · exact (no i d h1).elim
  refine ⟨by unfold L2.start; simp [hl], Evo.refl _ _, hz.1, hx, fun i d h => ?_, fun i d h => (no i d h).elim, fun i j a d e h _ _ _ => (no i d h).elim, hz.2⟩
  by_cases hi : i < ds.length
  · rw [List.getElem?_append_left (by simpa using hi), List.getElem?_map] at h
    cases q : ds[i]? with
    | none => rw [q] at h; cases h
    | some x =>
      rw [q] at h
      cases h
      obtain ⟨v, h1, h2⟩ := hA.get q
      refine ⟨v, ?_, h2.weak ms⟩
      unfold L2.start
      rw [List.getElem?_append_left (by simpa [hl] using hi), List.getElem?_map, h1]
      rfl
  · rw [List.getElem?_append_right (by simpa using hi), List.getElem?_replicate] at h
    split at h <;> cases h
section
variable {P : Program} {w : World} {K : PySem.W.Frag} {mg : Str → Option Value} {base : Heap}
theorem fn_ok {x qual : Str} {st : Stmt} {f : Addr} {fd : FuncData} {N ps : List Str} {k : Nat} {fr : Bool} {p : PSt} (F : Fun K x qual st f fd) (S : FnScope N ps (defScope st))
    (hb : ∀ (cdv : Value) (A : Around) (outer : List Env) (s : Shared) (H : Hp) (E : XK), Room k (A.deeper (envOfC qual (defScope st) s.heap.objs.size f cdv)) → B fr (cxOf CX0 P w K mg base N qual (defScope st) f cdv A outer s H E).nox (defBody st) p) :
    FnOk P w K mg base CX0 (k + 1) f fd ps (Sf fr ps.length (wpOf fr N.length p)) := by
  refine F.ok S (fun vs H Q E h => ?_) (fun cdv A outer s H vs Q E hr h => ?_)
  · obtain ⟨z, X, ds, kk, hl, _⟩ := h
    exact hl
  · obtain ⟨z, X, ds, kk, hl, hz, hx, hA, hw, c⟩ := h
    obtain ⟨t, b1, b2⟩ := hb cdv A outer s H E hr
    refine ⟨t, b1, b2 z X H H (L2.start N vs) _ _ { nx := fun _ => fr = false ∧ kk .non, rt := kk } (start_ok hz hx hA) ⟨fun env' σ' H' o' f' hk => ?_, fun d v H' e r fq hk => ?_, fun _ _ _ _ _ hk => hk.elim, fun _ _ _ _ _ hk => hk.elim, fun _ _ _ _ _ _ _ h => h.elim⟩ hw⟩
    · exact c .non .non H' o'.evo .non (fun q => by rw [hk.1] at q; cases q) hk.2
    · exact c d v H' e r fq hk
end
section
variable {C : Cx} {e a b : Expr} {es : List Expr} {p q : PX} {m : Mode} {fr : Bool} {pos pp : Pos} {x : Str}
/-! ### tuple(range(..)), list(range(..)) -/
def dRg (f : List D → D) : D → D → (D → Prop) → Prop := fun x y k => match x, y with
  | .int i, .int j => (0 ≤ i ∧ i < 100000 ∧ 0 ≤ j ∧ j < 100000) ∧ k (f (rangeD i (j - i).toNat))
  | _, _ => False
def eRg1 (f : List D → D) (p : PX) : PX := fun env k => p env fun x => dRg f (.int 0) x k
def eRg2 (f : List D → D) (p q : PX) : PX := fun env k => p env fun x => q env fun y => dRg f x y k
theorem isa_rg {z : Zn} {M : AP} {H : Hp} {i j : Int} : IsA z M H (rgV i j) (rangeD i (j - i).toNat) := by
  unfold rgV rangeD
  generalize (j - i).toNat = n
  have : ∀ (l : List Nat), IsA z M H (l.map fun t => V.int (i + (t : Nat))) (l.map fun t => D.int (i + (t : Nat))) := fun l => by
    induction l with
    | nil => exact .nil
    | cons t l ih => exact .cons (.int _) ih
  exact this _
theorem e_tupRg1 (h : E m C a p) (hc : C.calm = true) (hg : Gl C "tuple") (hm : C.mg "tuple" = none) (hg' : Gl C "range") (hm' : C.mg "range" = none) {p2 pos2 : Pos} (na : starEach [a] C.env = (false, eval a C.env) :: starEach [] C.env := by rfl)
    (nb : starEach [.Call (.Name "range" p2) [a] [] pos2] C.env = (false, eval (.Call (.Name "range" p2) [a] [] pos2) C.env) :: starEach [] C.env := by rfl) : E .e C (.Call (.Name "tuple" pp) [.Call (.Name "range" p2) [a] [] pos2] [] pos) (eRg1 .tup p) := by
  obtain ⟨t, h1, h2⟩ := h.toB
  refine ⟨_, pe_tupRg hc hg hm (prg_1 hg' hm' h1 na) nb, fun z X H0 H σ env Q k o c hp => h2 z X H0 H σ env _ _ o (fun d v H1 e1 r1 hx => ?_) hp⟩
  cases d with
  | int i =>
    cases Is.intI r1
    obtain ⟨hb, hk⟩ := hx
    exact ⟨i, rfl, ⟨by omega, by omega, by omega, by omega, by omega⟩, fun q hq => c _ _ _ (e1.new hq) ((Rel.newT (e1.fresh hq) hq isa_rg).fe o) hk⟩
  | _ => exact (show False from hx).elim
theorem e_lstRg1 (h : E m C a p) (hc : C.calm = true) (hg : Gl C "list") (hm : C.mg "list" = none) (hg' : Gl C "range") (hm' : C.mg "range" = none) {p2 pos2 : Pos} (na : starEach [a] C.env = (false, eval a C.env) :: starEach [] C.env := by rfl)
    (nb : starEach [.Call (.Name "range" p2) [a] [] pos2] C.env = (false, eval (.Call (.Name "range" p2) [a] [] pos2) C.env) :: starEach [] C.env := by rfl) : E .f C (.Call (.Name "list" pp) [.Call (.Name "range" p2) [a] [] pos2] [] pos) (eRg1 .lst p) := by
  obtain ⟨t, h1, h2⟩ := h.toB
  refine ⟨_, pe_listRg hc hg hm (prg_1 hg' hm' h1 na) nb, fun z X H0 H σ env Q k o c hp => h2 z X H0 H σ env _ _ o (fun d v H1 e1 r1 hx => ?_) hp⟩
  cases d with
  | int i =>
    cases Is.intI r1
    obtain ⟨hb, hk⟩ := hx
    exact ⟨i, rfl, ⟨by omega, by omega, by omega, by omega, by omega⟩, fun q hq => c _ _ _ (e1.new hq) (Rel.newL (e1.fresh hq) hq isa_rg) hk⟩
  | _ => exact (show False from hx).elim
/-- t[::-1] -/
def dRevT : D → (D → Prop) → Prop := fun d k => match d with
  | .tup xs => xs ≠ [] ∧ k (.tup xs.reverse)
  | _ => False
def dRevL : D → (D → Prop) → Prop := fun d k => match d with
  | .lst xs => k (.lst xs.reverse)
  | _ => False
theorem e_revT {kk : Nat} {p1 p2 p3 : Pos} (h : E .c C e p) : E .e C (.Subscript e (.Slice none none (some (.UnaryOp .USub (.Constant (.int 1) kk p1) p2)) p3) pos) (eUn dRevT p) := by
  obtain ⟨t, h1, h2⟩ := h
  refine ⟨_, Ew.pe_revN h1, fun z X H0 H σ env Q k o c hp => h2 z X H0 H σ env _ _ o (fun d v H1 e1 r1 hx => ?_) hp⟩
  cases d with
  | tup xs =>
    obtain ⟨a, vs, rfl, q1, q2, n⟩ := r1.conT
    exact ⟨a, vs, rfl, SqT.of q1, by rw [q2.length]; exact List.length_pos_iff.mpr hx.1, fun q hq => c _ _ _ (e1.new hq) ((Rel.newT (e1.fresh hq) hq q2.reverse).fe o) hx.2⟩
  | _ => exact (show False from hx).elim
/-! ### more changes of what a slot owns -/
/-- y = x.pop(e) -/
def sPopAt (j i : Nat) (p : PX) : PSt := fun env k => match env[i]? with
  | some (.own (.lst xs)) => p env fun d => inK d fun n => (-100000 < n ∧ n < 100000) ∧ ∃ jj y, seqIndex? n xs.length = some jj ∧ xs[jj]? = some y ∧ k.nx ((env.set i (.own (.lst (xs.eraseIdx jj)))).set j (.val y))
  | _ => False
theorem mutL {z : Zn} {X : AP} {H0 H : Hp} {σ : Sl} {env : List SV} {i : Nat} {a : Addr} {d : D} {vs' : List V} {ds' : List D} (o : Ok z X H0 H σ env) (hi : env[i]? = some (.own d)) (hs : σ[i]? = some (some (V.ref a))) (hz : ¬ z.Z a) (h : IsA z (Ms z X σ env) H vs' ds') :
    Ok z X H0 (upd H a (.lst vs')) σ (env.set i (.own (.lst ds'))) ∧ Fr z X (Ms z X σ env) H (Ms z X σ (env.set i (.own (.lst ds')))) (upd H a (.lst vs')) := by
  have ia : Ms z X σ env a := .inr (.inr ⟨i, _, hi, hs⟩)
  exact o.mut hi hs ⟨vs', upd_same, h.gen (fun b u hb n => ⟨by rw [upd_ne (fun e => n (by rw [e]; exact ia))]; exact hb, n⟩) fun b hb => ok_mut hz hb⟩
theorem Is.setOwn {z : Zn} {X : AP} {H0 H : Hp} {σ : Sl} {env : List SV} {i : Nat} {a : Addr} {d d' y : D} {v : V} {o' : HO} (f : Fr z X (Ms z X σ env) H (Ms z X σ (env.set i (.own d'))) (upd H a o')) (h : Is z (Ms z X σ env) H v y) : Is z (Ms z X σ (env.set i (.own d'))) (upd H a o') v y := f.is h
theorem s_popAt (j i : Nat) {x y : Str} {py apos cpos : Pos} (h : E m C e p) (hj : C.N[j]? = some y) (hy : Loc C.env.scope y) (hND : C.N.Nodup)
    (hb : ∀ to te, PE C (.Name x pp) to → PE C e te → PE C (.Call (.Attribute (.Name x pp) "pop" apos) [e] [] cpos) (tBM C.K "list" rPopAt to (tCons te tNil)))
    (hN : C.N[i]? = some x := by rfl) (hv : Vis C.env.scope x := by first | exact Or.inl rfl | exact Or.inr (Or.inl rfl) | exact Or.inr (Or.inr rfl)) (hd : (x == ("__debug__" : Str)) = false := by decide)
    (hcd : (x == ("__classdict__" : Str)) = false := by decide)
    (hs : swapsWith (.Call (.Attribute (.Name x pp) "pop" apos) [e] [] cpos) (some (.Name y py)) pos.line C.env = pure false := by rfl) (hf : C.fn y = true ∨ C.env.scope.names.lookup y = some .local := by first | exact .inl rfl | exact .inr rfl | assumption) :
    S fr C (.Assign [.Name y py] (.Call (.Attribute (.Name x pp) "pop" apos) [e] [] cpos) pos) (sPopAt j i p) := by
  obtain ⟨t, h1, h2⟩ := h.toB
  refine ⟨_, ps_set hND hj hy (hb _ _ (pe_var hN hv hd hcd) h1) hs hf, fun z X H0 H σ env G k o s hp => ?_⟩
  unfold sPopAt at hp
  split at hp
  · rename_i xs he
    obtain ⟨a, q1, ⟨vs, q5, q6⟩, q3, q4⟩ := o.own i _ he
    refine ⟨_, q1, .inl ⟨rfl, vs, SqL.of q5⟩, h2 z X H0 H σ env _ _ o (fun d v H1 e1 r1 hx => ?_) hp⟩
    cases d with
    | int n =>
      cases Is.intI r1
      obtain ⟨hn, jj, yy, g1, g2, hk⟩ := hx
      have o1 := o.go e1
      have q5' := e1.old a _ q5 q3
      have q6' := IsA.evo (fun _ q => .inl q) e1 q6
      obtain ⟨w, w1, w2⟩ := q6'.get g2
      refine ⟨a, vs, n, jj, w, rfl, rfl, q5', by omega, by omega, by rw [q6.length]; exact g1, w1, ?_⟩
      obtain ⟨o2, f2⟩ := mutL o1 he q1 q3 (q6'.eraseIdx jj)
      obtain ⟨o3, f3⟩ := o2.set (i := j) (f2.is w2)
      exact s.nx _ _ _ o3 ((o.fr e1).trans (f2.trans f3)) hk
    | _ => exact (show False from hx).elim
  · exact hp.elim
/-- x[i] = e -/
def sPut (i : Nat) (pi pe : PX) : PSt := fun env k => pe env fun y => match env[i]? with
  | some (.own (.lst xs)) => pi env fun d => match d with
    | .int n => ∃ jj, ixN xs.length n = some jj ∧ k.nx (env.set i (.own (.lst (xs.set jj y))))
    | _ => False
  | _ => False
theorem s_put (i : Nat) {x : Str} {ix : Expr} {spos : Pos} (he : E .e C e p) (hi : E m C ix q) (hN : C.N[i]? = some x := by rfl) (hv : Vis C.env.scope x := by first | exact Or.inl rfl | exact Or.inr (Or.inl rfl) | exact Or.inr (Or.inr rfl)) (hd : (x == ("__debug__" : Str)) = false := by decide)
    (hcd : (x == ("__classdict__" : Str)) = false := by decide)
    (ha : ∀ v, assign (.Subscript (.Name x pp) ix spos) C.env v = (do
      let ov ← holding [v] (eval (.Name x pp) C.env)
      let iv ← holding [v, ov] (eval ix C.env)
      standAt spos
      holding [v, ov, iv] (setItem ov iv v)
      release [v, ov, iv] []) := by intro _; rfl)
    (hs : swapsWithSole [.Subscript (.Name x pp) ix spos] e pos.line C.env = pure false := by rfl) (hw : swappedStores [.Subscript (.Name x pp) ix spos] e C.env = pure none := by rfl)
    (h1 : (assignEach [.Subscript (.Name x pp) ix spos] C.env).map (·.2) = [assign (.Subscript (.Name x pp) ix spos) C.env] := by rfl) : S fr C (.Assign [.Subscript (.Name x pp) ix spos] e pos) (sPut i q p) := by
  obtain ⟨t, a1, a2⟩ := he
  obtain ⟨t2, b1, b2⟩ := hi.toB
  refine ⟨_, ps_asg a1 (pg_sub (pe_var hN hv hd hcd) b1 set_list ha) hs hw h1, fun z X H0 H σ env G k o s hp => a2 z X H0 H σ env _ _ o (fun y v H1 e1 r1 hx => ?_) hp⟩
  split at hx
  · rename_i xs he
    have o1 := o.go e1
    obtain ⟨a, q1, ⟨vs, q5, q6⟩, q3, q4⟩ := o1.own i _ he
    refine ⟨_, q1, b2 z X H0 H1 σ env _ _ o1 (fun d u H2 e2 r2 hx => ?_) hx⟩
    cases d with
    | int n =>
      cases Is.intI r2
      obtain ⟨jj, g1, hk⟩ := hx
      have o2 := o1.go e2
      have q5' := e2.old a _ q5 q3
      have q6' := IsA.evo (fun _ q => .inl q) e2 q6
      refine ⟨a, vs, n, jj, rfl, rfl, q5', by rw [q6.length]; exact g1, ?_⟩
      obtain ⟨o3, f3⟩ := mutL o2 he q1 q3 (IsA.set (Is.evo (fun _ q => .inl q) e2 r1) jj q6')
      exact s.nx _ _ _ o3 ((o.fr (e1.trans e2)).trans f3) hk
    | _ => exact (show False from hx).elim
  · exact hx.elim
/-! ### while -/
def whileN (c : PTs') (body : PSt) (k : PK') : Nat → List SV → Prop
  | 0, _ => False
  | n + 1, env => c env fun b => if b = true then body env { nx := whileN c body k n, rt := k.rt, bk := k.nx, ct := whileN c body k n } else k.nx env
def sWhile (c : PTs') (body : PSt) : PSt := fun env k => ∃ n, whileN c body k n env
theorem s_while {c : Expr} {body : List Stmt} {pc : PTs'} {pb : PSt} (h : T C c pc) (g : B fr C body pb) (hp : PassesOwn (model C.prog C.w) C.A C.env C.xe) : S fr C (.While c body [] pos) (sWhile pc pb) := by
  obtain ⟨t, h1, h2⟩ := h
  obtain ⟨u, g1, g2⟩ := g
  refine ⟨_, ps_while hp h1 g1, fun z X H0 H σ env G k o s hw => ?_⟩
  obtain ⟨n, hw⟩ := hw
  refine ⟨fun mm σ' H' => ∃ env', Ok z X H0 H' σ' env' ∧ Fr z X (Ms z X σ env) H (Ms z X σ' env') H' ∧ whileN pc pb k mm env', ⟨n, env, o, Fr.refl, hw⟩, ?_⟩
  rintro mm σ' H' ⟨env', o', f', hw'⟩
  cases mm with
  | zero => exact hw'.elim
  | succ mm =>
    refine h2 z X H0 H' σ' env' _ _ o' (fun b H1 e1 hx => ?_) hw'
    have o1 := o'.go e1
    have f1 := f'.trans (o'.fr e1)
    cases b with
    | true =>
      rw [if_pos rfl] at hx ⊢
      refine ⟨fun σ2 H2 => ∃ env2, Ok z X H0 H2 σ2 env2 ∧ Fr z X (Ms z X σ env) H (Ms z X σ2 env2) H2 ∧ whileN pc pb k mm env2, fun σ2 H2 q => ⟨mm, Nat.lt_succ_self _, q⟩, ?_⟩
      exact g2 z X H0 H1 σ' env' _ { nx := whileN pc pb k mm, rt := k.rt, bk := k.nx, ct := whileN pc pb k mm } o1 ⟨fun env2 σ2 H2 o2 f2 hx2 => ⟨env2, o2, f1.trans f2, hx2⟩, s.rt, fun env2 σ2 H2 o2 f2 hx2 => s.nx env2 σ2 H2 o2 (f1.trans f2) hx2, fun env2 σ2 H2 o2 f2 hx2 => ⟨env2, o2, f1.trans f2, hx2⟩, fun _ _ _ _ _ _ _ h => h.elim⟩ hx
    | false =>
      rw [if_neg Bool.false_ne_true] at hx ⊢
      exact s.nx env' σ' H1 o1 f1 hx
end
end Pu

namespace Pu
open PySem PySem.Spec PyProof.Rows L2
variable [Tbs]
section
variable {C : Cx} {tg e : Expr} {pe : PX} {m : Mode} {fr : Bool} {pos pp : Pos}
/-- a list or a tuple walked -/
def iSeqT (K : PySem.W.Frag) (tl : TE) : TI := fun σ H R => tl σ H fun x H1 => (∃ a, x = .ref a ∧ (∃ xs, SqL K H1 a xs) ∧ R (Itl K a) H1) ∨ (∃ a, x = .ref a ∧ (∃ xs, SqT K H1 a xs) ∧ R (Itt K a) H1)
theorem pi_seq {l : Expr} {tl : TE} (hl : PE C l tl) : PI C tg l (iSeqT C.K tl) := by
  refine ⟨fun pins s σ H R I h => ?_⟩
  refine thn (hl.run pins s σ H _ I h) fun v s1 ⟨x, H1, I1, r1, q1⟩ => ?_
  have hb : ∀ b ∈ [s1.heap.objs.size], FpOk C pins H1 b := fun b hb => by
    have e : b = s1.heap.objs.size := by simpa using hb
    subst e
    exact I1.fpOk (Nat.le_refl _) (I1.hok.fresh (Nat.le_refl _))
  rcases q1 with ⟨a, e, ⟨xs, hq⟩, q⟩ | ⟨a, e, ⟨xs, hq⟩, q⟩
  · subst e
    cases r1
    obtain ⟨its, rv, p, hz⟩ := I1.list hq
    refine wpAny_pyIter_list p.isList ?_
    exact ⟨s1.heap.objs.size, [s1.heap.objs.size], _, _, H1, rfl, I1.kept (t' := s1.toks) fun b o e => Heap.get?_push_of_some _ e, turn_list a _, ⟨_, Heap.get?_push_size _ rfl, rfl, rfl⟩, hb, q⟩
  · subst e
    cases r1
    obtain ⟨its, rv, p, hz⟩ := I1.tuple hq
    refine wpAny_pyIter_tuple (show s1.heap.IsTuple a its.toArray from p) ?_
    exact ⟨s1.heap.objs.size, [s1.heap.objs.size], _, _, H1, rfl, I1.kept (t' := s1.toks) fun b o e => Heap.get?_push_of_some _ e, turn_tuple a _, ⟨_, Heap.get?_push_size _ rfl, rfl, rfl⟩, hb, q⟩
theorem i_seq (h : E .e C e pe) : I C tg e (iSeq pe) := by
  obtain ⟨t, h1, h2⟩ := h
  refine ⟨_, pi_seq h1, fun z X H0 H σ env R k o c hp => h2 z X H0 H σ env _ _ o (fun d v H1 e1 r1 hx => ?_) hp⟩
  cases (show Is z _ H1 v d from r1) with
  | lst e n r => exact .inl ⟨_, rfl, ⟨_, SqL.of e⟩, c _ _ H1 e1 (yl_lst e n r) hx⟩
  | tup e n r => exact .inr ⟨_, rfl, ⟨_, SqT.of e⟩, c _ _ H1 e1 (yl_tup e n r) hx⟩
  | _ => exact (show False from hx).elim
/-- what a slot owns is changed no more -/
def frz (i : Nat) (env : List SV) : List SV := match env[i]? with
  | some (.own d) => env.set i (.val d)
  | _ => env
theorem Ok.frz {z : Zn} {X : AP} {H0 H : Hp} {σ : Sl} {env : List SV} (o : Ok z X H0 H σ env) (i : Nat) : Ok z X H0 H σ (frz i env) ∧ Fr z X (Ms z X σ env) H (Ms z X σ (Pu.frz i env)) H := by
  unfold Pu.frz
  split
  · rename_i d hd
    have hl : i < env.length := (List.getElem?_eq_some_iff.mp hd).1
    obtain ⟨a, ha, hc, hz, hx, h0⟩ := o.own i d hd
    have sub : ∀ b, Ms z X σ (env.set i (.val d)) b → Ms z X σ env b ∧ b ≠ a := by
      rintro b (h | h | ⟨j, e, h1, h2⟩)
      · exact ⟨.inl h, fun q => hz (by rw [← q]; exact h)⟩
      · exact ⟨.inr (.inl h), fun q => hx (by rw [← q]; exact h)⟩
      · obtain ⟨hj, h1⟩ := set_own h1
        refine ⟨.inr (.inr ⟨j, e, h1, h2⟩), fun q => hj ?_⟩
        rw [q] at h2
        exact o.inj j i a e d h1 hd h2 ha
    have old : ∀ b u, H b = some u → ¬ Ms z X σ env b → H b = some u ∧ ¬ Ms z X σ (env.set i (.val d)) b := fun b u q n => ⟨q, fun y => n (sub b y).1⟩
    refine ⟨⟨by simp [o.len], o.evo, o.zal, o.xal, fun j e h => ?_, fun j e h => ?_, fun j l b e f h1 h2 h3 h4 => ?_, o.tab⟩, ⟨old, fun _ h => h, fun _ h => h⟩⟩
    · by_cases hj : i = j
      · subst hj
        rw [List.getElem?_set_self hl] at h
        cases h
        exact ⟨_, ha, (hc.gen (fun _ q => q) old fun _ h => h).is fun q => (sub a q).2 rfl⟩
      · rw [List.getElem?_set_ne hj] at h
        obtain ⟨v, h1, h2⟩ := o.val j e h
        exact ⟨v, h1, h2.gen old fun _ h => h⟩
    · obtain ⟨hj, h⟩ := set_own h
      obtain ⟨b, h1, h2, h3⟩ := o.own j e h
      exact ⟨b, h1, h2.gen (fun _ q => q) old fun _ h => h, h3⟩
    · exact o.inj j l b e f (set_own h1).2 (set_own h2).2 h3 h4
  · exact ⟨o, Fr.refl⟩
def sFrz (i : Nat) (p : PSt) : PSt := fun env k => p (frz i env) k
theorem b_frz (i : Nat) {sts : List Stmt} {p : PSt} (h : B fr C sts p) : B fr C sts (sFrz i p) := by
  obtain ⟨t, h1, h2⟩ := h
  refine ⟨t, h1, fun z X H0 H σ env G k o s hp => ?_⟩
  obtain ⟨o2, f2⟩ := o.frz i
  exact h2 z X H0 H σ _ G k o2 (s.go f2) hp
/-- t[::-1] of a list -/
theorem e_revL {kk : Nat} {p1 p2 p3 : Pos} (h : E .c C e pe) : E .f C (.Subscript e (.Slice none none (some (.UnaryOp .USub (.Constant (.int 1) kk p1) p2)) p3) pos) (eUn dRevL pe) := by
  obtain ⟨t, h1, h2⟩ := h
  refine ⟨_, pe_revL h1, fun z X H0 H σ env Q k o c hp => h2 z X H0 H σ env _ _ o (fun d v H1 e1 r1 hx => ?_) hp⟩
  cases d with
  | lst xs =>
    obtain ⟨a, vs, rfl, q1, q2, n⟩ := r1.conL
    exact ⟨a, vs, rfl, SqL.of q1, fun q hq => c _ _ _ (e1.new hq) (Rel.newL (e1.fresh hq) hq q2.reverse) hx⟩
  | _ => exact (show False from hx).elim
end
/-! ### a law by its deck and the rest of its body -/
section
variable {P : Program} {w : World} {K : PySem.W.Frag} {mg : Str → Option Value} {base : Heap}
/-- the deck's promise: a new deck of kind nt -/
def SpDeck (K : PySem.W.Frag) (nt : Nat) : Sp := fun vs H Q _ => ∃ (a : Addr) (ns : List Int), vs = [.ref a] ∧ SqL K H a (ns.map V.int) ∧ ns.length ≤ 63 ∧ ∀ H' dk c, DkF nt H' dk c → Q (.ref dk) H'
def SpLaw (K : PySem.W.Frag) : Sp := fun vs H Q _ => ∃ (a : Addr) (ns : List Int), vs = [.ref a] ∧ SqL K H a (ns.map V.int) ∧ ns.length ≤ 63 ∧ ∀ H', Q (.bl true) H'
def sp_lawT (K : PySem.W.Frag) (tb : List Addr) : Sp := fun vs H Q _ => ∃ (a : Addr) (ns : List Int), vs = [.ref a] ∧ SqL K H a (ns.map V.int) ∧ ns.length ≤ 63 ∧ (∀ P ∈ tb, GxR.TabG H P) ∧ ∀ H', Q (.bl true) H'
/-- the rest of the body, behind the deck's making -/
theorem rest_ok {t : TS} {p : PSt} {nt : Nat} (hnt : nt ≠ 0) (h : RS false t p) {N : List Str} {a dk c : Addr} {H : Hp} (hl : 2 ≤ N.length) (hd : DkF nt H dk c) (hT : Tabs H) {Q : VK} (k : ∀ H', Q (.bl true) H')
    (hp : p (SV.no :: SV.val (.deck nt) :: List.replicate (N.length - 2) SV.no) { nx := fun _ => False, rt := fun d => d = .bl true }) (h6 : ∀ H dk c n, CtF nt H dk c n := by intros; trivial) :
    t { nx := fun _ H' => Q .non H', rt := Q } ((L2.start N [V.ref a]).set 1 (some (.ref dk))) H := by
  have hst : (L2.start N [V.ref a]).set 1 (some (.ref dk)) = some (V.ref a) :: some (.ref dk) :: List.replicate (N.length - 2) none := by
    unfold L2.start
    obtain ⟨m, hm⟩ : ∃ m, N.length = m + 2 := ⟨N.length - 2, by omega⟩
    rw [hm]
    simp [List.replicate_succ]
  rw [hst]
  let z : Zn := ⟨dk, c, nt, Option.none, 0⟩
  have zal : ∀ b, z.Z b → H b ≠ none := fun b q => by
    rcases q with ⟨_, q | q⟩ | q
    · rw [q]; exact hd.al.1
    · rw [q]; exact hd.al.2
    · exact hT.at q
  have hrep : ∀ (i : Nat) (d : SV), (SV.no :: SV.val (.deck nt) :: List.replicate (N.length - 2) SV.no)[i]? = some d → d = .no ∨ (i = 1 ∧ d = .val (.deck nt)) := fun i d h => by
    match i, h with
    | 0, h => simp at h; exact .inl h.symm
    | 1, h => simp at h; exact .inr ⟨rfl, h.symm⟩
    | j + 2, h =>
      simp only [List.getElem?_cons_succ, List.getElem?_replicate] at h
      split at h
      · cases h; exact .inl rfl
      · cases h
  have o : Ok z (fun _ => False) H H (some (V.ref a) :: some (.ref dk) :: List.replicate (N.length - 2) none) (SV.no :: SV.val (.deck nt) :: List.replicate (N.length - 2) SV.no) := by
    refine ⟨by simp, Evo.refl _ _, zal, fun _ q => q.elim, fun i d h => ?_, fun i d h => ?_, fun i j b d e h _ _ _ => ?_, hT⟩
    · rcases hrep i _ h with q | ⟨rfl, q⟩
      · cases q
      · cases q
        exact ⟨.ref dk, rfl, Is.deck ⟨rfl, hnt, hd, h6 _ _ _ _⟩⟩
    · rcases hrep i _ h with q | ⟨rfl, q⟩ <;> cases q
    · rcases hrep i _ h with q | ⟨rfl, q⟩ <;> cases q
  refine h z (fun _ => False) H H _ _ _ { nx := fun _ => False, rt := fun d => d = .bl true } o ⟨fun _ _ _ _ _ q => q.elim, fun d v H' _ r _ q => ?_, fun _ _ _ _ _ q => q.elim, fun _ _ _ _ _ q => q.elim, fun _ _ _ _ _ _ _ q => q.elim⟩ hp
  subst q
  cases r
  exact k H'
/-- the rest of a deck's making, behind the cells' copy: [cells, seed, 0, 0] -/
theorem rest_deck {t : TS} {p : PSt} (h : RS false t p) {N : List Str} {a q : Addr} {H : Hp} {cs : List Int} (hl : 2 ≤ N.length) (hc : H q = some (.lst (cs.map V.int))) (hT : Tabs H) {Q : VK} {R : D → Prop} (k : ∀ H' v d, R d → Is Zn.none (fun _ => False) H' v d → Tabs H' → Q v H')
    (hp : p (SV.no :: SV.val (.lst (cs.map D.int)) :: List.replicate (N.length - 2) SV.no) { nx := fun _ => False, rt := R }) :
    t { nx := fun _ H' => Q .non H', rt := Q } ((L2.start N [V.ref a]).set 1 (some (.ref q))) H := by
  have hst : (L2.start N [V.ref a]).set 1 (some (.ref q)) = some (V.ref a) :: some (.ref q) :: List.replicate (N.length - 2) none := by
    unfold L2.start
    obtain ⟨m, hm⟩ : ∃ m, N.length = m + 2 := ⟨N.length - 2, by omega⟩
    rw [hm]
    simp [List.replicate_succ]
  rw [hst]
  have zz : ∀ b, Zn.none.Z b → b ∈ Tbs.tb := fun b w => w.elim (fun w => absurd rfl w.1) fun w => w
  have zq : ¬ Zn.none.Z q := fun w => by
    obtain ⟨ps, e, _⟩ := hT q (zz q w)
    rw [hc] at e
    cases e
  have hrep : ∀ (i : Nat) (d : SV), (SV.no :: SV.val (.lst (cs.map D.int)) :: List.replicate (N.length - 2) SV.no)[i]? = some d → d = .no ∨ (i = 1 ∧ d = .val (.lst (cs.map D.int))) := fun i d h => by
    match i, h with
    | 0, h => simp at h; exact .inl h.symm
    | 1, h => simp at h; exact .inr ⟨rfl, h.symm⟩
    | j + 2, h =>
      simp only [List.getElem?_cons_succ, List.getElem?_replicate] at h
      split at h
      · cases h; exact .inl rfl
      · cases h
  have hia : ∀ (M : AP) (ns : List Int), IsA Zn.none M H (ns.map V.int) (ns.map D.int) := fun M ns => by
    induction ns with
    | nil => exact .nil
    | cons n ns ih => exact .cons (.int n) ih
  have hms : ¬ Ms Zn.none (fun _ => False) (some (V.ref a) :: some (.ref q) :: List.replicate (N.length - 2) none) (SV.no :: SV.val (.lst (cs.map D.int)) :: List.replicate (N.length - 2) SV.no) q := fun w => by
    rcases w with w | w | ⟨i, d, w, _⟩
    · exact zq w
    · exact w
    · rcases hrep i _ w with q | ⟨_, q⟩ <;> cases q
  have o : Ok Zn.none (fun _ => False) H H (some (V.ref a) :: some (.ref q) :: List.replicate (N.length - 2) none) (SV.no :: SV.val (.lst (cs.map D.int)) :: List.replicate (N.length - 2) SV.no) := by
    refine ⟨by simp, Evo.refl _ _, fun b w => hT.at (zz b w), fun _ q => q.elim, fun i d h => ?_, fun i d h => ?_, fun i j b d e h _ _ _ => ?_, hT⟩
    · rcases hrep i _ h with q | ⟨rfl, q⟩
      · cases q
      · cases q
        exact ⟨.ref _, rfl, Is.lst hc hms (hia _ cs)⟩
    · rcases hrep i _ h with q | ⟨rfl, q⟩ <;> cases q
    · rcases hrep i _ h with q | ⟨rfl, q⟩ <;> cases q
  refine h Zn.none (fun _ => False) H H _ _ _ { nx := fun _ => False, rt := R } o ⟨fun _ _ _ _ _ q => q.elim, fun d v H' ev r _ w => ?_, fun _ _ _ _ _ q => q.elim, fun _ _ _ _ _ q => q.elim, fun _ _ _ _ _ _ _ q => q.elim⟩ hp
  exact k H' v d w (r.gen (fun b o e _ => ⟨e, fun w => w⟩) fun _ w => w) (ev.tab hT)
end
end Pu
namespace Pu
open PySem PySem.Spec PyProof.Rows L2
variable [Tbs]
theorem E.conv {C : Cx} {m : Mode} {e : Expr} {p p' : PX} (h : E m C e p) (f : ∀ env k, p' env k → p env k) : E m C e p' := by
  obtain ⟨t, h1, h2⟩ := h
  exact ⟨t, h1, fun z X H0 H σ env Q k o c hp => h2 z X H0 H σ env Q k o c (f env k hp)⟩
/-- a written power -/
theorem e_powC {C : Cx} {i1 i2 : Nat} {p1 p2 pos : Pos} (b e r : Int) (hc : CPow b e := by exact ⟨by decide, by decide, by decide⟩) (hr : b ^ e.toNat = r := by rfl) : E .e C (.BinOp (.Constant (.int b) i1 p1) .Pow (.Constant (.int e) i2 p2) pos) (eC (.int r)) :=
  (e_op op_pow opd_pow e_int.toB e_int.toB).conv fun env k h => ⟨hc, by show k (.int (b ^ e.toNat)); rw [hr]; exact h⟩
def tPS (fr : Bool) (p : PSt) : TS := fun G σ H => ∃ z X H0 env k, Ok z X H0 H σ env ∧ Sim fr z X H0 (Ms z X σ env) H G k ∧ p env k
theorem B.pss {fr : Bool} {C : Cx} {sts : List Stmt} {p : PSt} (h : B fr C sts p) : PSs C sts (tPS fr p) := by
  obtain ⟨t, h1, h2⟩ := h
  exact ⟨fun pins s σ H G I ⟨z, X, H0, env, k, o, c, hp⟩ => h1.run pins s σ H G I (h2 z X H0 H σ env G k o c hp)⟩
theorem rs_tPS {fr : Bool} {p : PSt} : RS fr (tPS fr p) p := fun z X H0 H σ env G k o c hp => ⟨z, X, H0, env, k, o, c, hp⟩
end Pu

namespace Ew
open PySem PySem.Spec PyProof.Rows L2
variable [Tbs]
section
variable {M : Model} {A : Around} {E : Value → Shared → Prop} {s : Shared} {env : Env}
theorem callT_kwB {pos : Pos} {T : String} {first : List Value} {args : List (Bool × Sem Value)} {keywords : List (Option Str × Sem Value)} {Q : Value → Shared → Prop}
    (hplain : args.any (·.1) = false) (hkw : keywords.any (·.1.isNone) = false)
    (h : wpAny M A (evalArgs (.type T) true args keywords) (fun a s₁ => wpAny M A (call (.type T) (first ++ a.pos) a.kw) Q E s₁) E s) :
    wpAny M A (callWith pos (.type T) first args keywords) Q E s := by
  unfold callWith
  refine wpAny_bind (wpAny_holding (wpAny_mono h (fun a s₁ h₁ => wpAny_bind (wpAny_standAt ?_)) fun _ _ x => x))
  simp only [hplain, hkw, Bool.or_false]
  refine wpAny_bind (wpAny_pure ?_)
  exact wpAny_bind (wpAny_mono h₁ (fun r s₂ hr => wpAny_bind (wpAny_holding (wpAny_point (wpAny_pure hr)))) fun _ _ x => x)
theorem callT_kw {pos : Pos} {T : String} {e : Expr} {rest : List Expr} {kws : List Keyword} {Q : Value → Shared → Prop}
    (h : wpAny M A (spliced (backTo pos (starEach (e :: rest) env))) (fun vs s₁ => wpAny M A (evalAll ((backToKw pos (keywordEach kws env)).map (·.2)))
      (fun kvs s₂ => wpAny M A (call (.type T) vs (((backToKw pos (keywordEach kws env)).filterMap (·.1)).zip kvs)) Q E s₂) E s₁) E s)
    (he : backTo pos (starEach (e :: rest) env) = (false, eval e env) :: backTo pos (starEach rest env))
    (hplain : (backTo pos (starEach (e :: rest) env)).any (·.1) = false)
    (hall : (backToKw pos (keywordEach kws env)).all (·.1.isSome) = true)
    (hkw : (backToKw pos (keywordEach kws env)).any (·.1.isNone) = false) :
    wpAny M A (callWith pos (.type T) [] (backTo pos (starEach (e :: rest) env)) (backToKw pos (keywordEach kws env))) Q E s := by
  refine callT_kwB hplain hkw ?_
  rw [he] at h ⊢
  exact evalArgs_kwB hall h
end
/-- enumerate(t, start=k) over the tuple at t -/
def IteS (K : PySem.W.Frag) (t : Addr) (k : Int) : It :=
  ⟨fun i H => ∃ xs x, SqT K H t xs ∧ xs[i]? = some x, fun i H v H' => ∃ T x, v = .ref T ∧ H T = none ∧ H' = upd H T (.tup [.int (k + (i : Int)), x]) ∧ ∀ xs, SqT K H t xs → xs[i]? = some x, fun i H => ∃ xs, SqT K H t xs ∧ xs.length = i⟩
theorem turn_enumS {P : Program} {w : World} {K : PySem.W.Frag} {elts : List Expr} {kk : Nat} {tpos : Pos} (t e it : Addr) (k : Int) (hte : t ≠ it) (het : e ≠ t) :
    Turn P w K (.Tuple elts kk tpos) (IteS K t k) [e, it] e (fun i h => (∃ old, IsEnum h e it (k + (i : Int)) old) ∧ h.IsTupleIter it t i ∧ e ≠ it) where
  mem := by simp
  obj := fun i h st b hb => by
    obtain ⟨⟨old, he⟩, ⟨o, ho, hc, hd⟩, _⟩ := st
    have e' : b = e ∨ b = it := by simpa using hb
    rcases e' with z | z
    · rw [z]; exact ⟨_, he, fun v q => nomatch q⟩
    · rw [z]; exact ⟨o, ho, fun v q => by rw [hd] at q; cases q⟩
  keep := fun i h h' st kk => let ⟨⟨old, he⟩, hi, hne⟩ := st; ⟨⟨old, kk e (by simp) _ he⟩, hi.at fun o q => kk it (by simp) o q, hne⟩
  item := by
    intro X hP hw hK hc i pins s σ H E I hf st hg
    subst hP hw hK
    obtain ⟨⟨old, he⟩, hit, hne⟩ := st
    obtain ⟨xs, x, hq, hx⟩ := hg
    obtain ⟨its, rv, p, hz⟩ := I.tuple hq
    obtain ⟨u, hu, ru⟩ := rv.get hx
    have hi : i < its.toArray.size := by
      rw [List.size_toArray]
      exact (List.getElem?_eq_some_iff.mp hu).1
    have D := Draws.tuple (prog := X.prog) (w := X.w) (A := X.A.in1) (I.ok.hd hc) it t hte its.toArray
    have G := GoesN.enumFrom (elts := elts) (x1 := kk) (pos := tpos) k D e hne (by intro m; rcases List.mem_cons.mp m with z | z; exact hne z; exact het (List.mem_singleton.mp z)) (by simp)
    refine G.goes i s _ E hi ⟨⟨old, he⟩, hit, p⟩ fun v h' tk hY st' hk htk => ?_
    obtain ⟨T, tt, x', rfl, hT, hx', hTu⟩ := hY
    have ex : x' = u := by
      have q : its.toArray[i]? = some u := by simpa using hu
      rw [q] at hx'
      exact (Option.some.inj hx').symm
    subst ex
    have new : ObjOk X.prog X.w (upd H T (.tup [.int (k + (i : Int)), x])) h' T (.tup [.int (k + (i : Int)), x]) := ⟨by show 2 ≤ sizeLine; decide, [.int (k + (i : Int)) tt, x'], .cons ⟨_, rfl⟩ (.cons ru .nil), hTu⟩
    have I1 := I.turnedNew (t' := tk) (ch := [e, it]) hk hf hT new
    obtain ⟨⟨old', he'⟩, hit', _⟩ := st'
    refine ⟨.ref T, _, I1, rfl, ⟨T, x, rfl, I.hok.fresh hT, rfl, fun ys hy => by rw [I.tuple_inj hy hq]; exact hx⟩, ⟨⟨old', ?_⟩, hit', hne⟩, fun b hb => ?_⟩
    · have e1 : k + ((i + 1 : Nat) : Int) = k + (i : Int) + 1 := by omega
      have e2 : k + ((i : Nat) + 1 : Int) = k + (i : Int) + 1 := by omega
      exact he'
    · have hb' : b < s.heap.objs.size := by
        have e' : b = e ∨ b = it := by simpa using hb
        rcases e' with z | z
        · rw [z]; exact Heap.lt_size he
        · rw [z]; obtain ⟨_, q, _⟩ := hit; exact Heap.lt_size q
      rw [upd_ne (Nat.ne_of_lt (Nat.lt_of_lt_of_le hb' hT))]
      exact (hf b hb).1
  done := by
    intro X hP hw hK hc i pins s σ H E I hf st hg
    subst hP hw hK
    obtain ⟨⟨old, he⟩, hit, hne⟩ := st
    obtain ⟨xs, hq, hx⟩ := hg
    obtain ⟨its, rv, p, hz⟩ := I.tuple hq
    have hl := rv.length
    have hn : i = its.toArray.size := by rw [List.size_toArray]; omega
    subst hn
    have D := Draws.tuple (prog := X.prog) (w := X.w) (A := X.A.in1) (I.ok.hd hc) it t hte its.toArray
    have G := GoesN.enumFrom (elts := elts) (x1 := kk) (pos := tpos) k D e hne (by intro m; rcases List.mem_cons.mp m with z | z; exact hne z; exact het (List.mem_singleton.mp z)) (by simp)
    exact G.stops s _ E ⟨⟨old, he⟩, hit, p⟩ fun h' tk hk htk => I.turnedL (t' := tk) hk hf
  self := fun A i s Q E st h => let ⟨⟨_, he⟩, _⟩ := st; wpAny_pyIter_enum he h
def iEnumS (K : PySem.W.Frag) (ta tk : TA) : TI := fun σ H R => ta σ H fun vs H1 => tk σ H1 fun zs H2 => ∃ (t : Addr) (k : Int) (xs : List V), vs = [.ref t] ∧ zs = [.int k] ∧ SqT K H2 t xs ∧ -(2 ^ 63) ≤ k ∧ k < 2 ^ 63 ∧ R (IteS K t k) H2
theorem pi_enumS {X : Cx} {e : Expr} {kws : List Keyword} {ta tk : TA} {p pos tpos : Pos} {elts : List Expr} {kk : Nat} (hg : Gl X "enumerate") (hm : X.mg "enumerate" = none) (ha : PA X [e] ta) (hk : PK X kws tk)
    (he : backTo pos (starEach [e] X.env) = (false, eval e X.env) :: backTo pos (starEach [] X.env) := by rfl) (hpl : (backTo pos (starEach [e] X.env)).any (·.1) = false := by rfl)
    (hall : (backToKw pos (keywordEach kws X.env)).all (·.1.isSome) = true := by rfl) (hnone : (backToKw pos (keywordEach kws X.env)).any (·.1.isNone) = false := by rfl) (hks : (backToKw pos (keywordEach kws X.env)).filterMap (·.1) = [Str.ofString "start"] := by rfl) :
    PI X (.Tuple elts kk tpos) (.Call (.Name "enumerate" p) [e] kws pos) (iEnumS X.K ta tk) := by
  refine ⟨fun pins s σ H R I h => ?_⟩
  refine wpAny_Call_Name_kw (ld_blt I hg hm boot_enumerate ?_)
  refine callT_kw (thn (ha.run pos pins s σ H _ I h) fun us s1 ⟨vs, H1, I1, r1, q1⟩ => thn (hk.run pos pins s1 σ H1 _ I1 q1) fun ws s2 ⟨zs, H2, I2, r2, q2⟩ => ?_) he hpl hall hnone
  obtain ⟨t, k, xs, ev, ez, hq, k0, k1, q⟩ := q2
  subst ev ez
  rw [hks]
  cases r1 with
  | cons ra rr =>
    cases rr
    cases ra
    cases r2 with
    | cons rb rr2 =>
      cases rr2
      obtain ⟨tok, rfl⟩ := rb
      obtain ⟨its, rv, p', hz⟩ := I2.tuple hq
      refine enum_begins_start (begins_tuple t its.toArray) p' k0 k1 fun h' hen hit hsz hkeep => wpAny_pyIter_enum hen ?_
      have I3 : Inv X pins σ H2 { s2 with heap := h' } := I2.kept (t' := s2.toks) hkeep
      have htl : t < s2.heap.objs.size := by obtain ⟨_, qq, _⟩ := p'; exact Heap.lt_size qq
      refine ⟨s2.heap.objs.size + 1, [s2.heap.objs.size + 1, s2.heap.objs.size], _, _, H2, rfl, I3, turn_enumS t (s2.heap.objs.size + 1) s2.heap.objs.size k (Nat.ne_of_lt htl) (Nat.ne_of_gt (Nat.lt_succ_of_lt htl)), ⟨⟨.none, ?_⟩, ⟨_, hit, rfl, rfl⟩, Nat.succ_ne_self _⟩, fun b hb => ?_, q⟩
      · show IsEnum h' _ _ (k + ((0 : Nat) : Int)) .none
        rw [show k + ((0 : Nat) : Int) = k by omega]
        exact hen
      have e' : b = s2.heap.objs.size + 1 ∨ b = s2.heap.objs.size := by simpa using hb
      have hle : s2.heap.objs.size ≤ b := by
        rcases e' with z | z
        · rw [z]; exact Nat.le_add_right _ _
        · rw [z]; exact Nat.le_refl _
      exact I2.fpOk hle (I2.hok.fresh hle)
/-- the loop: each turn a new pair of start + i and the item -/
theorem for_enumS {K : PySem.W.Frag} {t : Addr} {k : Int} {xs : List V} {g : TG} {tb : TS} {D : Ends} {σ : L2.St} {H : Hp} (Pv : Nat → L2.St → Hp → Prop) (h0 : Pv 0 σ H) (hl : ∀ i σ H, i ≤ xs.length → Pv i σ H → SqT K H t xs)
    (hs : ∀ i x T σ H, xs[i]? = some x → Pv i σ H → H T = none → g (.ref T) σ (upd H T (.tup [.int (k + (i : Int)), x])) fun σ2 H2 => tb { D with nx := Pv (i + 1), ct := Pv (i + 1), bk := D.nx } σ2 H2) (hd : ∀ σ H, Pv xs.length σ H → D.nx σ H) :
    ∃ W : Nat → Nat → L2.St → Hp → Prop, (∃ m, W 0 m σ H) ∧ ∀ i m σ H, W i m σ H →
      ((IteS K t k).stop i H ∧ D.nx σ H) ∨ ((IteS K t k).go i H ∧ ∃ N : L2.St → Hp → Prop, (∀ σ' H', N σ' H' → ∃ m', m' < m ∧ W (i + 1) m' σ' H') ∧ ∀ x H', (IteS K t k).yld i H x H' → g x σ H' fun σ2 H2 => tb { D with nx := N, ct := N, bk := D.nx } σ2 H2) := by
  refine ⟨fun i m σ H => m = xs.length - i ∧ i ≤ xs.length ∧ Pv i σ H, ⟨xs.length, by simp, Nat.zero_le _, h0⟩, ?_⟩
  rintro i m σ H ⟨rfl, hi, p⟩
  have q := hl i σ H hi p
  by_cases hlt : i < xs.length
  · refine .inr ⟨⟨xs, xs[i], q, by simp [hlt]⟩, Pv (i + 1), fun σ' H' p' => ⟨xs.length - (i + 1), by omega, rfl, hlt, p'⟩, fun x H' y => ?_⟩
    obtain ⟨T, x', rfl, hT, rfl, hx⟩ := y
    exact hs i x' T σ H (hx xs q) p hT
  · have e : i = xs.length := by omega
    subst e
    exact .inl ⟨⟨xs, q, rfl⟩, hd σ H p⟩
end Ew

namespace Pu
open PySem PySem.Spec PyProof.Rows L2
variable [Tbs]
section
variable {C : Cx} {e tg : Expr} {p q : PX} {m : Mode} {fr : Bool} {pos pp : Pos}
/-- a statement that is never come to -/
def sNever : PSt := fun _ _ => False
theorem s_never {st : Stmt} : S fr C st sNever := ⟨_, ps_never, fun _ _ _ _ _ _ _ _ _ _ h => h.elim⟩
/-! enumerate -/
def enumD (j : Int) (xs : List D) : List D := (List.range xs.length).map fun i => .tup [.int (j + (i : Nat)), (xs[i]?).getD .non]
theorem enumD_get {j : Int} {xs : List D} {i : Nat} {d : D} (h : (enumD j xs)[i]? = some d) : ∃ x, xs[i]? = some x ∧ d = .tup [.int (j + (i : Nat)), x] := by
  have hl := (List.getElem?_eq_some_iff.mp h).1
  have hi : i < xs.length := by simpa [enumD] using hl
  refine ⟨xs[i], List.getElem?_eq_getElem hi, ?_⟩
  unfold enumD at h
  rw [List.getElem?_map, List.getElem?_range hi] at h
  simp only [Option.map_some, Option.some.injEq] at h
  rw [← h, List.getElem?_eq_getElem hi]
  rfl
theorem enumD_len {j : Int} {xs : List D} : (enumD j xs).length = xs.length := by simp [enumD]
theorem pair_is {z : Zn} {M : AP} {H : Hp} {T : Addr} {x : V} {d : D} {n : Int} (hT : H T = none) (hM : ¬ M T) (h : Is z M H x d) : Is z M (upd H T (.tup [.int n, x])) (.ref T) (.tup [.int n, d]) :=
  .tup upd_same hM (.cons (.int n) (.cons (h.new hT) .nil))
theorem yl_enumS {z : Zn} {X : AP} {M : AP} {H : Hp} {K : PySem.W.Frag} {a : Addr} {vs : List V} {ds : List D} {j : Int} (h : H a = some (.tup vs)) (n : ¬ M a) (r : IsA z M H vs ds) : Yields z X M H (Ew.IteS K a j) (enumD j ds) := fun M' H' f => by
  have h' := (f.old a _ h n).1
  have r' := f.isA r
  have hl := r'.length
  refine ⟨⟨vs, SqT.of h', by rw [hl, enumD_len]⟩, fun i d hd => ?_⟩
  · obtain ⟨x, hx, rfl⟩ := enumD_get hd
    obtain ⟨v, h1, h2⟩ := r'.get hx
    refine ⟨⟨vs, v, SqT.of h', h1⟩, fun y H2 yy => ?_⟩
    obtain ⟨T, x', rfl, hT, rfl, hx'⟩ := yy
    have e := hx' vs (SqT.of h')
    rw [h1] at e
    cases e
    exact ⟨(Evo.refl _ _).new hT, fun _ fm => pair_is hT (fm T hT) h2⟩
theorem yl_enumL {z : Zn} {X : AP} {M : AP} {H : Hp} {K : PySem.W.Frag} {a : Addr} {vs : List V} {ds : List D} (h : H a = some (.lst vs)) (n : ¬ M a) (r : IsA z M H vs ds) : Yields z X M H (Ite K a) (enumD 0 ds) := fun M' H' f => by
  have h' := (f.old a _ h n).1
  have r' := f.isA r
  have hl := r'.length
  refine ⟨⟨vs, SqL.of h', by rw [hl, enumD_len]; exact Nat.le_refl _⟩, fun i d hd => ?_⟩
  · obtain ⟨x, hx, rfl⟩ := enumD_get hd
    obtain ⟨v, h1, h2⟩ := r'.get hx
    refine ⟨⟨vs, v, SqL.of h', h1⟩, fun y H2 yy => ?_⟩
    obtain ⟨T, x', rfl, hT, rfl, hx'⟩ := yy
    have e := hx' vs (SqL.of h')
    rw [h1] at e
    cases e
    rw [show (0 : Int) + (i : Nat) = (i : Nat) from Int.zero_add _]
    exact ⟨(Evo.refl _ _).new hT, fun _ fm => pair_is hT (fm T hT) h2⟩
def enK (d s : D) (k : List D → Prop) : Prop := match d, s with
  | .tup xs, .int j => (-100000 < j ∧ j < 100000) ∧ k (enumD j xs)
  | _, _ => False
def iEnumS (p q : PX) : PIt := fun env k => p env fun d => q env fun s => enK d s k
theorem i_enumS {b : Expr} {nm : Option Str} {kpos tpos : Pos} {elts : List Expr} {kk : Nat} (h : E .e C e p) (g : E m C b q) (hg : Gl C "enumerate") (hm : C.mg "enumerate" = none)
    (he : backTo pos (starEach [e] C.env) = (false, eval e C.env) :: backTo pos (starEach [] C.env) := by rfl) (hpl : (backTo pos (starEach [e] C.env)).any (·.1) = false := by rfl)
    (hall : (backToKw pos (keywordEach [⟨nm, b, kpos⟩] C.env)).all (·.1.isSome) = true := by rfl) (hnone : (backToKw pos (keywordEach [⟨nm, b, kpos⟩] C.env)).any (·.1.isNone) = false := by rfl) (hks : (backToKw pos (keywordEach [⟨nm, b, kpos⟩] C.env)).filterMap (·.1) = [Str.ofString "start"] := by rfl)
    (hs : starEach [e] C.env = (false, eval e C.env) :: starEach [] C.env := by rfl) :
    I C (.Tuple elts kk tpos) (.Call (.Name "enumerate" pp) [e] [⟨nm, b, kpos⟩] pos) (iEnumS p q) := by
  obtain ⟨t, h1, h2⟩ := h
  obtain ⟨u, g1, g2⟩ := g.toB
  refine ⟨_, Ew.pi_enumS hg hm (pa_cons h1 pa_nil hs) (pk_cons g1 pk_nil) he hpl hall hnone hks, fun z X H0 H σ env R k o c hp => h2 z X H0 H σ env _ _ o (fun d v H1 e1 r1 hx => ?_) hp⟩
  refine g2 z X H0 H1 σ env _ _ (o.go e1) (fun s w H2 e2 r2 hx => ?_) hx
  have r1' : Is z (Ms z X σ env) H2 v d := Is.evo (fun _ q => .inl q) e2 r1
  cases r1' with
  | tup e' n r =>
    cases s with
    | int j =>
      cases Is.intI r2
      obtain ⟨⟨j0, j1⟩, hk⟩ := hx
      exact ⟨_, j, _, rfl, rfl, SqT.of e', by omega, by omega, c _ _ H2 (e1.trans e2) (yl_enumS e' n r) hk⟩
    | _ => exact (show False from hx).elim
  | _ => exact (show False from hx).elim
/-- reversed(range(n)) -/
def revD (n : Nat) : List D := (List.range n).map fun i => .int ((n : Int) - 1 - (i : Nat))
theorem revD_get {n i : Nat} {d : D} (h : (revD n)[i]? = some d) : d = .int ((n : Int) - 1 - (i : Nat)) ∧ i < n := by
  have hl := (List.getElem?_eq_some_iff.mp h).1
  have hi : i < n := by simpa [revD] using hl
  refine ⟨?_, hi⟩
  unfold revD at h
  rw [List.getElem?_map, List.getElem?_range hi] at h
  simpa using h.symm
theorem yl_rev {z : Zn} {X : AP} {M : AP} {H : Hp} {n : Nat} : Yields z X M H (Itc (0 + ((n : Nat) : Int) - 1) (-1) n) (revD n) := fun M' H' f => by
  refine ⟨(by show n ≤ (revD n).length; simp [revD]), fun i d hd => ?_⟩
  obtain ⟨rfl, hi⟩ := revD_get hd
  refine ⟨hi, fun x H2 y => ?_⟩
  obtain ⟨rfl, rfl⟩ := y
  refine ⟨Evo.refl _ _, fun _ _ => ?_⟩
  rw [show (0 : Int) + ((n : Nat) : Int) - 1 + ((i : Nat) : Int) * (-1) = (n : Int) - 1 - (i : Nat) by omega]
  exact Is.int _
def rvK (d : D) (k : List D → Prop) : Prop := match d with
  | .int j => (-100000 < j ∧ j < 100000) ∧ k (revD j.toNat)
  | _ => False
def iRev1 (p : PX) : PIt := fun env k => p env fun d => rvK d k
theorem i_rev1 {a : Expr} {p2 pos2 : Pos} (h : E m C a p) (hg : Gl C "reversed") (hm : C.mg "reversed" = none) (hg' : Gl C "range") (hm' : C.mg "range" = none) (na : starEach [a] C.env = (false, eval a C.env) :: starEach [] C.env := by rfl)
    (nb : starEach [.Call (.Name "range" p2) [a] [] pos2] C.env = (false, eval (.Call (.Name "range" p2) [a] [] pos2) C.env) :: starEach [] C.env := by rfl) : I C tg (.Call (.Name "reversed" pp) [.Call (.Name "range" p2) [a] [] pos2] [] pos) (iRev1 p) := by
  obtain ⟨t, h1, h2⟩ := h.toB
  refine ⟨_, pi_revR hg hm (prg_1 hg' hm' h1 na) nb, fun z X H0 H σ env R k o c hp => h2 z X H0 H σ env _ _ o (fun d v H1 e1 r1 hx => ?_) hp⟩
  cases d with
  | int j =>
    cases Is.intI r1
    obtain ⟨hj, hk⟩ := hx
    refine ⟨j, rfl, by omega, by omega, by omega, by omega, c _ _ H1 e1 ?_ hk⟩
    rw [show j - 0 = j by omega]
    exact yl_rev
  | _ => exact (show False from hx).elim
/-- sorted(xs), whole numbers -/
def gSorted : List D → (D → Prop) → Prop := fun ds k => ∃ xs ns, ds = [.lst xs] ∧ intsD xs = some ns ∧ ∀ ms : List Int, ms.Perm ns → ms.Pairwise (· ≤ ·) → k (.lst (ms.map D.int))
theorem cd_sorted {l : Bool} {K : PySem.W.Frag} : CallD l .f (rSortedI K) gSorted := fun z X H0 H σ env vs ds Q k o h c hp => by
  obtain ⟨xs, ns, rfl, hi, hk⟩ := hp
  obtain ⟨a, rfl, ha⟩ := one_ints h hi
  exact ⟨a, ns, rfl, SqL.of ha, fun ms q h1 h2 hq => c _ _ _ ((Evo.refl _ _).new hq) (Rel.newL hq hq (IsA.ofInts ms)) (hk ms h1 h2)⟩
/-- x += e, whole numbers -/
def sAug (i : Nat) (p : PX) : PSt := fun env k => match env[i]? with
  | some (.val (.int a)) => p env fun d => inK d fun b => k.nx (env.set i (.val (.int (a + b))))
  | _ => False
theorem s_aug {i : Nat} {x : Str} {p2 : Pos} (h : E m C e p) (hN : C.N.Nodup) (hi : C.N[i]? = some x) (hx : Loc C.env.scope x) (hf : C.fn x = true ∨ C.env.scope.names.lookup x = some .local := by first | exact .inl rfl | exact .inr rfl | assumption) :
    S fr C (.AugAssign (.Name x p2) .Add e pos) (sAug i p) := by
  obtain ⟨t, h1, h2⟩ := h.toB
  refine ⟨_, ps_aug hN hi hx h1 ip_add hf, fun z X H0 H σ env G k o s hp => ?_⟩
  unfold sAug at hp
  split at hp
  · rename_i a he
    obtain ⟨v, v1, v2⟩ := o.val i _ he
    cases v2
    refine ⟨_, v1, h2 z X H0 H σ env _ _ o (fun d w H1 e1 r1 hx => ?_) hp⟩
    cases d with
    | int b =>
      cases Is.intI r1
      obtain ⟨o2, f2⟩ := (o.go e1).set (i := i) (v := .int (a + b)) (d := .int (a + b)) (.int _)
      exact ⟨a, b, rfl, rfl, s.nx _ _ H1 o2 ((o.fr e1).trans f2) hx⟩
    | _ => exact (show False from hx).elim
  · exact hp.elim
end
end Pu

namespace Ew
open PySem PySem.Spec PyProof.Rows L2
variable [Tbs]
set_option maxHeartbeats 1000000 in
/-- enumerate(v) with no start, of anything that begins so -/
theorem meets_en0 {vv : Value} {ob : Obj} {HH : Heap → Prop} (Bg : Begins vv ob HH) :
    Meets (Builtin.«enumerate.__new__» ⟨[.type "enumerate", vv], []⟩) (fun _ R s => HH s.heap ∧
      R (.ok (.ret (.ref (s.heap.push ob).objs.size))) { s with heap := (s.heap.push ob).push { cls := .type "enumerate", data := .fields #[.none, .bool false, .ref s.heap.objs.size, rawInt 0, .none, .none] } }) :=
  .of_wp fun prg wld Ar Rr st hh => by
    obtain ⟨hp0, g0, d0, tk0, os0⟩ := st; obtain ⟨hh1, hh⟩ := hh
    have hsb := sub_enumerate
    have qq : ∀ {A' : Around} {E : Value → Shared → Prop} {Q : Value → Shared → Prop}, Q (.ref hp0.objs.size) ⟨hp0.push ob, g0, d0, tk0, os0⟩ → wpAny (model prg wld) A' (pyIter vv) Q E ⟨hp0, g0, d0, tk0, os0⟩ :=
      fun q => Bg.iter prg wld _ _ ⟨hp0, g0, d0, tk0, os0⟩ _ hh1 q
    wp_walk using qq
    refine wpAny_stack_any fun st => wpAny_pure ?_
    split
    · rename_i cc _ _ _ _ _
      cases (cc == Value.type "enumerate") <;> (wp_walk using qq; exact ⟨_, rfl, hh⟩)
    · wp_walk using qq
      exact ⟨_, rfl, hh⟩
section
variable {prog : Program} {w : World} {A : Around} {E : Value → Shared → Prop} {s : Shared}
theorem en0_begins {vv : Value} {ob : Obj} {HH : Heap → Prop} {Q : Value → Shared → Prop} (Bg : Begins vv ob HH) (hh1 : HH s.heap)
    (hh : ∀ h', IsEnum h' (s.heap.objs.size + 1) s.heap.objs.size 0 .none → h'.get? s.heap.objs.size = some ob → (∀ b o, s.heap.get? b = some o → h'.get? b = some o) → Q (.ref (s.heap.objs.size + 1)) { s with heap := h' }) :
    wpAny (model prog w) A (call (.type "enumerate") [vv]) Q E s := by
  refine callType_new F.called_enumerate (by decide) (F.typeCall_enumerate_1 _) (F.newCall_enumerate_1 _) (fun obj => F.args_object_init_2 obj _) F.entry_enumerate_new (meets_en0 Bg) ⟨hh1, ?_⟩
  have hsz : (s.heap.push ob).objs.size = s.heap.objs.size + 1 := Heap.size_push ..
  show _ ∧ _
  rw [hsz]
  have hen : IsEnum ((s.heap.push ob).push { cls := .type "enumerate", data := .fields #[.none, .bool false, .ref s.heap.objs.size, rawInt 0, .none, .none] }) (s.heap.objs.size + 1) s.heap.objs.size 0 .none := by
    have th := Heap.get?_push_size (s.heap.push ob) (o := { cls := .type "enumerate", data := .fields #[.none, .bool false, .ref s.heap.objs.size, rawInt 0, .none, .none] }) rfl
    rw [hsz] at th; exact th
  exact ⟨⟨_, hen, rfl⟩, hh _ hen (Heap.get?_push_of_some _ (Heap.get?_push_size _ Bg.free)) fun b o x => Heap.get?_push_of_some _ (Heap.get?_push_of_some _ x)⟩
end
/-- enumerate(x), a list or a tuple -/
def iEn0 (K : PySem.W.Frag) (ta : TA) : TI := fun σ H R => ta σ H fun vs H1 => ∃ (t : Addr) (xs : List V), vs = [.ref t] ∧ ((SqL K H1 t xs ∧ R (Ite K t) H1) ∨ (SqT K H1 t xs ∧ R (IteS K t 0) H1))
theorem pi_en0 {X : Cx} {e : Expr} {ta : TA} {p pos tpos : Pos} {elts : List Expr} {kk : Nat} (hg : Gl X "enumerate") (hm : X.mg "enumerate" = none) (ha : PA X [e] ta) (hs : starEach [e] X.env = [(false, eval e X.env)] := by rfl) :
    PI X (.Tuple elts kk tpos) (.Call (.Name "enumerate" p) [e] [] pos) (iEn0 X.K ta) := by
  refine ⟨fun pins s σ H R I h => ?_⟩
  refine Call_ (ld_blt I hg hm boot_enumerate (PyProof.Rows.callWith_type1 (thn (ha.run pos pins s σ H _ I h) fun us s1 ⟨vs, H1, I1, r1, q1⟩ => ?_) hs rfl))
  obtain ⟨t, xs, ex, q1⟩ := q1
  subst ex
  cases r1 with
  | cons r rr =>
    cases rr
    cases r
    have fp2 : ∀ b, b ∈ [s1.heap.objs.size + 1, s1.heap.objs.size] → FpOk X pins H1 b := fun b hb => by
      have hle : s1.heap.objs.size ≤ b := by
        rcases List.mem_cons.mp hb with z | z
        · rw [z]; exact Nat.le_add_right _ _
        · rw [List.mem_singleton.mp z]; exact Nat.le_refl _
      exact I1.fpOk hle (I1.hok.fresh hle)
    rcases q1 with ⟨hq, q⟩ | ⟨hq, q⟩
    · obtain ⟨its, rv, pl, hz⟩ := I1.list hq
      refine call_enumerate_list pl.isList fun h' hen hit hsz hk => wpAny_pyIter_enum hen ?_
      exact ⟨s1.heap.objs.size + 1, [s1.heap.objs.size + 1, s1.heap.objs.size], _, _, H1, rfl, I1.kept (t' := s1.toks) hk, turn_enum t (s1.heap.objs.size + 1) s1.heap.objs.size, ⟨⟨.none, hen⟩, hit, Nat.succ_ne_self _⟩, fp2, q⟩
    · obtain ⟨its, rv, pl, hz⟩ := I1.tuple hq
      refine en0_begins (begins_tuple t its.toArray) pl fun h' hen hit hk => wpAny_pyIter_enum hen ?_
      have htl : t < s1.heap.objs.size := by obtain ⟨_, qq, _⟩ := pl; exact Heap.lt_size qq
      refine ⟨s1.heap.objs.size + 1, [s1.heap.objs.size + 1, s1.heap.objs.size], _, _, H1, rfl, I1.kept (t' := s1.toks) hk, turn_enumS t (s1.heap.objs.size + 1) s1.heap.objs.size 0 (Nat.ne_of_lt htl) (Nat.ne_of_gt (Nat.lt_succ_of_lt htl)), ⟨⟨.none, ?_⟩, ⟨_, hit, rfl, rfl⟩, Nat.succ_ne_self _⟩, fp2, q⟩
      show IsEnum h' _ _ (0 + ((0 : Nat) : Int)) .none
      rw [show (0 : Int) + ((0 : Nat) : Int) = 0 by omega]
      exact hen
end Ew
namespace Pu
open PySem PySem.Spec PyProof.Rows L2
variable [Tbs]
section
variable {C : Cx} {e tg : Expr} {p q : PX} {m : Mode} {fr : Bool} {pos pp : Pos}
def en0K (d : D) (k : List D → Prop) : Prop := match d with
  | .tup xs => k (enumD 0 xs)
  | .lst xs => k (enumD 0 xs)
  | _ => False
def iEnum0 (p : PX) : PIt := fun env k => p env fun d => en0K d k
theorem i_enum0 {tpos : Pos} {elts : List Expr} {kk : Nat} (h : E .e C e p) (hg : Gl C "enumerate") (hm : C.mg "enumerate" = none) (hs : starEach [e] C.env = [(false, eval e C.env)] := by rfl) (hs2 : starEach [e] C.env = (false, eval e C.env) :: starEach [] C.env := by rfl) :
    I C (.Tuple elts kk tpos) (.Call (.Name "enumerate" pp) [e] [] pos) (iEnum0 p) := by
  obtain ⟨t, h1, h2⟩ := h
  refine ⟨_, Ew.pi_en0 hg hm (pa_cons h1 pa_nil hs2) hs, fun z X H0 H σ env R k o c hp => h2 z X H0 H σ env _ _ o (fun d v H1 e1 r1 hx => ?_) hp⟩
  cases (show Is z _ H1 v d from r1) with
  | lst e n r => exact ⟨_, _, rfl, .inl ⟨SqL.of e, c _ _ H1 e1 (yl_enumL e n r) hx⟩⟩
  | tup e n r => exact ⟨_, _, rfl, .inr ⟨SqT.of e, c _ _ H1 e1 (yl_enumS e n r) hx⟩⟩
  | _ => exact (show False from hx).elim
/-- x.insert(i, e) -/
def sInsert (i : Nat) (pi pe : PX) : PSt := fun env k => match env[i]? with
  | some (.own (.lst xs)) => pi env fun d => pe env fun y => inK d fun n => (0 ≤ n ∧ n < 100000 ∧ xs.length ≤ 100000) ∧ k.nx (env.set i (.own (.lst (xs.take n.toNat ++ [y] ++ xs.drop n.toNat))))
  | _ => False
def rInsert : V → List V → Hp → VK → Prop := fun x vs H Q => ∃ (l : Addr) (xs : List V) (i : Int) (y : V), x = .ref l ∧ vs = [.int i, y] ∧ H l = some (.lst xs) ∧ xs.length < sizeLine ∧ 0 ≤ i ∧ i < 2 ^ 63 ∧ Q .non (upd H l (.lst (xs.take i.toNat ++ [y] ++ xs.drop i.toNat)))
theorem s_insert (i : Nat) {x : Str} {ix : Expr} {apos cpos : Pos} (hi : E m C ix p) (h : E .e C e q) (hN : C.N[i]? = some x := by rfl) (hv : Vis C.env.scope x := by first | exact Or.inl rfl | exact Or.inr (Or.inl rfl) | exact Or.inr (Or.inr rfl)) (hd : (x == ("__debug__" : Str)) = false := by decide)
    (hcd : (x == ("__classdict__" : Str)) = false := by decide)
    (hb : ∀ to t1 t2, PE C (.Name x pp) to → PE C ix t1 → PE C e t2 → PE C (.Call (.Attribute (.Name x pp) "insert" apos) [ix, e] [] cpos) (tBM C.K "list" rInsert to (tCons t1 (tCons t2 tNil))))
    (hs : swapsWith (.Call (.Attribute (.Name x pp) "insert" apos) [ix, e] [] cpos) none pos.line C.env = pure false := by rfl) :
    S fr C (.Expr (.Call (.Attribute (.Name x pp) "insert" apos) [ix, e] [] cpos) pos) (sInsert i p q) := by
  obtain ⟨t1, a1, a2⟩ := hi.toB
  obtain ⟨t2, b1, b2⟩ := h
  refine ⟨_, ps_expr (hb _ _ _ (pe_var hN hv hd hcd) a1 b1) hs, fun z X H0 H σ env G k o s hp => ?_⟩
  unfold sInsert at hp
  split at hp
  · rename_i xs he
    obtain ⟨a, q1, ⟨vs, q5, q6⟩, q3, q4⟩ := o.own i _ he
    refine ⟨_, q1, .inl ⟨rfl, vs, SqL.of q5⟩, a2 z X H0 H σ env _ _ o (fun d v H1 e1 r1 hx => ?_) hp⟩
    refine b2 z X H0 H1 σ env _ _ (o.go e1) (fun y w H2 e2 r2 hx => ?_) hx
    cases d with
    | int n =>
      cases Is.intI r1
      obtain ⟨⟨n0, n1, n2⟩, hk⟩ := hx
      have o2 := (o.go e1).go e2
      have e12 := e1.trans e2
      have q6' := IsA.evo (fun _ q => .inl q) e12 q6
      refine ⟨a, vs, n, w, rfl, rfl, e12.old a _ q5 q3, by rw [q6.length]; exact szl n2, n0, by omega, ?_⟩
      obtain ⟨o3, f3⟩ := mutL o2 he q1 q3 (((q6'.take n.toNat).append (.cons r2 .nil)).append (q6'.drop n.toNat))
      exact s.nx _ _ _ o3 ((o.fr e12).trans f3) hk
    | _ => exact (show False from hx).elim
  · exact hp.elim
end
end Pu

namespace Pu
open PySem PySem.Spec PyProof.Rows L2
variable [Tbs]
/-! min of a list of tuples of whole numbers -/
theorem lex_tr : ∀ {a b c : List Int}, HT.lexLt b a = false → HT.lexLt c b = false → HT.lexLt c a = false
  | [], [], c, _, h => h
  | [], _ :: _, [], _, _ => rfl
  | [], _ :: _, _ :: _, _, _ => rfl
  | _ :: _, [], _, h, _ => by cases h
  | x :: a, y :: b, [], _, h => by cases h
  | x :: a, y :: b, w :: c, h1, h2 => by
    rw [HT.lexLt_cons] at h1 h2 ⊢
    by_cases e1 : y = x
    · subst e1
      rw [if_pos rfl] at h1
      by_cases e2 : w = y
      · subst e2
        rw [if_pos rfl] at h2 ⊢
        exact lex_tr h1 h2
      · rw [if_neg e2] at h2 ⊢
        exact h2
    · rw [if_neg e1] at h1
      have q1 := of_decide_eq_false h1
      by_cases e2 : w = y
      · subst e2
        rw [if_neg e1]
        exact h1
      · rw [if_neg e2] at h2
        have q2 := of_decide_eq_false h2
        rw [if_neg (by omega)]
        exact decide_eq_false (by omega)
theorem lex_irr : ∀ a : List Int, HT.lexLt a a = false
  | [] => rfl
  | x :: a => by rw [HT.lexLt_cons, if_pos rfl]; exact lex_irr a
theorem lex_as : ∀ {a b : List Int}, HT.lexLt a b = true → HT.lexLt b a = false
  | [], [], _ => rfl
  | [], _ :: _, _ => rfl
  | _ :: _, [], h => by cases h
  | x :: a, y :: b, h => by
    rw [HT.lexLt_cons] at h ⊢
    by_cases e : x = y
    · subst e
      rw [if_pos rfl] at h ⊢
      exact lex_as h
    · rw [if_neg e] at h
      have := of_decide_eq_true h
      rw [if_neg (Ne.symm e)]
      exact decide_eq_false (by omega)
theorem argBest_lex (num : Nat → List Int) : ∀ k, argBest (fun i j => HT.lexLt (num i) (num j)) k ≤ k ∧ ∀ j, j ≤ k → HT.lexLt (num j) (num (argBest (fun i j => HT.lexLt (num i) (num j)) k)) = false
  | 0 => ⟨Nat.le_refl _, fun j hj => by
    have : j = 0 := by omega
    subst this
    exact lex_irr _⟩
  | k + 1 => by
    obtain ⟨h1, h2⟩ := argBest_lex num k
    simp only [argBest]
    by_cases hc : HT.lexLt (num (k + 1)) (num (argBest (fun i j => HT.lexLt (num i) (num j)) k)) = true
    · rw [if_pos hc]
      refine ⟨Nat.le_refl _, fun j hj => ?_⟩
      rcases Nat.lt_or_ge j (k + 1) with hlt | hge
      · exact lex_tr (lex_as hc) (h2 j (by omega))
      · have : j = k + 1 := by omega
        subst this
        exact lex_irr _
    · rw [if_neg hc]
      refine ⟨by omega, fun j hj => ?_⟩
      rcases Nat.lt_or_ge j (k + 1) with hlt | hge
      · exact h2 j (by omega)
      · have : j = k + 1 := by omega
        subst this
        exact Bool.not_eq_true _ ▸ hc
def TupsAt (K : PySem.W.Frag) (H : Hp) (xs : List V) (rs : List (List Int)) : Prop := xs.length = rs.length ∧ ∀ (i : Nat) (v : V) (r : List Int), xs[i]? = some v → rs[i]? = some r → ∃ p, v = V.ref p ∧ SqT K H p (r.map V.int)
def rMinTup (K : PySem.W.Frag) : List V → Hp → VK → Prop := fun vs H Q => ∃ (a : Addr) (xs : List V) (rs : List (List Int)), vs = [.ref a] ∧ SqL K H a xs ∧ TupsAt K H xs rs ∧ rs ≠ [] ∧ ∀ (i : Nat) (v : V) (m : List Int), xs[i]? = some v → rs[i]? = some m → (∀ r ∈ rs, HT.lexLt r m = false) → Q v H
theorem vals_at : ∀ {xs : List V} {us : List Value} {i : Nat} {u : Value}, Vals xs us → us[i]? = some u → ∃ v, xs[i]? = some v ∧ RelV v u
  | _, _, _, _, .nil, h => by cases h
  | _, _, 0, _, .cons r _, h => by cases h; exact ⟨_, rfl, r⟩
  | _, _, i + 1, _, .cons _ t, h => vals_at (i := i) t (by simpa using h)
theorem cr_minTup {X : Cx} (hc : X.calm = true) (hu : X.A.units + 64 < cLine) : CallR X (.builtin "min") (rMinTup X.K) := by
  intro pins s σ H vs us Q I r h
  obtain ⟨a, xs, rs, rfl, hs, ⟨hlen, ht⟩, hne, q⟩ := h
  obtain ⟨its, rv, hl, _⟩ := I.list hs
  rw [Vals.ref1 r]
  have hl1 := rv.length
  have hpos : 0 < rs.length := List.length_pos_iff.mpr hne
  refine call_min_walkH (PySem.W.iter_listW (A := X.A.in1) (I.ok.hd hc) hl.isList fun s₂ e W st hfp hw hk => ?_)
  refine ⟨_, _, _, _, _, _, _, s.heap, (fun i j => HT.lexLt (rs.getD i []) (rs.getD j [])), rfl, W, st, hfp, by rw [List.size_toArray]; omega, hw, hk, ?_, fun v s' hP m => ?_⟩
  · intro i j vi vj s' Q' E' hk' hi hj hq
    have at1 : ∀ i vi, its.toArray[i]? = some vi → ∃ p its', vi = .ref p ∧ IsTup s'.heap p its'.toArray ∧ IntsAre its' (rs.getD i []) := fun i vi hi => by
      obtain ⟨v, hv, rl⟩ := vals_at (i := i) (u := vi) rv (by simpa using hi)
      have hil : i < rs.length := by
        rw [← hlen]
        exact (List.getElem?_eq_some_iff.mp hv).1
      obtain ⟨p, rfl, hT⟩ := ht i v _ hv (List.getElem?_eq_getElem hil)
      cases rl
      obtain ⟨its', r1, p1, _⟩ := I.tuple hT
      refine ⟨p, its', rfl, ?_, ?_⟩
      · obtain ⟨o, ho, rest⟩ := p1
        exact ⟨o, hk' _ _ ho, rest⟩
      · rw [List.getD_eq_getElem?_getD, List.getElem?_eq_getElem hil]
        exact Vals.ints r1
    obtain ⟨p, i1, rfl, t1, n1⟩ := at1 i vi hi
    obtain ⟨p', i2, rfl, t2, n2⟩ := at1 j vj hj
    exact HT.lt_tupInts t1 t2 n1 n2 (by show X.A.units + 1 < cLine; omega) hq
  · obtain ⟨h', tk, rfl, hk'⟩ := PySem.W.moved_old e rfl m
    obtain ⟨b1, b2⟩ := argBest_lex (fun i => rs.getD i []) (its.toArray.size - 1)
    have hP' : its[argBest (fun i j => HT.lexLt (rs.getD i []) (rs.getD j [])) (its.toArray.size - 1)]? = some v := by simpa using hP
    obtain ⟨u, hu1, rl⟩ := vals_at rv hP'
    rw [List.size_toArray] at b1 b2 hP' hu1
    generalize argBest (fun i j => HT.lexLt (rs.getD i []) (rs.getD j [])) (its.length - 1) = bi at *
    have hil : bi < rs.length := by omega
    refine ⟨u, H, I.kept hk', rl, q bi u _ hu1 (List.getElem?_eq_getElem hil) fun r hr => ?_⟩
    obtain ⟨j, hj, rfl⟩ := List.getElem_of_mem hr
    have := b2 j (by omega)
    rw [List.getD_eq_getElem?_getD, List.getD_eq_getElem?_getD, List.getElem?_eq_getElem hj, List.getElem?_eq_getElem hil] at this
    exact this
def tI (r : List Int) : D := .tup (r.map D.int)
def gMinTup : List D → (D → Prop) → Prop := fun ds k => ∃ rs : List (List Int), ds = [.lst (rs.map tI)] ∧ rs ≠ [] ∧ ∀ m ∈ rs, (∀ r ∈ rs, HT.lexLt r m = false) → k (tI m)
theorem isa_ints {z : Zn} {M : AP} {H : Hp} : ∀ {vs : List V} {es : List Int}, IsA z M H vs (es.map D.int) → vs = es.map V.int
  | [], [], _ => rfl
  | v :: vs, e :: es, h => by
    cases h with
    | cons h1 h2 =>
      cases h1
      rw [isa_ints h2]
      rfl
theorem cd_minTup {K : PySem.W.Frag} : CallD true .e (rMinTup K) gMinTup := fun z X H0 H σ env vs ds Q k o h c hp => by
  obtain ⟨rs, rfl, hne, hk⟩ := hp
  obtain ⟨v, rfl, hv⟩ := IsA.one h
  cases (show Is z (Ms z X σ env) H v (.lst (rs.map tI)) from hv) with
  | lst e n r =>
    rename_i a us
    have hl := r.length
    rw [List.length_map] at hl
    refine ⟨a, us, rs, rfl, SqL.of e, ⟨hl, fun i u r' hu hr => ?_⟩, hne, fun i u m hu hm hmin => ?_⟩
    · obtain ⟨u', h1, h2⟩ := r.get (i := i) (d := tI r') (by rw [List.getElem?_map, hr]; rfl)
      rw [hu] at h1
      cases h1
      cases (show Is z (Ms z X σ env) H u (.tup (r'.map D.int)) from h2) with
      | tup e' _ r2 => exact ⟨_, rfl, SqT.of (by rw [e', isa_ints r2])⟩
    · obtain ⟨u', h1, h2⟩ := r.get (i := i) (d := tI m) (by rw [List.getElem?_map, hm]; rfl)
      rw [hu] at h1
      cases h1
      exact c _ _ H (Evo.refl _ _) h2 (hk m (List.mem_of_getElem? hm) hmin)
/-! ### expressions that change what a slot owns -/
abbrev PMX := List SV → (List SV → D → Prop) → Prop
abbrev PMA := List SV → (List SV → List D → Prop) → Prop
def RMX (t : TE) (p : PMX) : Prop := ∀ (z : Zn) (X : AP) (H0 H : Hp) (σ : Sl) (env : List SV) (Q : VK) (k : List SV → D → Prop), Ok z X H0 H σ env → (∀ d v H' env', Ok z X H0 H' σ env' → Fr z X (Ms z X σ env) H (Ms z X σ env') H' → Is z (Ms z X σ env') H' v d → k env' d → Q v H') → p env k → t σ H Q
def RMA (t : TA) (p : PMA) : Prop := ∀ (z : Zn) (X : AP) (H0 H : Hp) (σ : Sl) (env : List SV) (Q : List V → Hp → Prop) (k : List SV → List D → Prop), Ok z X H0 H σ env → (∀ ds vs H' env', Ok z X H0 H' σ env' → Fr z X (Ms z X σ env) H (Ms z X σ env') H' → IsA z (Ms z X σ env') H' vs ds → k env' ds → Q vs H') → p env k → t σ H Q
structure MX (C : Cx) (e : Expr) (p : PMX) : Prop where
  ex : ∃ t, PE C e t ∧ RMX t p
structure MA (C : Cx) (es : List Expr) (p : PMA) : Prop where
  ex : ∃ t, PA C es t ∧ RMA t p
section
variable {C : Cx} {fr : Bool} {m : Mode} {e : Expr} {es : List Expr} {p : PX} {pos pp : Pos}
def mE (p : PX) : PMX := fun env k => p env fun d => k env d
def mNil : PMA := fun env k => k env []
def mCons (p : PMX) (q : PMA) : PMA := fun env k => p env fun env1 d => q env1 fun env2 ds => k env2 (d :: ds)
def mLst (q : PMA) : PMX := fun env k => q env fun env1 ds => ds.length ≤ 100000 ∧ k env1 (.lst ds)
def mTup (q : PMA) : PMX := fun env k => q env fun env1 ds => ds.length ≤ 100000 ∧ k env1 (.tup ds)
def sSetM (i : Nat) (p : PMX) : PSt := fun env k => p env fun env1 d => k.nx (env1.set i (.val d))
theorem mx_e (h : E .e C e p) : MX C e (mE p) := by
  obtain ⟨t, h1, h2⟩ := h
  exact ⟨t, h1, fun z X H0 H σ env Q k o c hp => h2 z X H0 H σ env _ _ o (fun d v H1 e1 r1 hx => c d v H1 env (o.go e1) (o.fr e1) r1 hx) hp⟩
theorem ma_nil : MA C [] mNil := ⟨_, pa_nil, fun z X H0 H σ env Q k o c hp => c [] [] H env o ⟨fun _ _ h n => ⟨h, n⟩, fun _ h => h, fun _ h => h⟩ .nil hp⟩
theorem ma_cons {q : PMX} {g : PMA} (h : MX C e q) (hs : MA C es g) (hst : starEach (e :: es) C.env = (false, eval e C.env) :: starEach es C.env := by rfl) : MA C (e :: es) (mCons q g) := by
  obtain ⟨t, h1, h2⟩ := h
  obtain ⟨u, g1, g2⟩ := hs
  refine ⟨_, pa_cons h1 g1 hst, fun z X H0 H σ env Q k o c hp => h2 z X H0 H σ env _ _ o (fun d v H1 env1 o1 f1 r1 hx => g2 z X H0 H1 σ env1 _ _ o1 (fun ds vs H2 env2 o2 f2 r2 hy => c _ _ H2 env2 o2 (f1.trans f2) (.cons (f2.is r1) r2) hy) hx) hp⟩
theorem mx_lst {g : PMA} (h : MA C es g) : MX C (.List es pos) (mLst g) := by
  obtain ⟨t, h1, h2⟩ := h
  refine ⟨_, pe_lst h1, fun z X H0 H σ env Q k o c hp => h2 z X H0 H σ env _ _ o (fun ds vs H1 env1 o1 f1 r1 hx => ⟨by rw [r1.length]; exact sz hx.1, fun q hq => ?_⟩) hp⟩
  have ev : Evo z H1 (upd H1 q (.lst vs)) := (Evo.refl _ _).new hq
  exact c _ _ _ env1 (o1.go ev) (f1.trans (o1.fr ev)) (Is.lst upd_same (fun hz => o1.notMs hq hz) (IsA.new hq r1)) hx.2
theorem mx_tup {x1 : Nat} {g : PMA} (h : MA C es g) : MX C (.Tuple es x1 pos) (mTup g) := by
  obtain ⟨t, h1, h2⟩ := h
  refine ⟨_, pe_tup h1, fun z X H0 H σ env Q k o c hp => h2 z X H0 H σ env _ _ o (fun ds vs H1 env1 o1 f1 r1 hx => ⟨by rw [r1.length]; exact sz hx.1, fun q hq => ?_⟩) hp⟩
  have ev : Evo z H1 (upd H1 q (.tup vs)) := (Evo.refl _ _).new hq
  exact c _ _ _ env1 (o1.go ev) (f1.trans (o1.fr ev)) (Is.tup upd_same (fun hz => o1.notMs hq hz) (IsA.new hq r1)) hx.2
theorem s_setM {i : Nat} {x : Str} {pp : Pos} {q : PMX} (h : MX C e q) (hN : C.N.Nodup) (hi : C.N[i]? = some x) (hx : Loc C.env.scope x) (hs : swapsWith e (some (.Name x pp)) pos.line C.env = pure false := by rfl) (hf : C.fn x = true ∨ C.env.scope.names.lookup x = some .local := by first | exact .inl rfl | exact .inr rfl | assumption) :
    S fr C (.Assign [.Name x pp] e pos) (sSetM i q) := by
  obtain ⟨t, h1, h2⟩ := h
  refine ⟨_, ps_set hN hi hx h1 hs hf, fun z X H0 H σ env G k o s hp => h2 z X H0 H σ env _ _ o (fun d v H1 env1 o1 f1 r1 hx => ?_) hp⟩
  obtain ⟨o2, f2⟩ := o1.set (i := i) r1
  exact s.nx _ _ H1 o2 (f1.trans f2) hx
/-- x.pop(e), x.pop() -/
def mPop (i : Nat) (p : PX) : PMX := fun env k => match env[i]? with
  | some (.own (.lst xs)) => p env fun d => inK d fun n => (-100000 < n ∧ n < 100000) ∧ ∃ jj y, seqIndex? n xs.length = some jj ∧ xs[jj]? = some y ∧ k (env.set i (.own (.lst (xs.eraseIdx jj)))) y
  | _ => False
def mPop0 (i : Nat) : PMX := fun env k => match env[i]? with
  | some (.own (.lst xs)) => ∃ y, xs[xs.length - 1]? = some y ∧ k (env.set i (.own (.lst xs.dropLast))) y
  | _ => False
theorem mx_pop (i : Nat) {x : Str} {apos cpos : Pos} (h : E m C e p)
    (hb : ∀ to te, PE C (.Name x pp) to → PE C e te → PE C (.Call (.Attribute (.Name x pp) "pop" apos) [e] [] cpos) (tBM C.K "list" rPopAt to (tCons te tNil)))
    (hN : C.N[i]? = some x := by rfl) (hv : Vis C.env.scope x := by first | exact Or.inl rfl | exact Or.inr (Or.inl rfl) | exact Or.inr (Or.inr rfl)) (hd : (x == ("__debug__" : Str)) = false := by decide)
    (hcd : (x == ("__classdict__" : Str)) = false := by decide) : MX C (.Call (.Attribute (.Name x pp) "pop" apos) [e] [] cpos) (mPop i p) := by
  obtain ⟨t, h1, h2⟩ := h.toB
  refine ⟨_, hb _ _ (pe_var hN hv hd hcd) h1, fun z X H0 H σ env Q k o c hp => ?_⟩
  unfold mPop at hp
  split at hp
  · rename_i xs he
    obtain ⟨a, q1, ⟨vs, q5, q6⟩, q3, q4⟩ := o.own i _ he
    refine ⟨_, q1, .inl ⟨rfl, vs, SqL.of q5⟩, h2 z X H0 H σ env _ _ o (fun d v H1 e1 r1 hx => ?_) hp⟩
    cases d with
    | int n =>
      cases Is.intI r1
      obtain ⟨hn, jj, yy, g1, g2, hk⟩ := hx
      have o1 := o.go e1
      have q5' := e1.old a _ q5 q3
      have q6' := IsA.evo (fun _ q => .inl q) e1 q6
      obtain ⟨w, w1, w2⟩ := q6'.get g2
      refine ⟨a, vs, n, jj, w, rfl, rfl, q5', by omega, by omega, by rw [q6.length]; exact g1, w1, ?_⟩
      obtain ⟨o2, f2⟩ := mutL o1 he q1 q3 (q6'.eraseIdx jj)
      exact c _ _ _ _ o2 ((o.fr e1).trans f2) (f2.is w2) hk
    | _ => exact (show False from hx).elim
  · exact hp.elim
theorem mx_pop0 (i : Nat) {x : Str} {apos cpos : Pos}
    (hb : ∀ to, PE C (.Name x pp) to → PE C (.Call (.Attribute (.Name x pp) "pop" apos) [] [] cpos) (tBM0 C.K "list" rPop to))
    (hN : C.N[i]? = some x := by rfl) (hv : Vis C.env.scope x := by first | exact Or.inl rfl | exact Or.inr (Or.inl rfl) | exact Or.inr (Or.inr rfl)) (hd : (x == ("__debug__" : Str)) = false := by decide)
    (hcd : (x == ("__classdict__" : Str)) = false := by decide) : MX C (.Call (.Attribute (.Name x pp) "pop" apos) [] [] cpos) (mPop0 i) := by
  refine ⟨_, hb _ (pe_var hN hv hd hcd), fun z X H0 H σ env Q k o c hp => ?_⟩
  unfold mPop0 at hp
  split at hp
  · rename_i xs he
    obtain ⟨a, q1, ⟨vs, q5, q6⟩, q3, q4⟩ := o.own i _ he
    refine ⟨_, q1, .inl ⟨rfl, vs, SqL.of q5⟩, ?_⟩
    obtain ⟨yy, g2, hk⟩ := hp
    obtain ⟨w, w1, w2⟩ := q6.get g2
    have hl := q6.length
    refine ⟨a, vs, w, rfl, rfl, q5, by rw [hl]; exact w1, ?_⟩
    have hdl : IsA z (Ms z X σ env) H vs.dropLast xs.dropLast := by
      rw [List.dropLast_eq_take, List.dropLast_eq_take, hl]
      exact q6.take _
    obtain ⟨o2, f2⟩ := mutL o he q1 q3 hdl
    exact c _ _ _ _ o2 f2 (f2.is w2) hk
  · exact hp.elim
theorem sSeq_setM {i : Nat} {p : PMX} {Q : PSt} {env : List SV} {K : PK'} (h : sSetM i p env { K with nx := fun env' => Q env' K }) : sSeq (sSetM i p) Q env K := h
theorem sSetM_i {i : Nat} {p : PMX} {env : List SV} {K : PK'} (h : p env fun env1 d => K.nx (env1.set i (.val d))) : sSetM i p env K := h
theorem mE_i {p : PX} {env : List SV} {k : List SV → D → Prop} (h : p env fun d => k env d) : mE p env k := h
theorem mNil_i {env : List SV} {k : List SV → List D → Prop} (h : k env []) : mNil env k := h
theorem mCons_i {p : PMX} {q : PMA} {env : List SV} {k : List SV → List D → Prop} (h : p env fun env1 d => q env1 fun env2 ds => k env2 (d :: ds)) : mCons p q env k := h
theorem mLst_i {q : PMA} {env : List SV} {k : List SV → D → Prop} (h : q env fun env1 ds => ds.length ≤ 100000 ∧ k env1 (.lst ds)) : mLst q env k := h
theorem mTup_i {q : PMA} {env : List SV} {k : List SV → D → Prop} (h : q env fun env1 ds => ds.length ≤ 100000 ∧ k env1 (.tup ds)) : mTup q env k := h
theorem mPop_i {i : Nat} {p : PX} {env : List SV} {xs : List D} {k : List SV → D → Prop} (e : env[i]? = some (.own (.lst xs))) (h : p env fun d => inK d fun n => (-100000 < n ∧ n < 100000) ∧ ∃ jj y, seqIndex? n xs.length = some jj ∧ xs[jj]? = some y ∧ k (env.set i (.own (.lst (xs.eraseIdx jj)))) y) : mPop i p env k := by unfold mPop; rw [e]; exact h
theorem mPop0_i {i : Nat} {env : List SV} {xs : List D} {k : List SV → D → Prop} (e : env[i]? = some (.own (.lst xs))) (h : ∃ y, xs[xs.length - 1]? = some y ∧ k (env.set i (.own (.lst xs.dropLast))) y) : mPop0 i env k := by unfold mPop0; rw [e]; exact h
end
/-! ### zip of two lists, of two tuples -/
def zipD (xs ys : List D) : List D := (xs.zip ys).map fun p => .tup [p.1, p.2]
def zipK (d e : D) (k : List D → Prop) : Prop := match d, e with
  | .lst xs, .lst ys => k (zipD xs ys)
  | .tup xs, .tup ys => k (zipD xs ys)
  | _, _ => False
def iZipP (p q : PX) : PIt := fun env k => p env fun d => q env fun e => zipK d e k
theorem zipD_get {xs ys : List D} {i : Nat} {d : D} (h : (zipD xs ys)[i]? = some d) : ∃ x y, xs[i]? = some x ∧ ys[i]? = some y ∧ d = .tup [x, y] := by
  unfold zipD at h
  rw [List.getElem?_map] at h
  cases q : (xs.zip ys)[i]? with
  | none => rw [q] at h; cases h
  | some p =>
    rw [q] at h
    cases h
    obtain ⟨h1, h2⟩ := List.getElem?_zip_eq_some.mp q
    exact ⟨p.1, p.2, h1, h2, rfl⟩
theorem zipD_len {xs ys : List D} : (zipD xs ys).length = min xs.length ys.length := by simp [zipD]
theorem pair2_is {z : Zn} {M : AP} {H : Hp} {T : Addr} {x y : V} {d e : D} (hT : H T = none) (hM : ¬ M T) (h : Is z M H x d) (g : Is z M H y e) : Is z M (upd H T (.tup [x, y])) (.ref T) (.tup [d, e]) :=
  .tup upd_same hM (.cons (h.new hT) (.cons (g.new hT) .nil))
theorem yl_zipL {z : Zn} {X : AP} {M : AP} {H : Hp} {K : PySem.W.Frag} {a b : Addr} {vs us : List V} {ds es : List D} (h : H a = some (.lst vs)) (n : ¬ M a) (r : IsA z M H vs ds) (h2 : H b = some (.lst us)) (n2 : ¬ M b) (r2 : IsA z M H us es) : Yields z X M H (Itz K a b) (zipD ds es) := fun M' H' f => by
  have h' := (f.old a _ h n).1
  have r' := f.isA r
  have h2' := (f.old b _ h2 n2).1
  have r2' := f.isA r2
  have hl := r'.length
  have hl2 := r2'.length
  refine ⟨⟨vs, us, SqL.of h', SqL.of h2', by rw [hl, hl2, zipD_len]; omega⟩, fun i d hd => ?_⟩
  obtain ⟨x, y, hx, hy, rfl⟩ := zipD_get hd
  obtain ⟨v, q1, q2⟩ := r'.get hx
  obtain ⟨u, p1, p2⟩ := r2'.get hy
  refine ⟨⟨vs, us, v, u, SqL.of h', SqL.of h2', q1, p1⟩, fun w H2 yy => ?_⟩
  obtain ⟨T, x', y', rfl, hT, rfl, hx', hy'⟩ := yy
  have e := hx' vs (SqL.of h')
  rw [q1] at e
  cases e
  have e := hy' us (SqL.of h2')
  rw [p1] at e
  cases e
  exact ⟨(Evo.refl _ _).new hT, fun _ fm => pair2_is hT (fm T hT) q2 p2⟩
theorem yl_zipT {z : Zn} {X : AP} {M : AP} {H : Hp} {K : PySem.W.Frag} {a b : Addr} {vs us : List V} {ds es : List D} (h : H a = some (.tup vs)) (n : ¬ M a) (r : IsA z M H vs ds) (h2 : H b = some (.tup us)) (n2 : ¬ M b) (r2 : IsA z M H us es) : Yields z X M H (RZ.ItzT K a b) (zipD ds es) := fun M' H' f => by
  have h' := (f.old a _ h n).1
  have r' := f.isA r
  have h2' := (f.old b _ h2 n2).1
  have r2' := f.isA r2
  have hl := r'.length
  have hl2 := r2'.length
  refine ⟨⟨vs, us, SqT.of h', SqT.of h2', by rw [hl, hl2, zipD_len]; omega⟩, fun i d hd => ?_⟩
  obtain ⟨x, y, hx, hy, rfl⟩ := zipD_get hd
  obtain ⟨v, q1, q2⟩ := r'.get hx
  obtain ⟨u, p1, p2⟩ := r2'.get hy
  refine ⟨⟨vs, us, v, u, SqT.of h', SqT.of h2', q1, p1⟩, fun w H2 yy => ?_⟩
  obtain ⟨T, x', y', rfl, hT, rfl, hx', hy'⟩ := yy
  have e := hx' vs (SqT.of h')
  rw [q1] at e
  cases e
  have e := hy' us (SqT.of h2')
  rw [p1] at e
  cases e
  exact ⟨(Evo.refl _ _).new hT, fun _ fm => pair2_is hT (fm T hT) q2 p2⟩
theorem i_zip {C : Cx} {e e2 : Expr} {p q : PX} {tpos pp pos : Pos} {elts : List Expr} {kk : Nat} (h : E .e C e p) (g : E .e C e2 q) (hg : Gl C "zip") (hm : C.mg "zip" = none) (hs : starEach [e, e2] C.env = (false, eval e C.env) :: starEach [e2] C.env := by rfl) (hs2 : starEach [e2] C.env = (false, eval e2 C.env) :: starEach [] C.env := by rfl)
    (hpl : (backTo pos (starEach [e2] C.env)).any (·.1) = false := by rfl) : I C (.Tuple elts kk tpos) (.Call (.Name "zip" pp) [e, e2] [] pos) (iZipP p q) := by
  obtain ⟨t, h1, h2⟩ := h
  obtain ⟨u, g1, g2⟩ := g
  refine ⟨_, RZ.pi_zipA hg hm (pa_cons h1 (pa_cons g1 pa_nil hs2) hs) hs hpl, fun z X H0 H σ env R k o c hp => h2 z X H0 H σ env _ _ o (fun d v H1 e1 r1 hx => g2 z X H0 H1 σ env _ _ (o.go e1) (fun d2 v2 H2 e2 r2 hy => ?_) hx) hp⟩
  have r1' : Is z (Ms z X σ env) H2 v d := Is.evo (fun _ q => .inl q) e2 r1
  cases r1' with
  | lst a1 n1 b1 =>
    cases (show Is z (Ms z X σ env) H2 v2 d2 from r2) with
    | lst a2 n2 b2 => exact ⟨_, _, _, _, rfl, .inl ⟨SqL.of a1, SqL.of a2, c _ _ H2 (e1.trans e2) (yl_zipL a1 n1 b1 a2 n2 b2) hy⟩⟩
    | _ => exact (show False from hy).elim
  | tup a1 n1 b1 =>
    cases (show Is z (Ms z X σ env) H2 v2 d2 from r2) with
    | tup a2 n2 b2 => exact ⟨_, _, _, _, rfl, .inr ⟨SqT.of a1, SqT.of a2, c _ _ H2 (e1.trans e2) (yl_zipT a1 n1 b1 a2 n2 b2) hy⟩⟩
    | _ => exact (show False from hy).elim
  | _ => exact (show False from hy).elim
theorem iZipP_i {p q : PX} {env : List SV} {k : List D → Prop} (h : p env fun d => q env fun e => zipK d e k) : iZipP p q env k := h
theorem zipK_t {xs ys : List D} {k : List D → Prop} (h : k (zipD xs ys)) : zipK (.tup xs) (.tup ys) k := h
theorem zipK_l {xs ys : List D} {k : List D → Prop} (h : k (zipD xs ys)) : zipK (.lst xs) (.lst ys) k := h
/-! ### sum, max, min of a list or a tuple of whole numbers -/
def rSumA (K : PySem.W.Frag) : List V → Hp → VK → Prop := fun vs H Q => ∃ (a : Addr) (ns : List Int), vs = [V.ref a] ∧ (SqL K H a (ns.map V.int) ∨ SqT K H a (ns.map V.int)) ∧ Q (.int ns.sum) H
theorem cr_sumA {X : Cx} (hc : X.calm = true) : CallR X (.builtin "sum") (rSumA X.K) := by
  intro pins s σ H vs us Q I r h
  obtain ⟨a, ns, rfl, hs, q⟩ := h
  rcases hs with hs | hs
  · exact cr_sum hc pins s σ H _ us Q I r ⟨a, ns, rfl, hs, q⟩
  · obtain ⟨its, rv, ht, _⟩ := I.tuple hs
    rw [Vals.ref1 r]
    have hi : IntsAre its ns := Vals.ints rv
    obtain ⟨xs, e⟩ := hi.allInts.items
    have hn : numsOf (intItems xs).toList = ns := by rw [← e]; exact hi.numsOf
    rw [nums_intItems] at hn
    rw [e] at ht
    refine PySem.W.ktm_sumG (I.ok.hd hc) ht fun h' tk t' hk => ⟨.int ns.sum, H, I.kept hk, ?_, q⟩
    rw [preSum_eq, List.take_of_length_le (by simp), hn]
    exact ⟨_, rfl⟩
def rMaxA (K : PySem.W.Frag) : List V → Hp → VK → Prop := fun vs H Q => ∃ (a : Addr) (ns : List Int), vs = [V.ref a] ∧ (SqL K H a (ns.map V.int) ∨ SqT K H a (ns.map V.int)) ∧ ns ≠ [] ∧ Q (.int (maxI ns)) H
def rMinA (K : PySem.W.Frag) : List V → Hp → VK → Prop := fun vs H Q => ∃ (a : Addr) (ns : List Int), vs = [V.ref a] ∧ (SqL K H a (ns.map V.int) ∨ SqT K H a (ns.map V.int)) ∧ ns ≠ [] ∧ Q (.int (minI ns)) H
theorem dp_ints {K : PySem.W.Frag} {H : Hp} : ∀ ns : List Int, DpAll K H (ns.map V.int) (ns.map PyData.int)
  | [] => .nil
  | n :: ns => .cons (.int n) (dp_ints ns)
theorem alike_ints (ns : List Int) : PySem.W.AlikeAll (ns.map PyData.int) := by
  refine ⟨fun x hx y hy => ?_, fun x hx => ?_⟩
  · obtain ⟨a, _, rfl⟩ := List.mem_map.mp hx
    obtain ⟨b, _, rfl⟩ := List.mem_map.mp hy
    rfl
  · obtain ⟨a, _, rfl⟩ := List.mem_map.mp hx
    intro q
    cases q
theorem depth_ints : ∀ ns : List Int, PyData.depthAll (ns.map PyData.int) ≤ 60
  | [] => by simp [PyData.depthAll]
  | n :: ns => by
    have := depth_ints ns
    simp only [List.map_cons, PyData.depthAll, PyData.depth]
    omega
theorem fold_max (n : Int) : ∀ ns : List Int, ns.foldl max n = maxI (n :: ns) := by
  intro ns
  induction ns generalizing n with
  | nil => rfl
  | cons k r ih =>
    rw [List.foldl_cons, ih]
    show maxI (max n k :: r) = max n (maxI (k :: r))
    cases r with
    | nil => rfl
    | cons a r =>
      show max (max n k) (maxI (a :: r)) = max n (max k (maxI (a :: r)))
      omega
theorem fold_min (n : Int) : ∀ ns : List Int, ns.foldl min n = minI (n :: ns) := by
  intro ns
  induction ns generalizing n with
  | nil => rfl
  | cons k r ih =>
    rw [List.foldl_cons, ih]
    show minI (min n k :: r) = min n (minI (k :: r))
    cases r with
    | nil => rfl
    | cons a r =>
      show min (min n k) (minI (a :: r)) = min n (min k (minI (a :: r)))
      omega
theorem cr_maxA {X : Cx} (hc : X.calm = true) (hu : X.A.units + 64 < cLine) : CallR X (.builtin "max") (rMaxA X.K) := by
  intro pins s σ H vs us Q I r h
  obtain ⟨a, ns, rfl, hs, hne, q⟩ := h
  rcases hs with hs | hs
  · refine cr_max hc pins s σ H _ us Q I r ⟨a, ns, rfl, hs, List.length_pos_iff.mpr hne, fun m h1 h2 => ?_⟩
    rw [maxI_eq h1 h2]
    exact q
  · obtain ⟨its, rv, ht, _⟩ := I.tuple hs
    rw [Vals.ref1 r]
    obtain ⟨n, ns', rfl⟩ : ∃ n ns', ns = n :: ns' := by
      cases ns with
      | nil => exact absurd rfl hne
      | cons n ns' => exact ⟨n, ns', rfl⟩
    obtain ⟨as, ra⟩ := Dp.readsAll I _ _ _ (dp_ints (n :: ns')) rv
    have hd := depth_ints (n :: ns')
    refine PySem.W.max_tuple_data (xs := ns'.map PyData.int) (x := .int n) (I.ok.hd hc) (show s.heap.IsTuple a its.toArray from ht) (by simpa using ra) (alike_ints (n :: ns')) (by have : PyData.depthAll (PyData.int n :: ns'.map PyData.int) ≤ 60 := hd; omega) fun i v h' tk bs hv rd hk => ?_
    rw [PySem.W.maxD_ints, fold_max] at rd
    cases rd
    exact ⟨.int _, H, I.kept hk, ⟨_, rfl⟩, q⟩
theorem cr_minA {X : Cx} (hc : X.calm = true) (hu : X.A.units + 64 < cLine) : CallR X (.builtin "min") (rMinA X.K) := by
  intro pins s σ H vs us Q I r h
  obtain ⟨a, ns, rfl, hs, hne, q⟩ := h
  rcases hs with hs | hs
  · refine cr_min hc pins s σ H _ us Q I r ⟨a, ns, rfl, hs, List.length_pos_iff.mpr hne, fun m h1 h2 => ?_⟩
    rw [minI_eq h1 h2]
    exact q
  · obtain ⟨its, rv, ht, _⟩ := I.tuple hs
    rw [Vals.ref1 r]
    obtain ⟨n, ns', rfl⟩ : ∃ n ns', ns = n :: ns' := by
      cases ns with
      | nil => exact absurd rfl hne
      | cons n ns' => exact ⟨n, ns', rfl⟩
    obtain ⟨as, ra⟩ := Dp.readsAll I _ _ _ (dp_ints (n :: ns')) rv
    have hd := depth_ints (n :: ns')
    refine PySem.W.min_tuple_data (xs := ns'.map PyData.int) (x := .int n) (I.ok.hd hc) (show s.heap.IsTuple a its.toArray from ht) (by simpa using ra) (alike_ints (n :: ns')) (by have : PyData.depthAll (PyData.int n :: ns'.map PyData.int) ≤ 60 := hd; omega) fun i v h' tk bs hv rd hk => ?_
    rw [PySem.W.minD_ints, fold_min] at rd
    cases rd
    exact ⟨.int _, H, I.kept hk, ⟨_, rfl⟩, q⟩
def seqI (d : D) (ns : List Int) : Prop := d = .lst (ns.map D.int) ∨ d = .tup (ns.map D.int)
def gSumA : List D → (D → Prop) → Prop := fun ds k => ∃ d ns, ds = [d] ∧ seqI d ns ∧ k (.int ns.sum)
def gMaxA : List D → (D → Prop) → Prop := fun ds k => ∃ d ns, ds = [d] ∧ seqI d ns ∧ ns ≠ [] ∧ k (.int (maxI ns))
def gMinA : List D → (D → Prop) → Prop := fun ds k => ∃ d ns, ds = [d] ∧ seqI d ns ∧ ns ≠ [] ∧ k (.int (minI ns))
theorem seq_at {z : Zn} {M : AP} {H : Hp} {K : PySem.W.Frag} {vs : List V} {d : D} {ns : List Int} (h : IsA z M H vs [d]) (hd : seqI d ns) : ∃ a, vs = [.ref a] ∧ (SqL K H a (ns.map V.int) ∨ SqT K H a (ns.map V.int)) := by
  obtain ⟨v, rfl, hv⟩ := h.one
  rcases hd with rfl | rfl
  · cases hv with
    | lst e n r => exact ⟨_, rfl, .inl (SqL.of (by rw [e, isa_ints r]))⟩
  · cases hv with
    | tup e n r => exact ⟨_, rfl, .inr (SqT.of (by rw [e, isa_ints r]))⟩
theorem cd_sumA {l : Bool} {K : PySem.W.Frag} : CallD l .e (rSumA K) gSumA := fun z X H0 H σ env vs ds Q k o h c hp => by
  obtain ⟨d, ns, rfl, hd, hk⟩ := hp
  obtain ⟨a, rfl, ha⟩ := seq_at (K := K) h hd
  exact ⟨a, ns, rfl, ha, c _ _ H (Evo.refl _ _) (Is.int _) hk⟩
theorem cd_maxA {l : Bool} {K : PySem.W.Frag} : CallD l .e (rMaxA K) gMaxA := fun z X H0 H σ env vs ds Q k o h c hp => by
  obtain ⟨d, ns, rfl, hd, hne, hk⟩ := hp
  obtain ⟨a, rfl, ha⟩ := seq_at (K := K) h hd
  exact ⟨a, ns, rfl, ha, hne, c _ _ H (Evo.refl _ _) (Is.int _) hk⟩
theorem cd_minA {l : Bool} {K : PySem.W.Frag} : CallD l .e (rMinA K) gMinA := fun z X H0 H σ env vs ds Q k o h c hp => by
  obtain ⟨d, ns, rfl, hd, hne, hk⟩ := hp
  obtain ⟨a, rfl, ha⟩ := seq_at (K := K) h hd
  exact ⟨a, ns, rfl, ha, hne, c _ _ H (Evo.refl _ _) (Is.int _) hk⟩
theorem gSumA_t {ns : List Int} {k : D → Prop} (h : k (.int ns.sum)) : gSumA [.tup (ns.map D.int)] k := ⟨_, ns, rfl, .inr rfl, h⟩
theorem gMaxA_t {ns : List Int} {k : D → Prop} (hn : ns ≠ []) (h : k (.int (maxI ns))) : gMaxA [.tup (ns.map D.int)] k := ⟨_, ns, rfl, .inr rfl, hn, h⟩
theorem gMinA_t {ns : List Int} {k : D → Prop} (hn : ns ≠ []) (h : k (.int (minI ns))) : gMinA [.tup (ns.map D.int)] k := ⟨_, ns, rfl, .inr rfl, hn, h⟩
theorem gMaxA_l {ns : List Int} {k : D → Prop} (hn : ns ≠ []) (h : k (.int (maxI ns))) : gMaxA [.lst (ns.map D.int)] k := ⟨_, ns, rfl, .inl rfl, hn, h⟩
theorem gMinA_l {ns : List Int} {k : D → Prop} (hn : ns ≠ []) (h : k (.int (minI ns))) : gMinA [.lst (ns.map D.int)] k := ⟨_, ns, rfl, .inl rfl, hn, h⟩
/-! ### (x,) * n -/
theorem tuple_mul0 (l : Addr) (items : Array Value) (n : Nat) (dd : Option Addr) (sl : Array (Option Value)) (x : Int) (u : Tok) (c0 : (decide (x < -(2 ^ 63)) || decide (x ≥ 2 ^ 63)) = false) (c1 : (items.isEmpty || x == 1) = false) (c2 : (decide (x ≤ 0) || items.isEmpty) = true) :
    Meets (Builtin.«tuple.__mul__» ⟨[.ref l, .int x u], []⟩) (fun _ R s => s.heap.get? l = some { cls := .type "tuple", dict := dd, data := .seq items n, slots := sl } ∧
      R (.ok (.ret (Value.ref s.heap.objs.size))) { s with heap := s.heap.push { cls := Value.type "tuple", data := Data.seq #[] }, toks := s.toks }) :=
  .of_wp fun prog w A R s h => by
    obtain ⟨hp, g, d, tk, os⟩ := s
    obtain ⟨hl, h⟩ := h
    have f1 := AutoSeq1.idx_int
    wp_walk using wpAny_loadPart' hl
    repeat (first
      | (refine wpAny_ite_false (decide_eq_false (by rw [c0]; exact Bool.false_ne_true)) ?_; wp_walk using wpAny_loadPart' hl)
      | (refine wpAny_ite_false (decide_eq_false (by rw [c1]; exact Bool.false_ne_true)) ?_; wp_walk using wpAny_loadPart' hl)
      | (refine wpAny_ite_true (decide_eq_true c2) ?_; wp_walk using wpAny_loadPart' hl))
    exact ⟨_, rfl, h⟩
def rRepTA (K : PySem.W.Frag) : R2 := fun x y H Q => ∃ l k xs, x = .ref l ∧ y = .int k ∧ SqT K H l xs ∧ xs ≠ [] ∧ (k = 0 ∨ 2 ≤ k) ∧ k ≤ 1000 ∧ xs.length ≤ 1000 ∧ ∀ p, H p = none → Q (.ref p) (upd H p (.tup (List.replicate k.toNat xs).flatten))
theorem op_repTA {X : Cx} : OpR X (binaryOp .Mult) (rRepTA X.K) := by
  intro pins s σ H x y v u Q I rx ry h
  obtain ⟨l, k, xs, rfl, rfl, hT, hne, h1, h2, hz, q⟩ := h
  rcases h1 with rfl | h1
  · cases rx
    obtain ⟨t, rfl⟩ := ry
    obtain ⟨its, r, ⟨⟨cls, dd, data, sl⟩, ho, hc, n, hd⟩, hs⟩ := I.tuple hT
    simp only at hc hd
    subst hc hd
    have hle : its.length = xs.length := r.length.symm
    have hi : its.toArray.isEmpty = false := by
      cases its with
      | nil => exact absurd (List.eq_nil_of_length_eq_zero hle.symm) hne
      | cons a b => rfl
    have c1 : (its.toArray.isEmpty || (0 : Int) == 1) = false := by rw [hi]; rfl
    refine wpAny_binaryOp_repeat_ref (T := "tuple") (U := "int") (by decide) ⟨_, ho, rfl⟩ (fun s' => typeIs_int s' 0 t) noFill_tuple_mul F.fills_int_mul F.slot_int_rmul repeat_tuple F.slot_int_index.lookup
      (call_meets F.slot_int_rmul (typeIs_int s 0 t) F.entry_int_rmul (F.args_int_rmul_2 _ _) (int_rmul_tuple 0 t l its.toArray n dd sl)
        ⟨ho, rfl, ⟨_, ho, rfl⟩, call_meets F.slot_tuple_mul ⟨_, ho, rfl⟩ F.entry_tuple_mul (F.args_tuple_mul_2 _ _) (tuple_mul0 l its.toArray n dd sl 0 t rfl c1 rfl) ⟨ho, ?_⟩⟩)
    refine ⟨.ref s.heap.objs.size, _, I.laid (t' := s.toks) (o := .tup []) (fun b ob q => Heap.get?_push_of_some _ q) (Nat.le_refl _) ?_, rfl, q _ (I.hok.fresh (Nat.le_refl _))⟩
    exact ⟨Nat.zero_le _, [], .nil, IsTup.new _ _⟩
  · exact op_repT pins s σ H _ _ v u Q I rx ry ⟨l, k, xs, rfl, rfl, hT, hne, h1, h2, hz, q⟩
def dRepT : D → D → (D → Prop) → Prop := fun x y k => match x, y with
  | .tup xs, .int i => xs ≠ [] ∧ (i = 0 ∨ 2 ≤ i) ∧ i ≤ 1000 ∧ xs.length ≤ 1000 ∧ k (.tup (List.replicate i.toNat xs).flatten)
  | _, _ => False
theorem opd_repT {K : PySem.W.Frag} : OpD .c .e (rRepTA K) dRepT := fun z X H0 H σ env v u x y Q k o r1 r2 c hp => by
  cases x with
  | tup xs =>
    cases y with
    | int i =>
      obtain ⟨h0, h1, h2, h3, hk⟩ := hp
      obtain ⟨a, vs, rfl, q1, q2, n⟩ := r1.conT
      refine ⟨a, i, vs, rfl, r2.intC, SqT.of q1, fun e => h0 ?_, h1, h2, by rw [q2.length]; exact h3, fun q hq => c _ _ _ ((Evo.refl _ _).new hq) ((Rel.newT hq hq (q2.rep _)).fe o) hk⟩
      have := q2.length
      rw [e] at this
      exact List.eq_nil_of_length_eq_zero this.symm
    | _ => exact (show False from hp).elim
  | _ => exact (show False from hp).elim
end Pu

namespace Pu
open PySem PySem.Spec PyProof.Rows L2
variable [Tbs]
/-! ### dicts by whole numbers, owned -/
def valD (kvs : List (Key × D)) (k : Key) : Option D := (kvs.find? fun kv => decide (kv.1 = k)).map (·.2)
def putD (kvs : List (Key × D)) (k : Key) (d : D) : List (Key × D) :=
  if (kvs.any fun kv => decide (kv.1 = k)) = true then kvs.map (fun kv => if kv.1 = k then (kv.1, d) else kv) else kvs ++ [(k, d)]
section
variable {z : Zn} {M : AP} {H : Hp}
theorem IsK.len : ∀ {vs : List (Key × V)} {ds : List (Key × D)}, IsK z M H vs ds → vs.length = ds.length
  | _, _, .nil => rfl
  | _, _, .cons _ t => congrArg Nat.succ (IsK.len t)
theorem IsK.val (k : Key) : ∀ {vs : List (Key × V)} {ds : List (Key × D)}, IsK z M H vs ds → (valD ds k = none → valV vs k = none) ∧ (∀ d, valD ds k = some d → ∃ v, valV vs k = some v ∧ Is z M H v d)
  | _, _, .nil => ⟨fun _ => rfl, fun d h => by cases h⟩
  | _, _, .cons (k := k') (v := v) (d := d) (vs := vs) (ds := ds) h t => by
    have ih := IsK.val k t
    by_cases e : k' = k
    · rw [valV_pos (p := (k', v)) (r := vs) e, show valD ((k', d) :: ds) k = some d by simp [valD, List.find?_cons, e]]
      refine ⟨fun q => (by cases q), fun d' q => ?_⟩
      cases q
      exact ⟨v, rfl, h⟩
    · rw [valV_neg (p := (k', v)) (r := vs) e, show valD ((k', d) :: ds) k = valD ds k by simp [valD, List.find?_cons, e]]
      exact ih
theorem IsK.any (k : Key) : ∀ {vs : List (Key × V)} {ds : List (Key × D)}, IsK z M H vs ds → (vs.any fun kv => decide (kv.1 = k)) = ds.any fun kv => decide (kv.1 = k)
  | _, _, .nil => rfl
  | _, _, .cons h t => by rw [List.any_cons, List.any_cons, IsK.any k t]
theorem IsK.mapP {k : Key} {v : V} {d : D} (hv : Is z M H v d) : ∀ {vs : List (Key × V)} {ds : List (Key × D)}, IsK z M H vs ds → IsK z M H (vs.map fun kv => if kv.1 = k then (kv.1, v) else kv) (ds.map fun kv => if kv.1 = k then (kv.1, d) else kv)
  | _, _, .nil => .nil
  | _, _, .cons (k := k') h t => by
    rw [List.map_cons, List.map_cons]
    by_cases e : k' = k
    · rw [if_pos e, if_pos e]
      exact .cons hv (IsK.mapP hv t)
    · rw [if_neg e, if_neg e]
      exact .cons h (IsK.mapP hv t)
theorem IsK.snoc {k : Key} {v : V} {d : D} (hv : Is z M H v d) : ∀ {vs : List (Key × V)} {ds : List (Key × D)}, IsK z M H vs ds → IsK z M H (vs ++ [(k, v)]) (ds ++ [(k, d)])
  | _, _, .nil => .cons hv .nil
  | _, _, .cons h t => .cons h (IsK.snoc hv t)
theorem IsK.put {k : Key} {v : V} {d : D} {vs : List (Key × V)} {ds : List (Key × D)} (h : IsK z M H vs ds) (hv : Is z M H v d) : IsK z M H (putK vs k v) (putD ds k d) := by
  unfold putK putD
  rw [h.any k]
  split
  · exact h.mapP hv
  · exact h.snoc hv
end
theorem valD_put {ds : List (Key × D)} {k k' : Key} {d : D} : valD (putD ds k d) k' = if k' = k then some d else valD ds k' := by
  unfold putD
  split
  · rename_i h
    induction ds with
    | nil => cases h
    | cons p ds ih =>
      obtain ⟨a, b⟩ := p
      by_cases e : a = k
      · subst e
        by_cases q : k' = a
        · subst q
          simp [valD, List.find?_cons]
        · have q' : ¬ a = k' := fun w => q w.symm
          have : ∀ l : List (Key × D), valD (l.map fun kv => if kv.1 = a then (kv.1, d) else kv) k' = valD l k' := fun l => by
            induction l with
            | nil => rfl
            | cons p l ih2 =>
              obtain ⟨c, b'⟩ := p
              rw [List.map_cons]
              by_cases w : c = a
              · subst w
                simp [valD, List.find?_cons, q'] at ih2 ⊢
                exact ih2
              · by_cases w2 : c = k'
                · subst w2
                  simp [valD, List.find?_cons, w]
                · simp [valD, List.find?_cons, w, w2] at ih2 ⊢
                  exact ih2
          rw [this, if_neg q]
      · have h' : (ds.any fun kv => decide (kv.1 = k)) = true := by
          rw [List.any_cons, decide_eq_false e, Bool.false_or] at h
          exact h
        have := ih h'
        rw [List.map_cons]
        by_cases w : a = k'
        · subst w
          simp [valD, List.find?_cons, e]
        · simp [valD, List.find?_cons, e, w] at this ⊢
          exact this
  · rename_i h
    have hn : ∀ p ∈ ds, p.1 ≠ k := fun p hp e => h (List.any_eq_true.mpr ⟨p, hp, decide_eq_true e⟩)
    clear h
    induction ds with
    | nil =>
      by_cases q : k' = k
      · subst q; simp [valD, List.find?_cons]
      · have q' : ¬ k = k' := fun w => q w.symm
        simp [valD, List.find?_cons, q, q']
    | cons p ds ih =>
      obtain ⟨a, b⟩ := p
      have e : a ≠ k := hn (a, b) List.mem_cons_self
      have := ih fun p hp => hn p (List.mem_cons_of_mem _ hp)
      by_cases w : a = k'
      · subst w
        simp [valD, List.find?_cons, e]
      · simp [valD, List.find?_cons, w] at this ⊢
        exact this
section
variable {C : Cx} {fr : Bool} {m : Mode} {e a b : Expr} {p q : PX} {pos pp : Pos}
def eDic0 : PX := fun _ k => k (.dic [])
theorem e_dic0 : E .f C (.Dict [] [] pos) eDic0 := ⟨_, pe_dnewK, fun z X H0 H σ env Q k o c hp => fun q hq => c (.dic []) (.ref q) _ ((Evo.refl _ _).new hq) ⟨q, rfl, hq, [], upd_same, .nil⟩ hp⟩
/-- x[i] = e, x a dict -/
def sDput (i : Nat) (pi pe : PX) : PSt := fun env k => pe env fun y => match env[i]? with
  | some (.own (.dic kvs)) => pi env fun d => inK d fun n => kvs.length ≤ 100000 ∧ k.nx (env.set i (.own (.dic (putD kvs (.inl n) y))))
  | _ => False
theorem s_dput (i : Nat) {x : Str} {ix : Expr} {spos : Pos} (hu : C.A.units + 1 < cLine) (he : E .e C e p) (hi : E m C ix q) (hN : C.N[i]? = some x := by rfl) (hv : Vis C.env.scope x := by first | exact Or.inl rfl | exact Or.inr (Or.inl rfl) | exact Or.inr (Or.inr rfl)) (hd : (x == ("__debug__" : Str)) = false := by decide)
    (hcd : (x == ("__classdict__" : Str)) = false := by decide) (hs : swapsWith e (some (.Subscript (.Name x pp) ix spos)) pos.line C.env = pure false := by rfl) : S fr C (.Assign [.Subscript (.Name x pp) ix spos] e pos) (sDput i q p) := by
  obtain ⟨t, h1, h2⟩ := he
  obtain ⟨u, g1, g2⟩ := hi.toB
  refine ⟨_, ps_dput hu (pe_var hN hv hd hcd) g1 h1 hs, fun z X H0 H σ env G k o s hp => ?_⟩
  refine h2 z X H0 H σ env _ _ o (fun y v H1 e1 r1 hx => ?_) hp
  have o1 := o.go e1
  split at hx
  · rename_i kvs hk
    obtain ⟨ad, q1, ⟨vs, q5, q6⟩, q3, q4⟩ := o1.own i _ hk
    refine ⟨_, q1, g2 z X H0 H1 σ env _ _ o1 (fun d w H2 e2 r2 hy => ?_) hx⟩
    cases d with
    | int n =>
      cases Is.intI r2
      obtain ⟨hl, hy⟩ := hy
      have o2 := o1.go e2
      have q5' := e2.old ad _ q5 q3
      have q6' : IsK z (Ms z X σ env) H2 vs kvs := q6.gen (fun b ob qb nb => ⟨e2.old b ob qb fun w => nb (.inl w), nb⟩) e2.dk
      have r1' : Is z (Ms z X σ env) H2 v y := Is.evo (fun _ q => .inl q) e2 r1
      have hlen := q6.len
      refine ⟨ad, _, rfl, DPut.k (k := Sum.inl n) q5' (by rw [hlen, sizeLine_eq]; omega), ?_⟩
      have ia : Ms z X σ env ad := .inr (.inr ⟨i, _, hk, q1⟩)
      obtain ⟨o3, f3⟩ := o2.mut (d' := .dic (putD kvs (.inl n) y)) (o := .dK (putK vs (.inl n) v)) hk q1 ⟨_, upd_same, (q6'.put r1').gen (fun b u hb nb => ⟨by rw [upd_ne (fun w => nb (by rw [w]; exact ia))]; exact hb, nb⟩) fun b hb => ok_mut q3 hb⟩
      exact s.nx _ _ _ o3 ((o.fr (e1.trans e2)).trans f3) hy
    | _ => exact (show False from hy).elim
  · exact hx.elim
/-- x[k], k in x, x an owned dict -/
def dDget : D → D → (D → Prop) → Prop := fun x y k => match x, y with
  | .dic kvs, .int n => ∃ d, valD kvs (.inl n) = some d ∧ k d
  | _, _ => False
def dDin : D → D → (D → Prop) → Prop := fun x y k => match x, y with
  | .int n, .dic kvs => k (.bl (valD kvs (.inl n)).isSome)
  | _, _ => False
theorem Rel.conD {z : Zn} {X : AP} {H H' : Hp} {σ : Sl} {env : List SV} {v : V} {xs : List (Key × D)} (h : Rel .c z X H H' σ env v (.dic xs)) : ∃ a vs, v = .ref a ∧ H' a = some (.dK vs) ∧ IsK z (Ms z X σ env) H' vs xs := by
  rcases h with h | ⟨a, rfl, ⟨vs, e, r⟩, n, md⟩
  · cases h with
    | dic e n r => exact ⟨_, _, rfl, e, r⟩
  · exact ⟨a, vs, rfl, e, r⟩
theorem e_dgetO (hu : C.A.units + 1 < cLine) (ha : E .c C a p) (hb : E .c C b q) (hs : NoSl b := by exact fun _ _ => rfl) : E .e C (.Subscript a b pos) (eOp dDget p q) := by
  obtain ⟨ta, a1, a2⟩ := ha
  obtain ⟨tb, b1, b2⟩ := hb
  refine ⟨_, pe_dget hu a1 b1 hs, fun z X H0 H σ env Q k o c hp => a2 z X H0 H σ env _ _ o (fun x v H1 e1 r1 hp1 => b2 z X H0 H1 σ env _ _ (o.go e1) (fun y u H2 e2 r2 hp2 => ?_) hp1) hp⟩
  have r1' := r1.evo o e2 e1
  cases x with
  | dic kvs =>
    cases y with
    | int n =>
      obtain ⟨d, hd, hk⟩ := hp2
      obtain ⟨ad, vs, rfl, h1, h2⟩ := Rel.conD r1'
      obtain ⟨w, hw, iw⟩ := (h2.val (.inl n)).2 d hd
      cases r2.intC
      exact ⟨ad, w, rfl, hw ▸ DGet.k (k := Sum.inl n) h1, c d w H2 (e1.trans e2) iw hk⟩
    | _ => exact (show False from hp2).elim
  | _ => exact (show False from hp2).elim
theorem t_dinO (hu : C.A.units + 1 < cLine) (ha : E .c C a p) (hb : E .c C b q) (hk : behindInMarks .In b = false := by rfl) : T C (.Compare a [.In] [b] pos) (tOf (eOp dDin p q)) := by
  obtain ⟨ta, a1, a2⟩ := ha
  obtain ⟨tb, b1, b2⟩ := hb
  refine ⟨_, pt_cmp (pc_din hu a1 b1) hk, fun z X H0 H σ env Q k o c hp => a2 z X H0 H σ env _ _ o (fun x v H1 e1 r1 hp1 => b2 z X H0 H1 σ env _ _ (o.go e1) (fun y u H2 e2 r2 hp2 => ?_) hp1) hp⟩
  have r1' := r1.evo o e2 e1
  cases x with
  | int n =>
    cases y with
    | dic kvs =>
      obtain ⟨ad, vs, rfl, h1, h2⟩ := Rel.conD r2
      cases r1'.intC
      have hv := h2.val (.inl n)
      refine ⟨ad, valV vs (.inl n), rfl, DGet.k (k := Sum.inl n) h1, _, rfl, ?_⟩
      have : (valV vs (.inl n)).isSome = (valD kvs (.inl n)).isSome := by
        cases q : valD kvs (.inl n) with
        | none => rw [hv.1 q]; rfl
        | some d =>
          obtain ⟨w, hw, _⟩ := hv.2 d q
          rw [hw]
          rfl
      rw [this]
      exact c _ H2 (e1.trans e2) hp2
    | _ => exact (show False from hp2).elim
  | _ => exact (show False from hp2).elim
theorem dDget_i {kvs : List (Key × D)} {n : Int} {d : D} {k : D → Prop} (e : valD kvs (.inl n) = some d) (h : k d) : dDget (.dic kvs) (.int n) k := ⟨d, e, h⟩
theorem dDin_i {kvs : List (Key × D)} {n : Int} {k : D → Prop} (h : k (.bl (valD kvs (.inl n)).isSome)) : dDin (.int n) (.dic kvs) k := h
theorem eO_d {i : Nat} {env : List SV} {kvs : List (Key × D)} {k : D → Prop} (e : env[i]? = some (.own (.dic kvs))) (h : k (.dic kvs)) : eO i env k := by unfold eO; rw [e]; exact h
theorem sDput_i {i : Nat} {pi pe : PX} {env : List SV} {kvs : List (Key × D)} {K : PK'} (e : env[i]? = some (.own (.dic kvs))) (h : pe env fun y => pi env fun d => inK d fun n => kvs.length ≤ 100000 ∧ K.nx (env.set i (.own (.dic (putD kvs (.inl n) y))))) : sDput i pi pe env K := by
  unfold sDput
  rw [e]
  exact h
end
/-! ### a statement by its reading, between statements by hand -/
theorem S.ps {fr : Bool} {C : Cx} {st : Stmt} {p : PSt} (h : S fr C st p) : PS C st (tPS fr p) := by
  obtain ⟨t, h1, h2⟩ := h
  exact ⟨fun pins s σ H G I ⟨z, X, H0, env, k, o, c, hp⟩ => h1.run pins s σ H G I (h2 z X H0 H σ env G k o c hp)⟩
/-- the second statement of a deck's making, by its reading -/
theorem mid_deck {p : PSt} {n : Nat} {a q : Addr} {H : Hp} {cs : List Int} {G : Ends} (hc : H q = some (.lst (cs.map V.int))) (hT : Tabs H)
    (k : ∀ (σ' : Sl) H' b s, σ'[1]? = some (some (V.ref b)) → H' b = some (.lst (cs.map V.int)) → σ'[2]? = some (some (V.int s)) → Tabs H' → G.nx σ' H')
    (hp : p (SV.no :: SV.val (.lst (cs.map D.int)) :: List.replicate n SV.no) { nx := fun env => ∃ s : Int, env[1]? = some (.val (.lst (cs.map D.int))) ∧ env[2]? = some (.val (.int s)), rt := fun _ => False }) :
    tPS false p G (some (V.ref a) :: some (.ref q) :: List.replicate n none) H := by
  have zz : ∀ b, Zn.none.Z b → b ∈ Tbs.tb := fun b w => w.elim (fun w => absurd rfl w.1) fun w => w
  have zq : ¬ Zn.none.Z q := fun w => by
    obtain ⟨ps, e, _⟩ := hT q (zz q w)
    rw [hc] at e
    cases e
  have hrep : ∀ (i : Nat) (d : SV), (SV.no :: SV.val (.lst (cs.map D.int)) :: List.replicate n SV.no)[i]? = some d → d = .no ∨ (i = 1 ∧ d = .val (.lst (cs.map D.int))) := fun i d h => by
    match i, h with
    | 0, h => simp at h; exact .inl h.symm
    | 1, h => simp at h; exact .inr ⟨rfl, h.symm⟩
    | j + 2, h =>
      simp only [List.getElem?_cons_succ, List.getElem?_replicate] at h
      split at h
      · cases h; exact .inl rfl
      · cases h
  have hia : ∀ (M : AP) (ns : List Int), IsA Zn.none M H (ns.map V.int) (ns.map D.int) := fun M ns => by
    induction ns with
    | nil => exact .nil
    | cons n ns ih => exact .cons (.int n) ih
  have hms : ¬ Ms Zn.none (fun _ => False) (some (V.ref a) :: some (.ref q) :: List.replicate n none) (SV.no :: SV.val (.lst (cs.map D.int)) :: List.replicate n SV.no) q := fun w => by
    rcases w with w | w | ⟨i, d, w, _⟩
    · exact zq w
    · exact w
    · rcases hrep i _ w with q | ⟨_, q⟩ <;> cases q
  refine ⟨Zn.none, fun _ => False, H, _, { nx := fun env => ∃ s : Int, env[1]? = some (.val (.lst (cs.map D.int))) ∧ env[2]? = some (.val (.int s)), rt := fun _ => False }, ⟨by simp, Evo.refl _ _, fun b w => hT.at (zz b w), fun _ q => q.elim, fun i d h => ?_, fun i d h => ?_, fun i j b d e h _ _ _ => ?_, hT⟩, ⟨fun env' σ' H' o _ hx => ?_, fun _ _ _ _ _ _ q => q.elim, fun _ _ _ _ _ q => q.elim, fun _ _ _ _ _ q => q.elim, fun _ _ _ _ _ _ _ q => q.elim⟩, hp⟩
  · rcases hrep i _ h with q | ⟨rfl, q⟩
    · cases q
    · cases q
      exact ⟨.ref _, rfl, Is.lst hc hms (hia _ cs)⟩
  · rcases hrep i _ h with q | ⟨rfl, q⟩ <;> cases q
  · rcases hrep i _ h with q | ⟨rfl, q⟩ <;> cases q
  · obtain ⟨s, h1, h2⟩ := hx
    obtain ⟨v, q1, q2⟩ := o.val 1 _ h1
    obtain ⟨u, p1, p2⟩ := o.val 2 _ h2
    cases p2
    cases q2 with
    | lst e _ r => exact k σ' H' _ s q1 (by rw [e, isa_ints r]) p1 o.tab
theorem isa_of {z : Zn} {M : AP} {H : Hp} (A : List Int) : IsA z M H (A.map V.int) (A.map D.int) := by
  induction A with
  | nil => exact .nil
  | cons a A ih => exact .cons (.int a) ih
/-! ### sorted(set(t)), t a tuple of whole numbers -/
theorem pigeon : ∀ (b : Nat) (l : List Int), l.Nodup → (∀ x ∈ l, 0 ≤ x ∧ x < (b : Int)) → l.length ≤ b
  | 0, l, _, h => by
    cases l with
    | nil => exact Nat.le_refl _
    | cons x l => have := h x List.mem_cons_self; omega
  | b + 1, l, nd, h => by
    by_cases q : (b : Int) ∈ l
    · have e := List.length_erase_of_mem q
      have := pigeon b (l.erase b) (nd.erase _) fun x hx => by
        have h1 := (List.Nodup.mem_erase_iff nd).mp hx
        have h2 := h x h1.2
        have h3 := h1.1
        omega
      omega
    · have := pigeon b l nd fun x hx => by
        have h2 := h x hx
        have h3 : x ≠ b := fun e => q (by rw [← e]; exact hx)
        omega
      omega
def rSetTup (K : PySem.W.Frag) (w : World) : List V → Hp → VK → Prop := fun xs H Q => ∃ (l : Addr) (ns : List Int), xs = [.ref l] ∧ SqT K H l (ns.map V.int) ∧ ns.length ≤ 1000 ∧ (∀ x ∈ ns, 0 ≤ x ∧ x < 60) ∧ ∀ a n, H a = none → n ≤ 60 → Q (.ref a) (upd H a (SetO w a (fun j => decide (j ∈ ns)) n))
theorem cr_setTup {X : Cx} (hc : X.calm = true) : CallR X (.type "set") (rSetTup X.K X.w) := by
  intro pins s σ H xs us Q I r h
  obtain ⟨l, ns, rfl, hT, hl, hns, q⟩ := h
  obtain ⟨its, rv, ht, _⟩ := I.tuple hT
  rw [Vals.ref1 r]
  have hi : IntsAre its ns := Vals.ints rv
  refine call_set_tupI ns (I.ok.hd hc) (show s.heap.IsTuple l its.toArray from ht) (by simpa using hi) (by unfold scanBound; omega) fun h' tk cnt R hle hk => ?_
  refine ⟨.ref _, upd H s.heap.objs.size (SetO X.w s.heap.objs.size (fun j => decide (j ∈ ns)) cnt), I.laid (t' := tk) hk (Nat.le_refl _) (setO_new R), rfl, q _ cnt (I.hok.fresh (Nat.le_refl _)) ?_⟩
  obtain ⟨ob, es, ep, t, _, _, _, _, nd, mem, _, _, hn, _⟩ := R
  have hk2 : (es.toList.map keyOf).length ≤ 60 := pigeon 60 _ nd fun x hx => hns x (of_decide_eq_true ((mem x).mpr hx))
  rw [List.length_map, Array.length_toList, hn] at hk2
  exact hk2
def dSortSet : D → (D → Prop) → Prop := fun d k => ∃ ns : List Int, d = .tup (ns.map D.int) ∧ ns.length ≤ 1000 ∧ (∀ x ∈ ns, 0 ≤ x ∧ x < 60) ∧ ∀ ms : List Int, ms.Pairwise (· < ·) → (∀ x, x ∈ ms ↔ x ∈ ns) → k (.lst (ms.map D.int))
theorem e_sortSet {C : Cx} {e : Expr} {p : PX} {p1 p2 q1 q2 : Pos} (h : E .e C e p) (hc : C.calm = true) (hg : Gl C "sorted") (hm : C.mg "sorted" = none) (hg2 : Gl C "set") (hm2 : C.mg "set" = none)
    (hs1 : starEach [e] C.env = (false, eval e C.env) :: starEach [] C.env := by rfl) (hs2 : starEach [.Call (.Name "set" p2) [e] [] q2] C.env = (false, eval (.Call (.Name "set" p2) [e] [] q2) C.env) :: starEach [] C.env := by rfl) :
    E .f C (.Call (.Name "sorted" p1) [.Call (.Name "set" p2) [e] [] q2] [] q1) (eUn dSortSet p) := by
  obtain ⟨t, h1, h2⟩ := h
  refine ⟨_, pe_callB (cr_sortedSet hc) hg hm (by decide +kernel) (pa_cons (pe_callTy (cr_setTup hc) hg2 hm2 (by decide +kernel) (pa_cons h1 pa_nil hs1) (he := hs1)) pa_nil hs2) (he := hs2), fun z X H0 H σ env Q k o c hp => h2 z X H0 H σ env _ _ o (fun d v H1 e1 r1 hx => ?_) hp⟩
  obtain ⟨ns, rfl, h64, hns, hk⟩ := hx
  cases (show Is z (Ms z X σ env) H1 v (.tup (ns.map D.int)) from r1) with
  | tup e' n' r' =>
    rename_i l vs
    refine ⟨l, ns, rfl, SqT.of (by rw [e', isa_ints r']), h64, hns, fun a n ha hn => ?_⟩
    refine ⟨a, _, n, rfl, upd_same, by omega, fun ms q hms hmem _ hq => ?_⟩
    have e2 := e1.new (o := SetO C.w a (fun j => decide (j ∈ ns)) n) ha
    refine c _ _ _ (e2.new hq) (Rel.newL (e2.fresh hq) hq (isa_of ms)) (hk ms hms fun x => ?_)
    rw [hmem, decide_eq_true_eq]
end Pu

namespace Pu
open PySem PySem.Spec PyProof.Rows L2
variable [Tbs]
/-! ### going through a reading, step by step -/
section
variable {env : List SV} {k : D → Prop} {K : PK'} {p q r : PX} {s t : PTs'} {P Q : PSt} {d : D} {ds xs ys : List D} {i n : Nat} {a b c : Int} {g : PAs}
theorem sSeq_i (h : P env { K with nx := fun env' => Q env' K }) : sSeq P Q env K := h
theorem sSeq_mid (Mid : List SV → Prop) (h : ∀ N : List SV → Prop, (∀ e, Mid e → N e) → P env { K with nx := N }) (h2 : ∀ e, Mid e → Q e K) : sSeq P Q env K := h _ h2
theorem sSeq_set (h : sSet i p env { K with nx := fun env' => Q env' K }) : sSeq (sSet i p) Q env K := h
theorem sSeq_own (h : sOwn i p env { K with nx := fun env' => Q env' K }) : sSeq (sOwn i p) Q env K := h
theorem sSeq_asg {gt : PGt} (h : sAsg p gt env { K with nx := fun env' => Q env' K }) : sSeq (sAsg p gt) Q env K := h
theorem sSeq_par {j : Nat} (h : sPar i j g env { K with nx := fun env' => Q env' K }) : sSeq (sPar i j g) Q env K := h
theorem sSeq_app (h : sAppend i p env { K with nx := fun env' => Q env' K }) : sSeq (sAppend i p) Q env K := h
theorem sSeq_put (h : sPut i p q env { K with nx := fun env' => Q env' K }) : sSeq (sPut i p q) Q env K := h
theorem sSeq_pop {j : Nat} (h : sPopAt j i p env { K with nx := fun env' => Q env' K }) : sSeq (sPopAt j i p) Q env K := h
theorem sSeq_drop (h : sDrop p env { K with nx := fun env' => Q env' K }) : sSeq (sDrop p) Q env K := h
theorem sSeq_for {it : PIt} {gt : PGt} (h : sFor it gt P env { K with nx := fun env' => Q env' K }) : sSeq (sFor it gt P) Q env K := h
theorem sSeq_ifr (h : sIf s (sRet p) sNext env { K with nx := fun env' => Q env' K }) : sSeq (sIf s (sRet p) sNext) Q env K := h
theorem sSeq_ifn (h : sIf s sRetN sNext env { K with nx := fun env' => Q env' K }) : sSeq (sIf s sRetN sNext) Q env K := h
theorem sNext_i (h : K.nx env) : sNext env K := h
theorem sSet_i (h : p env fun d => K.nx (env.set i (.val d))) : sSet i p env K := h
theorem sOwn_i (h : p env fun d => i < env.length ∧ K.nx (env.set i (.own d))) : sOwn i p env K := h
theorem sRet_i (h : p env K.rt) : sRet p env K := h
theorem sRetO_i (e : env[i]? = some (.own d)) (h : K.rt d) : sRetO i env K := by unfold sRetO; rw [e]; exact h
theorem sRetN_i (h : K.rt .non) : sRetN env K := h
theorem sDrop_i (h : p env fun _ => K.nx env) : sDrop p env K := h
theorem sIf_i (h : s env fun b => if b = true then P env K else Q env K) : sIf s P Q env K := h
theorem sAsg_i {gt : PGt} (h : p env fun d => gt d env K.nx) : sAsg p gt env K := h
theorem sPar_i {j : Nat} (h : g env fun ds => prK ds fun c d => K.nx ((env.set i (.val c)).set j (.val d))) : sPar i j g env K := h
theorem prK_i {e : D} {k : D → D → Prop} (h : k d e) : prK [d, e] k := h
theorem nx_i {f f' f'' : List SV → Prop} {g : D → Prop} (h : f env) : PK'.nx { nx := f, rt := g, bk := f', ct := f'' } env := h
theorem bk_i {f f' f'' : List SV → Prop} {g : D → Prop} (h : f' env) : PK'.bk { nx := f, rt := g, bk := f', ct := f'' } env := h
theorem ct_i {f f' f'' : List SV → Prop} {g : D → Prop} (h : f'' env) : PK'.ct { nx := f, rt := g, bk := f', ct := f'' } env := h
theorem rt_i {f f' f'' : List SV → Prop} {g : D → Prop} (h : g d) : PK'.rt { nx := f, rt := g, bk := f', ct := f'' } d := h
theorem blK_i {b : Bool} {k : Bool → Prop} (h : k b) : blK (.bl b) k := h
theorem inK_i {k : Int → Prop} (h : k a) : inK (.int a) k := h
theorem sqK_t {k : List D → Prop} (h : k xs) : sqK (.tup xs) k := h
theorem sqK_l {k : List D → Prop} (h : k xs) : sqK (.lst xs) k := h
theorem sFrz_i (e : env[i]? = some (.own d)) (h : P (env.set i (.val d)) K) : sFrz i P env K := by unfold sFrz frz; rw [e]; exact h
theorem sFor_i {it : PIt} {gt : PGt} (h : it env fun ds => forP gt P ds env K) : sFor it gt P env K := h
theorem sAppend_i (e : env[i]? = some (.own (.lst xs))) (h : p env fun d => xs.length ≤ 100000 ∧ K.nx (env.set i (.own (.lst (xs ++ [d]))))) : sAppend i p env K := by unfold sAppend; rw [e]; exact h
theorem eC_i (h : k d) : eC d env k := h
theorem eV_i (e : env[i]? = some (.val d)) (h : k d) : eV i env k := by unfold eV; rw [e]; exact h
theorem eO_i (e : env[i]? = some (.own (.lst xs))) (h : k (.lst xs)) : eO i env k := by unfold eO; rw [e]; exact h
theorem eOp_i {o : D → D → (D → Prop) → Prop} (h : p env fun x => q env fun y => o x y k) : eOp o p q env k := h
theorem eUn_i {o : D → (D → Prop) → Prop} (h : p env fun x => o x k) : eUn o p env k := h
theorem eChain_i {o o' : D → D → (D → Prop) → Prop} (h : p env fun x => q env fun y => o x y fun w => bCase w (r env fun u => o' y u k) (k (.bl false))) : eChain o o' p q r env k := h
theorem bCase_i {c : Bool} {A B : Prop} (h1 : c = true → A) (h2 : c = false → B) : bCase (.bl c) A B := by
  cases c with
  | true => exact h1 rfl
  | false => exact h2 rfl
theorem bCase_d {c : Prop} [Decidable c] {A B : Prop} (h1 : c → A) (h2 : ¬ c → B) : bCase (.bl (decide c)) A B := bCase_i (fun e => h1 (of_decide_eq_true e)) fun e => h2 (of_decide_eq_false e)
theorem bCase_t {A B : Prop} (h : A) : bCase (.bl true) A B := h
theorem bCase_f {A B : Prop} (h : B) : bCase (.bl false) A B := h
theorem eAnd_i (h : p env fun x => bCase x (q env k) (k (.bl false))) : eAnd p q env k := h
theorem eOr_i (h : p env fun x => bCase x (k (.bl true)) (q env k)) : eOr p q env k := h
theorem eIf_i (h : s env fun x => if x = true then p env k else q env k) : eIf s p q env k := h
theorem eTup_i (h : g env fun xs => xs.length ≤ 100000 ∧ k (.tup xs)) : eTup g env k := h
theorem eLst_i (h : g env fun xs => xs.length ≤ 100000 ∧ k (.lst xs)) : eLst g env k := h
theorem eCall_i {o : List D → (D → Prop) → Prop} (h : g env fun ds => o ds k) : eCall o g env k := h
theorem aNil_i {k : List D → Prop} (h : k []) : aNil env k := h
theorem aCons_i {k : List D → Prop} (h : p env fun x => g env fun xs => k (x :: xs)) : aCons p g env k := h
theorem tOf_i {k : Bool → Prop} (h : p env fun d => blK d k) : tOf p env k := h
theorem tAndP_i {k : Bool → Prop} (h : s env fun x => if x = true then t env k else k false) : tAndP s t env k := h
theorem tOrP_i {k : Bool → Prop} (h : s env fun x => if x = true then k true else t env k) : tOrP s t env k := h
theorem tNotP_i {k : Bool → Prop} (h : s env fun x => k (!x)) : tNotP s env k := h
theorem dI0_i {f : Int → Int → D} (h : k (f a b)) : dI0 f (.int a) (.int b) k := h
theorem dII_i {C : Int → Int → Prop} {f : Int → Int → D} (c : C a b) (h : k (f a b)) : dII C f (.int a) (.int b) k := ⟨c, h⟩
theorem dAdd_i (h : k (.int (a + b))) : dAdd (.int a) (.int b) k := h
theorem dAdd_t (hl : xs.length + ys.length ≤ 100000) (h : k (.tup (xs ++ ys))) : dAdd (.tup xs) (.tup ys) k := ⟨hl, h⟩
theorem dAdd_l (hl : xs.length + ys.length ≤ 100000) (h : k (.lst (xs ++ ys))) : dAdd (.lst xs) (.lst ys) k := ⟨hl, h⟩
theorem dIx_t (e : atI xs a = some d) (h : k d) : dIx (.tup xs) (.int a) k := ⟨d, e, h⟩
theorem dIx_l (e : atI xs a = some d) (h : k d) : dIx (.lst xs) (.int a) k := ⟨d, e, h⟩
theorem dIx_in (h0 : 0 ≤ a) (h1 : a < xs.length) (h : ∀ d ∈ xs, k d) : dIx (.lst xs) (.int a) k := by
  have hl : a.toNat < xs.length := by omega
  refine ⟨xs[a.toNat], ?_, h _ (List.getElem_mem hl)⟩
  unfold atI ixN
  rw [if_pos h0, if_pos h1]
  exact List.getElem?_eq_getElem hl
theorem dIx_at (h0 : 0 ≤ a) (h1 : a < xs.length) (h : ∀ d, xs[a.toNat]? = some d → k d) : dIx (.lst xs) (.int a) k := by
  have hl : a.toNat < xs.length := by omega
  refine ⟨xs[a.toNat], ?_, h _ (List.getElem?_eq_getElem hl)⟩
  unfold atI ixN
  rw [if_pos h0, if_pos h1]
  exact List.getElem?_eq_getElem hl
theorem dIx_atT (h0 : 0 ≤ a) (h1 : a < xs.length) (h : ∀ d, xs[a.toNat]? = some d → k d) : dIx (.tup xs) (.int a) k := dIx_at h0 h1 h
theorem dNeg_i (h : k (.int (-a))) : dNeg (.int a) k := h
theorem dNot_i {c : Bool} (h : k (.bl (!c))) : dNot (.bl c) k := h
theorem dTuple_l (h : k (.tup xs)) : dTuple (.lst xs) k := h
theorem dTuple_t (h : k (.tup xs)) : dTuple (.tup xs) k := h
theorem dList_l (h : k (.lst xs)) : dList (.lst xs) k := h
theorem dList_t (h : k (.lst xs)) : dList (.tup xs) k := h
theorem dRevT_i (hn : xs ≠ []) (h : k (.tup xs.reverse)) : dRevT (.tup xs) k := ⟨hn, h⟩
theorem dRevL_i (h : k (.lst xs.reverse)) : dRevL (.lst xs) k := h
theorem gMax_2 (h : k (.int (max a b))) : gMaxN [.int a, .int b] k := h
theorem gMax_3 (h : k (.int (max a (max b c)))) : gMaxN [.int a, .int b, .int c] k := h
theorem gMax_4 {d : Int} (h : k (.int (max a (max b (max c d))))) : gMaxN [.int a, .int b, .int c, .int d] k := h
theorem gMax_5 {d e : Int} (h : k (.int (max a (max b (max c (max d e)))))) : gMaxN [.int a, .int b, .int c, .int d, .int e] k := h
theorem gMin_2 (h : k (.int (min a b))) : gMinN [.int a, .int b] k := h
theorem gMin_3 (h : k (.int (min a (min b c)))) : gMinN [.int a, .int b, .int c] k := h
theorem gMin_4 {d : Int} (h : k (.int (min a (min b (min c d))))) : gMinN [.int a, .int b, .int c, .int d] k := h
theorem gAbs_i (h : k (.int (max a (-a)))) : gAbs [.int a] k := by
  show k (.int (if a < 0 then -a else a))
  rw [show (if a < 0 then -a else a) = max a (-a) by split <;> omega]
  exact h
theorem gLen_t (h : k (.int xs.length)) : gLen [.tup xs] k := h
theorem gLen_l (h : k (.int xs.length)) : gLen [.lst xs] k := h
theorem gInt_i (h : k (.int a)) : gInt [.int a] k := h
theorem gInt_b {c : Bool} (h : k (.int (if c then 1 else 0))) : gInt [.bl c] k := h
theorem gIsi_i {n t : String} {c : Bool} (e1 : tyD d = some t) (e2 : isB t n = some c) (h : k (.bl c)) : gIsi [d, .ty n] k := ⟨t, c, e1, e2, h⟩
theorem gMaxL_i {ns : List Int} (e : intsD xs = some ns) (hn : ns ≠ []) (h : k (.int (maxI ns))) : gMaxL [.lst xs] k := ⟨xs, ns, rfl, e, hn, h⟩
theorem gMinL_i {ns : List Int} (e : intsD xs = some ns) (hn : ns ≠ []) (h : k (.int (minI ns))) : gMinL [.lst xs] k := ⟨xs, ns, rfl, e, hn, h⟩
theorem gSum_i {ns : List Int} (e : intsD xs = some ns) (h : k (.int ns.sum)) : gSum [.lst xs] k := ⟨xs, ns, rfl, e, h⟩
theorem gtName_i {k : List SV → Prop} (h : k (env.set i (.val d))) : gtName i d env k := h
theorem gtTup_i {k : List SV → Prop} {gs : PGs'} (hn : ds.length = n) (h : gs ds env k) : gtTup n gs (.tup ds) env k := ⟨hn, h⟩
theorem gtCons_i {k : List SV → Prop} {gt : PGt} {gs : PGs'} (h : gt d env fun env' => gs ds env' k) : gtCons gt gs (d :: ds) env k := h
theorem gtNil_i {k : List SV → Prop} (h : k env) : gtNil [] env k := h
theorem iRange1_i {k : List D → Prop} (h : g env fun ds => rgK1 ds k) : iRange1 g env k := h
theorem iRange2_i {k : List D → Prop} (h : g env fun ds => rgK2 ds k) : iRange2 g env k := h
theorem rgK1_i {k : List D → Prop} (h1 : -100000 < a) (h2 : a < 100000) (h : k (rangeD 0 a.toNat)) : rgK1 [.int a] k := ⟨h1, h2, h⟩
theorem rgK2_i {k : List D → Prop} (h1 : -100000 < a ∧ a < 100000 ∧ -100000 < b ∧ b < 100000) (h : k (rangeD a (b - a).toNat)) : rgK2 [.int a, .int b] k := ⟨h1, h⟩
theorem iSeq_i {k : List D → Prop} (h : p env fun d => sqK d k) : iSeq p env k := h
theorem iEnumS_i {k : List D → Prop} (h : p env fun d => q env fun s => enK d s k) : iEnumS p q env k := h
theorem enK_i {k : List D → Prop} (h1 : -100000 < a ∧ a < 100000) (h : k (enumD a xs)) : enK (.tup xs) (.int a) k := ⟨h1, h⟩
theorem iEnum0_i {k : List D → Prop} (h : p env fun d => en0K d k) : iEnum0 p env k := h
theorem en0K_t {k : List D → Prop} (h : k (enumD 0 xs)) : en0K (.tup xs) k := h
theorem en0K_l {k : List D → Prop} (h : k (enumD 0 xs)) : en0K (.lst xs) k := h
theorem iRev1_i {k : List D → Prop} (h : p env fun d => rvK d k) : iRev1 p env k := h
theorem rvK_i {k : List D → Prop} (h1 : -100000 < a ∧ a < 100000) (h : k (revD a.toNat)) : rvK (.int a) k := ⟨h1, h⟩
theorem gSorted_i {ns : List Int} (e : intsD xs = some ns) (h : ∀ ms : List Int, ms.Perm ns → ms.Pairwise (· ≤ ·) → k (.lst (ms.map D.int))) : gSorted [.lst xs] k := ⟨xs, ns, rfl, e, h⟩
theorem sAug_i (e : env[i]? = some (.val (.int a))) (h : p env fun d => inK d fun b => K.nx (env.set i (.val (.int (a + b))))) : sAug i p env K := by unfold sAug; rw [e]; exact h
theorem sInsert_i (e : env[i]? = some (.own (.lst xs))) (h : p env fun d => q env fun y => inK d fun n => (0 ≤ n ∧ n < 100000 ∧ xs.length ≤ 100000) ∧ K.nx (env.set i (.own (.lst (xs.take n.toNat ++ [y] ++ xs.drop n.toNat))))) : sInsert i p q env K := by unfold sInsert; rw [e]; exact h
theorem sPopAt_i {j : Nat} (e : env[i]? = some (.own (.lst xs))) (h : p env fun d => inK d fun n => (-100000 < n ∧ n < 100000) ∧ ∃ jj y, seqIndex? n xs.length = some jj ∧ xs[jj]? = some y ∧ K.nx ((env.set i (.own (.lst (xs.eraseIdx jj)))).set j (.val y))) : sPopAt j i p env K := by unfold sPopAt; rw [e]; exact h
theorem sSeq_ins (h : sInsert i p q env { K with nx := fun env' => Q env' K }) : sSeq (sInsert i p q) Q env K := h
theorem sSeq_aug (h : sAug i p env { K with nx := fun env' => Q env' K }) : sSeq (sAug i p) Q env K := h
theorem eSl_i {lo hi : PO'} (h : p env fun x => lo env fun i => hi env fun j => dSl x i j k) : eSl p lo hi env k := h
theorem oNo_i {k : Option Int → Prop} (h : k none) : oNo env k := h
theorem oPart_i {k : Option Int → Prop} (h : p env fun d => inK d fun i => k (some i)) : oPart p env k := h
theorem dSl_t {lo hi : Option Int} (h : k (.tup (cutD xs lo hi))) : dSl (.tup xs) lo hi k := h
theorem dSl_l {lo hi : Option Int} (h : k (.lst (cutD xs lo hi))) : dSl (.lst xs) lo hi k := h
theorem eRg1_i {f : List D → D} (h : p env fun x => dRg f (.int 0) x k) : eRg1 f p env k := h
theorem dRg_i {f : List D → D} (hb : 0 ≤ a ∧ a < 100000 ∧ 0 ≤ b ∧ b < 100000) (h : k (f (rangeD a (b - a).toNat))) : dRg f (.int a) (.int b) k := ⟨hb, h⟩
theorem dIs_bn {c : Bool} {neg : Bool} (h : k (.bl neg)) : dIs neg (.bl c) .non k := h
theorem dEq_i (hx : pln 60 d = true) {e : D} (he : pln 60 e = true) (h : ∀ c : Bool, (c = true ↔ d = e) → k (.bl c)) : dEq d e k := ⟨_, ⟨pln_shp _ _ hx, pln_shp _ _ he, rfl⟩, h _ (eqvD_iff hx he)⟩
theorem dNe_i (hx : pln 60 d = true) {e : D} (he : pln 60 e = true) (h : ∀ c : Bool, (c = true ↔ d = e) → k (.bl (!c))) : dNe d e k := ⟨_, ⟨pln_shp _ _ hx, pln_shp _ _ he, rfl⟩, h _ (eqvD_iff hx he)⟩
theorem dEq_int (h : k (.bl (decide (a = b)))) : dEq (.int a) (.int b) k := by
  refine ⟨_, ⟨rfl, rfl, rfl⟩, ?_⟩
  have e : eqvD (.int a) (.int b) = decide (a = b) := by
    unfold eqvD
    simp only [pd, PyData.eqv]
    by_cases h : a = b <;> simp [h]
  rw [e]; exact h
theorem dNe_int (h : k (.bl (!decide (a = b)))) : dNe (.int a) (.int b) k := by
  refine ⟨_, ⟨rfl, rfl, rfl⟩, ?_⟩
  have e : eqvD (.int a) (.int b) = decide (a = b) := by
    unfold eqvD
    simp only [pd, PyData.eqv]
    by_cases h : a = b <;> simp [h]
  rw [e]; exact h
/-- a list and [] -/
theorem dEq_nil (hx : plnA 59 xs = true) (h : k (.bl (decide (xs = [])))) : dEq (.lst xs) (.lst []) k := by
  refine dEq_i (by simp only [pln]; exact hx) rfl fun c hc => ?_
  rw [show c = decide (xs = []) from ?_]
  · exact h
  · rw [D.lst.injEq] at hc
    by_cases e : xs = []
    · rw [decide_eq_true e]; exact hc.mpr e
    · rw [decide_eq_false e]; cases c with
      | true => exact absurd (hc.mp rfl) e
      | false => rfl
theorem dNe_nil (hx : plnA 59 xs = true) (h : k (.bl (!decide (xs = [])))) : dNe (.lst xs) (.lst []) k := by
  refine dNe_i (by simp only [pln]; exact hx) rfl fun c hc => ?_
  rw [show c = decide (xs = []) from ?_]
  · exact h
  · rw [D.lst.injEq] at hc
    by_cases e : xs = []
    · rw [decide_eq_true e]; exact hc.mpr e
    · rw [decide_eq_false e]; cases c with
      | true => exact absurd (hc.mp rfl) e
      | false => rfl
theorem ite_d {c : Prop} [Decidable c] {A B : Prop} (h1 : c → A) (h2 : ¬ c → B) : if decide c = true then A else B := by
  by_cases h : c
  · rw [if_pos (decide_eq_true h)]; exact h1 h
  · rw [if_neg (by rw [decide_eq_false h]; exact Bool.false_ne_true)]; exact h2 h
theorem ite_n {c : Prop} [Decidable c] {A B : Prop} (h1 : ¬ c → A) (h2 : c → B) : if (!decide c) = true then A else B := by
  by_cases h : c
  · rw [if_neg (by rw [decide_eq_true h]; exact Bool.false_ne_true)]; exact h2 h
  · rw [if_pos (by rw [decide_eq_false h]; rfl)]; exact h1 h
theorem ite_b {c : Bool} {A B : Prop} (h1 : c = true → A) (h2 : c = false → B) : if c = true then A else B := by
  cases c with
  | true => exact h1 rfl
  | false => exact h2 rfl
theorem ite_nb {c : Bool} {A B : Prop} (h1 : c = false → A) (h2 : c = true → B) : if (!c) = true then A else B := by
  cases c with
  | true => exact h2 rfl
  | false => exact h1 rfl
theorem ite_t {A B : Prop} (h : A) : if true = true then A else B := h
theorem ite_f {A B : Prop} (h : B) : if false = true then A else B := h
theorem ite_nt {A B : Prop} (h : B) : if (!true) = true then A else B := h
theorem ite_nf {A B : Prop} (h : A) : if (!false) = true then A else B := h
theorem and_le {n m : Nat} {A : Prop} (e : Nat.ble n m = true) (h : A) : n ≤ m ∧ A := ⟨Nat.le_of_ble_eq_true e, h⟩
theorem and_lt {n m : Nat} {A : Prop} (e : Nat.ble (n + 1) m = true) (h : A) : n < m ∧ A := ⟨Nat.le_of_ble_eq_true e, h⟩
theorem and_rfl {n m : Nat} {A : Prop} (e : n = m) (h : A) : n = m ∧ A := ⟨e, h⟩
end
/-! loops -/
theorem forP_i {gt : PGt} {body : PSt} {K : PK'} (Inv : Nat → List SV → Prop) : ∀ (ds : List D) (n : Nat) {env : List SV}, Inv n env →
    (∀ i d env, ds[i]? = some d → Inv (n + i) env → ∀ N : List SV → Prop, (∀ e, Inv (n + i + 1) e → N e) → gt d env fun env1 => body env1 { nx := N, rt := K.rt, bk := K.nx, ct := N }) →
    (∀ env, Inv (n + ds.length) env → K.nx env) → forP gt body ds env K
  | [], n, env, h0, _, hd => hd env (by simpa using h0)
  | d :: ds, n, env, h0, hs, hd => by
    unfold forP
    refine hs 0 d env rfl (by simpa using h0) _ fun e he => ?_
    exact forP_i Inv ds (n + 1) (by simpa using he) (fun i d' env' hi hI N hN => by
        refine hs (i + 1) d' env' hi (by rw [show n + (i + 1) = n + 1 + i by omega]; exact hI) N fun e h => hN e ?_
        rw [show n + 1 + i + 1 = n + (i + 1) + 1 by omega]; exact h) (fun env' h => hd env' (by rw [List.length_cons, show n + (ds.length + 1) = n + 1 + ds.length by omega]; exact h))
theorem lcP_i {pg : PGt} {pt : PTs'} {pe : PX} {env : List SV} {k : List D → Prop} (Inv : Nat → List D → Prop) : ∀ (ds : List D) (n : Nat) {acc : List D}, Inv n acc →
    (∀ i d acc, ds[i]? = some d → Inv (n + i) acc → acc.length ≤ 100000 ∧ ∀ (A : D → Prop) (B : Prop), (∀ r, Inv (n + i + 1) (acc ++ [r]) → A r) → (Inv (n + i + 1) acc → B) → pg d env fun env1 => pt env1 fun b => if b = true then pe env1 A else B) →
    (∀ acc, Inv (n + ds.length) acc → k acc) → lcP pg pt pe env ds acc k
  | [], n, acc, h0, _, hd => hd acc (by simpa using h0)
  | d :: ds, n, acc, h0, hs, hd => by
    unfold lcP
    have go : ∀ acc', Inv (n + 1) acc' → lcP pg pt pe env ds acc' k := fun acc' h => lcP_i Inv ds (n + 1) h (fun i d' acc'' hi hI => by
        have q := hs (i + 1) d' acc'' hi (by rw [show n + (i + 1) = n + 1 + i by omega]; exact hI)
        refine ⟨q.1, fun A B hA hB => q.2 A B (fun r h => hA r ?_) (fun h => hB ?_)⟩
        · rw [show n + 1 + i + 1 = n + (i + 1) + 1 by omega]; exact h
        · rw [show n + 1 + i + 1 = n + (i + 1) + 1 by omega]; exact h) (fun acc'' h => hd acc'' (by rw [List.length_cons, show n + (ds.length + 1) = n + 1 + ds.length by omega]; exact h))
    have q := hs 0 d acc rfl (by simpa using h0)
    exact q.2 _ _ (fun r h => ⟨q.1, go _ (by simpa using h)⟩) (fun h => go _ (by simpa using h))
theorem lcP_f {pg : PGt} {pt : PTs'} {pe : PX} {env : List SV} {k : List D → Prop} (f : D → Option D) : ∀ (ds : List D) {acc : List D}, acc.length + ds.length ≤ 100000 →
    (∀ d ∈ ds, ∀ (A : D → Prop) (B : Prop), (∀ r, f d = some r → A r) → (f d = none → B) → pg d env fun env1 => pt env1 fun b => if b = true then pe env1 A else B) →
    k (acc ++ ds.filterMap f) → lcP pg pt pe env ds acc k
  | [], acc, _, _, hk => by unfold lcP; simpa using hk
  | d :: ds, acc, hl, hs, hk => by
    unfold lcP
    have hl' : acc.length + (ds.length + 1) ≤ 100000 := by simpa using hl
    refine hs d List.mem_cons_self _ _ (fun r hr => ⟨by omega, ?_⟩) (fun hr => ?_)
    · refine lcP_f f ds (by rw [List.length_append, List.length_singleton]; omega) (fun d' h => hs d' (List.mem_cons_of_mem _ h)) ?_
      rw [List.filterMap_cons, hr] at hk
      simpa using hk
    · refine lcP_f f ds (by omega) (fun d' h => hs d' (List.mem_cons_of_mem _ h)) ?_
      rw [List.filterMap_cons, hr] at hk
      exact hk
/-- each item by a function -/
theorem lcP_m {α : Type} {pg : PGt} {pt : PTs'} {pe : PX} {env : List SV} {k : List D → Prop} (e : α → D) (f : α → D) (xs : List α) (hl : xs.length ≤ 100000)
    (hs : ∀ x ∈ xs, ∀ (A : D → Prop) (B : Prop), A (f x) → pg (e x) env fun env1 => pt env1 fun b => if b = true then pe env1 A else B) (hk : k (xs.map f)) : lcP pg pt pe env (xs.map e) [] k := by
  have go : ∀ (xs : List α) (acc : List D), acc.length + xs.length ≤ 100000 → (∀ x ∈ xs, ∀ (A : D → Prop) (B : Prop), A (f x) → pg (e x) env fun env1 => pt env1 fun b => if b = true then pe env1 A else B) → k (acc ++ xs.map f) → lcP pg pt pe env (xs.map e) acc k := by
    intro xs
    induction xs with
    | nil => intro acc _ _ hk; simp only [List.map_nil, lcP]; simpa using hk
    | cons x xs ih =>
      intro acc hl hs hk
      rw [List.map_cons]
      unfold lcP
      have hl' : acc.length + (xs.length + 1) ≤ 100000 := by simpa using hl
      refine hs x List.mem_cons_self _ _ ⟨by omega, ih _ (by rw [List.length_append, List.length_singleton]; omega) (fun y h => hs y (List.mem_cons_of_mem _ h)) (by simpa using hk)⟩
  exact go xs [] (by simpa using hl) hs (by simpa using hk)
/-- some of the items -/
theorem lcP_flt {α : Type} {pg : PGt} {pt : PTs'} {pe : PX} {env : List SV} {k : List D → Prop} (e : α → D) (c : α → Bool) (f : α → D) (xs : List α) (hl : xs.length ≤ 100000)
    (hs : ∀ x ∈ xs, ∀ (A : D → Prop) (B : Prop), (c x = true → A (f x)) → (c x = false → B) → pg (e x) env fun env1 => pt env1 fun b => if b = true then pe env1 A else B) (hk : k ((xs.filter c).map f)) : lcP pg pt pe env (xs.map e) [] k := by
  have go : ∀ (xs : List α) (acc : List D), acc.length + xs.length ≤ 100000 → (∀ x ∈ xs, ∀ (A : D → Prop) (B : Prop), (c x = true → A (f x)) → (c x = false → B) → pg (e x) env fun env1 => pt env1 fun b => if b = true then pe env1 A else B) → k (acc ++ (xs.filter c).map f) → lcP pg pt pe env (xs.map e) acc k := by
    intro xs
    induction xs with
    | nil => intro acc _ _ hk; simp only [List.map_nil, lcP]; simpa using hk
    | cons x xs ih =>
      intro acc hl hs hk
      rw [List.map_cons]
      unfold lcP
      have hl' : acc.length + (xs.length + 1) ≤ 100000 := by simpa using hl
      refine hs x List.mem_cons_self _ _ (fun hc => ⟨by omega, ih _ (by rw [List.length_append, List.length_singleton]; omega) (fun y h => hs y (List.mem_cons_of_mem _ h)) ?_⟩) (fun hc => ih _ (by omega) (fun y h => hs y (List.mem_cons_of_mem _ h)) ?_)
      · rw [List.filter_cons_of_pos hc] at hk; simpa using hk
      · rw [List.filter_cons_of_neg (by rw [hc]; exact Bool.false_ne_true)] at hk; exact hk
  exact go xs [] (by simpa using hl) hs (by simpa using hk)
theorem lcP_ma {α : Type} {pg : PGt} {pt : PTs'} {pe : PX} {env : List SV} {k : List D → Prop} (e : α → D) (f : α → D) : ∀ (xs : List α) (acc : List D), acc.length + xs.length ≤ 100000 →
    (∀ x ∈ xs, ∀ (A : D → Prop) (B : Prop), A (f x) → pg (e x) env fun env1 => pt env1 fun b => if b = true then pe env1 A else B) → k (acc ++ xs.map f) → lcP pg pt pe env (xs.map e) acc k
  | [], acc, _, _, hk => by simp only [List.map_nil, lcP]; simpa using hk
  | x :: xs, acc, hl, hs, hk => by
    rw [List.map_cons]
    unfold lcP
    have hl' : acc.length + (xs.length + 1) ≤ 100000 := by simpa using hl
    exact hs x List.mem_cons_self _ _ ⟨by omega, lcP_ma e f xs _ (by rw [List.length_append, List.length_singleton]; omega) (fun y h => hs y (List.mem_cons_of_mem _ h)) (by simpa using hk)⟩
theorem lcP2_m {α β : Type} {vs1 : List Nat} {pg : PGt} {pt : PTs'} {pi1 : PIt} {pg1 : PGt} {pt1 : PTs'} {pe : PX} {env : List SV} {k : List D → Prop} (e : α → D) (ys : List β) (f : α → β → D) (xs : List α) (hl : xs.length * ys.length ≤ 100000)
    (hs : ∀ x ∈ xs, ∀ (acc : List D) (A : List D → Prop) (B : Prop), acc.length + ys.length ≤ 100000 → A (acc ++ ys.map (f x)) → pg (e x) env fun env1 => pt env1 fun b => if b = true then pi1 env1 fun ds1 => noOwn env1 vs1 ∧ lcP pg1 pt1 pe (wipeE env1 vs1) ds1 acc A else B)
    (hk : k (xs.flatMap fun x => ys.map (f x))) : lcP2 vs1 pg pt pi1 pg1 pt1 pe env (xs.map e) [] k := by
  have go : ∀ (xs : List α) (acc : List D), acc.length + xs.length * ys.length ≤ 100000 → (∀ x ∈ xs, ∀ (acc : List D) (A : List D → Prop) (B : Prop), acc.length + ys.length ≤ 100000 → A (acc ++ ys.map (f x)) → pg (e x) env fun env1 => pt env1 fun b => if b = true then pi1 env1 fun ds1 => noOwn env1 vs1 ∧ lcP pg1 pt1 pe (wipeE env1 vs1) ds1 acc A else B) →
      k (acc ++ xs.flatMap fun x => ys.map (f x)) → lcP2 vs1 pg pt pi1 pg1 pt1 pe env (xs.map e) acc k := by
    intro xs
    induction xs with
    | nil => intro acc _ _ hk; simp only [List.map_nil, lcP2]; simpa using hk
    | cons x xs ih =>
      intro acc hl hs hk
      rw [List.map_cons]
      unfold lcP2
      have hl' : acc.length + (xs.length * ys.length + ys.length) ≤ 100000 := by rw [List.length_cons, Nat.succ_mul] at hl; exact hl
      refine hs x List.mem_cons_self acc _ _ (by omega) (ih _ (by rw [List.length_append, List.length_map]; omega) (fun y h => hs y (List.mem_cons_of_mem _ h)) ?_)
      rw [List.flatMap_cons] at hk
      rw [List.append_assoc]
      exact hk
  exact go xs [] (by simpa using hl) hs (by simpa using hk)
theorem eLc_i {vs : List Nat} {pi : PIt} {pg : PGt} {pt : PTs'} {pe : PX} {env : List SV} {k : D → Prop} (h : pi env fun ds => noOwn env vs ∧ lcP pg pt pe (wipeE env vs) ds [] fun r => k (.lst r)) : eLc vs pi pg pt pe env k := h
theorem eLc2_i {vs vs1 : List Nat} {pi : PIt} {pg : PGt} {pt : PTs'} {pi1 : PIt} {pg1 : PGt} {pt1 : PTs'} {pe : PX} {env : List SV} {k : D → Prop} (h : pi env fun ds => noOwn env vs ∧ lcP2 vs1 pg pt pi1 pg1 pt1 pe (wipeE env vs) ds [] fun r => k (.lst r)) : eLc2 vs vs1 pi pg pt pi1 pg1 pt1 pe env k := h
theorem maxI_snoc {xs : List Int} {x : Int} (h : xs ≠ []) : maxI (xs ++ [x]) = max (maxI xs) x := by
  symm
  apply maxI_eq
  · rcases Int.le_total (maxI xs) x with q | q
    · rw [Int.max_eq_right q]; simp
    · rw [Int.max_eq_left q]; exact List.mem_append_left _ (maxI_mem h)
  · intro y hy
    rcases List.mem_append.mp hy with q | q
    · exact Int.le_trans (maxI_le q) (Int.le_max_left ..)
    · rw [List.mem_singleton.mp q]; exact Int.le_max_right ..
theorem minI_snoc {xs : List Int} {x : Int} (h : xs ≠ []) : minI (xs ++ [x]) = min (minI xs) x := by
  symm
  apply minI_eq
  · rcases Int.le_total (minI xs) x with q | q
    · rw [Int.min_eq_left q]; exact List.mem_append_left _ (minI_mem h)
    · rw [Int.min_eq_right q]; simp
  · intro y hy
    rcases List.mem_append.mp hy with q | q
    · exact Int.le_trans (Int.min_le_left ..) (minI_le q)
    · rw [List.mem_singleton.mp q]; exact Int.min_le_right ..
theorem maxI_congr {xs ys : List Int} (h : ∀ x, x ∈ xs ↔ x ∈ ys) : maxI xs = maxI ys := by
  by_cases hx : xs = []
  · subst hx
    cases ys with
    | nil => rfl
    | cons y r => exact absurd ((h y).mpr List.mem_cons_self) (by simp)
  · exact maxI_eq ((h _).mp (maxI_mem hx)) fun y hy => maxI_le ((h y).mpr hy)
theorem minI_congr {xs ys : List Int} (h : ∀ x, x ∈ xs ↔ x ∈ ys) : minI xs = minI ys := by
  by_cases hx : xs = []
  · subst hx
    cases ys with
    | nil => rfl
    | cons y r => exact absurd ((h y).mpr List.mem_cons_self) (by simp)
  · exact minI_eq ((h _).mp (minI_mem hx)) fun y hy => minI_le ((h y).mpr hy)
end Pu

namespace Pu
open PySem PySem.Spec PyProof.Rows L2
variable [Tbs]
/-! ### defs whose last parameters have the default None -/
section
variable {P : Program} {w : World} {K : PySem.W.Frag} {mg : Str → Option Value} {base : Heap} {x qual : Str} {st : Stmt} {f : Addr} {fd : FuncData} {N ps : List Str} {k : Nat} {fr : Bool} {p : PSt} {dvs : List V}
abbrev FunN (K : PySem.W.Frag) (x qual : Str) (st : Stmt) (f : Addr) (fd : FuncData) : Prop := FunD K x qual (defArgs st) (defBody st) (defScope st) [.non] [] f fd
theorem fn_okD (F : FunD K x qual (defArgs st) (defBody st) (defScope st) dvs [] f fd) (S : FnScope N ps (defScope st))
    (hb : ∀ (cdv : Value) (A : Around) (outer : List Env) (s : Shared) (H : Hp) (E : XK), Room k (A.deeper (envOfC qual (defScope st) s.heap.objs.size f cdv)) → B fr (cxOf CX0 P w K mg base N qual (defScope st) f cdv A outer s H E).nox (defBody st) p) :
    FnOk P w K mg base CX0 (k + 1) f fd ps (Sf fr ps.length (wpOf fr N.length p)) := by
  refine F.ok S (fun vs H Q E h => ?_) (fun cdv A outer s H vs Q E hr h => ?_)
  · obtain ⟨z, X, ds, kk, hl, _⟩ := h
    exact hl
  · obtain ⟨z, X, ds, kk, hl, hz, hx, hA, hw, c⟩ := h
    obtain ⟨t, b1, b2⟩ := hb cdv A outer s H E hr
    refine ⟨t, b1.nox, b2 z X H H (L2.start N vs) _ _ { nx := fun _ => fr = false ∧ kk .non, rt := kk } (start_ok hz hx hA) ⟨fun env' σ' H' o' f' hk => ?_, fun d v H' e r fq hk => ?_, fun _ _ _ _ _ hk => hk.elim, fun _ _ _ _ _ hk => hk.elim, fun _ _ _ _ _ _ _ h => h.elim⟩ hw⟩
    · exact c .non .non H' o'.evo .non (fun q => by rw [hk.1] at q; cases q) hk.2
    · exact c d v H' e r fq hk
theorem fun_mkN {oc : Value} {od an : Option Addr} {osl : Array (Option Value)} {kV doc pm cdv ct : Value} {T : Addr} {oc2 : Value} {od2 : Option Addr} {m2 : Nat} {osl2 : Array (Option Value)}
    (l : K.lookup f = some ⟨oc, od, .func (PySem.W.fnOf x qual (defArgs st) (defBody st) (defScope st) (.ref T) kV doc pm an cdv ct), osl⟩)
    (c : PySem.W.codeIn K cdv qual = true) (k : PySem.W.keepIn K (.ref f) = true) (lT : K.lookup T = some ⟨oc2, od2, .seq [Value.none].toArray m2, osl2⟩) :
    FunN K x qual st f (PySem.W.fnOf x qual (defArgs st) (defBody st) (defScope st) (.ref T) kV doc pm an cdv ct) :=
  ⟨⟨oc, od, _, kV, doc, pm, an, cdv, ct, osl, rfl, l, c, .inr ⟨List.cons_ne_nil _ _, T, _, [Value.none], m2, rfl, lT, rfl, .cons rfl .nil⟩, .inl rfl⟩, k⟩
end
section
variable {C : Cx} {e : Expr} {es : List Expr} {p : PX} {ga : PAs} {m mo : Mode} {fr : Bool} {k n : Nat} {pos pp : Pos} {x : Str} {f : Addr} {fd : FuncData} {ps : List Str} {wp : List D → (D → Prop) → Prop}
theorem isa_non {z : Zn} {M : AP} {H : Hp} : IsA z M H [V.non] [D.non] := .cons .non .nil
theorem re_callD {t : TA} (h : RA true t ga) (E' : XK) (hm : mo = .e ∨ (mo = .f ∧ fr = true)) : RE mo (tCall (Sf fr (n + 1) wp) [.non] E' t) (eCall (fun ds k => ds.length = n ∧ wp (ds ++ [.non]) k) ga) := fun z X H0 H σ env Q k o c hp => by
  refine h z X H0 H σ env _ _ o (fun ds vs H1 e1 r1 hx => ?_) hp
  have o1 := o.go e1
  rw [if_pos rfl] at r1
  refine ⟨z, Ox X σ env, ds ++ [.non], k, by rw [List.length_append, r1.length, hx.1]; rfl, ⟨o1.zal, o1.tab⟩, fun a => o1.ox, (r1.weak fun a q => zx_ox.mp q).append isa_non, hx.2, fun d v H2 e2 r2 fq kd => ?_⟩
  refine c d v H2 (e1.trans e2) ?_ kd
  rcases hm with rfl | ⟨rfl, hf⟩
  · exact Is.weak (fun a q => zx_ox.mpr q) r2
  · obtain ⟨a, ev, ha, hc⟩ := fq hf
    refine ⟨a, ev, e1.fresh ha, hc.gen (fun _ q => q) (fun b u q n => ⟨q, fun y => n ?_⟩) fun _ h => h⟩
    rcases y with y | (y | y) | y
    · exact .inl y
    · exact .inr (.inl (.inl y))
    · exact .inr (.inr y)
    · exact .inr (.inl (.inr y))
theorem re_callBD {t : TA} (h : RA false t ga) (E' : XK) : RE .b (tCall (Sf fr (n + 1) wp) [.non] E' t) (eCall (fun ds k => ds.length = n ∧ wp (ds ++ [.non]) k) ga) := fun z X H0 H σ env Q k o c hp => by
  refine h z X H0 H σ env _ _ o (fun ds vs H1 e1 r1 hx => ?_) hp
  have o1 := o.go e1
  rw [if_neg Bool.false_ne_true] at r1
  exact ⟨z, X, ds ++ [.non], k, by rw [List.length_append, r1.length, hx.1]; rfl, ⟨o1.zal, o1.tab⟩, o1.xal, r1.append isa_non, hx.2, fun d v H2 e2 r2 fq kd => c d v H2 (e1.trans e2) r2 kd⟩
theorem e_callD (F : FnOk C.prog C.w C.K C.mg C.base CX0 k f fd ps (Sf fr (n + 1) wp)) (hr : Room k C.A) (hg : Gl C x) (hm : C.mg x = some (.ref f)) (hk : PySem.W.keepIn C.K (.ref f) = true) (hb : Binds C.K fd ps [.none])
    (ha : A true C (e :: es) ga) (hmo : mo = .e ∨ (mo = .f ∧ fr = true)) (hdb : (x == ("__debug__" : Str)) = false := by decide) (he : starEach (e :: es) C.env = (false, eval e C.env) :: starEach es C.env := by rfl) (hpl : (backTo pos (starEach es C.env)).any (·.1) = false := by rfl) :
    E mo C (.Call (.Name x pp) (e :: es) [] pos) (eCall (fun ds k => ds.length = n ∧ wp (ds ++ [.non]) k) ga) := by
  obtain ⟨t, h1, h2⟩ := ha
  exact ⟨_, pe_call (dvs := [.non]) F hr hg hm hk hb (.cons rfl .nil) pass0 h1 hdb he hpl, re_callD h2 E0 hmo⟩
theorem e_callLD (F : FnOk C.prog C.w C.K C.mg C.base CX0 k f fd ps (Sf fr (n + 1) wp)) (hr : Room k C.A) (hg : Gl C x) (hm : C.mg x = some (.ref f)) (hk : PySem.W.keepIn C.K (.ref f) = true) (hb : Binds C.K fd ps [.none])
    (ha : A false C (e :: es) ga) (hdb : (x == ("__debug__" : Str)) = false := by decide) (he : starEach (e :: es) C.env = (false, eval e C.env) :: starEach es C.env := by rfl) (hpl : (backTo pos (starEach es C.env)).any (·.1) = false := by rfl) :
    E .b C (.Call (.Name x pp) (e :: es) [] pos) (eCall (fun ds k => ds.length = n ∧ wp (ds ++ [.non]) k) ga) := by
  obtain ⟨t, h1, h2⟩ := ha
  exact ⟨_, pe_call (dvs := [.non]) F hr hg hm hk hb (.cons rfl .nil) pass0 h1 hdb he hpl, re_callBD h2 E0⟩
end
/-- the two ways to bind: all given, all but the last -/
theorem vals_none {ds : List Value} (h : Vals [V.non] ds) : ds = [.none] := by
  cases h with
  | cons a b =>
    cases b
    exact congrArg (fun x => [x]) a
theorem vals_nil {ds : List Value} (h : Vals [] ds) : ds = [] := by cases h; rfl
theorem bindsN1 {K : PySem.W.Frag} {x qual : Str} {st : Stmt} {f : Addr} {fd : FuncData} {ps : List Str} (F : FunN K x qual st f fd) (n : Nat) (hn : n + 1 = ps.length)
    (h : ∀ (T : Addr) (kV doc pm : Value) (an : Option Addr) (cdv ct : Value) (us its : List Value), us.length = n → its.length = 1 →
      ∃ k, bindArgs (PySem.W.fnOf x qual (defArgs st) (defBody st) (defScope st) (.ref T) kV doc pm an cdv ct) ⟨us, []⟩ = seqItems? (.ref T) >>= k ∧ k (some its.toArray) = pure (ps.zip (us ++ its.drop 0))) : Binds K fd ps [.none] := by
  obtain ⟨ds, v, b⟩ := FunD.binds1 F n 0 (List.cons_ne_nil _ _) hn h
  rw [vals_none v] at b
  exact b
theorem bindsN0 {K : PySem.W.Frag} {x qual : Str} {st : Stmt} {f : Addr} {fd : FuncData} {ps : List Str} (F : FunN K x qual st f fd) (n : Nat) (hn : n + 0 = ps.length)
    (h : ∀ (T : Addr) (kV doc pm : Value) (an : Option Addr) (cdv ct : Value) (us its : List Value), us.length = n → its.length = 1 →
      ∃ k, bindArgs (PySem.W.fnOf x qual (defArgs st) (defBody st) (defScope st) (.ref T) kV doc pm an cdv ct) ⟨us, []⟩ = seqItems? (.ref T) >>= k ∧ k (some its.toArray) = pure (ps.zip (us ++ its.drop 1))) : Binds K fd ps [] := by
  obtain ⟨ds, v, b⟩ := FunD.binds1 F n 1 (List.cons_ne_nil _ _) hn h
  rw [vals_nil v] at b
  exact b
end Pu

namespace Pu
open PySem PySem.Spec PyProof.Rows L2
variable [Tbs]
/-! ### repr of nested tuples and lists, where nothing is being shown yet -/
def rRepr (K : PySem.W.Frag) : List V → Hp → VK → Prop := fun xs H Q => ∃ (a : Addr) (d : PyData), xs = [.ref a] ∧ Dp K H (.ref a) d ∧ d.hasDict = false ∧ d.showable = true ∧ d.depth ≤ 61 ∧ d.shown.length ≤ sizeLine ∧ Q (.str d.shown) H
theorem cr_repr {X : Cx} (hg : X.A.guards = some []) (hu : X.A.units + 65 < cLine) : CallR X (.builtin "repr") (rRepr X.K) := by
  intro pins s σ H xs us Q I r h
  obtain ⟨a, d, rfl, hd, h1, h2, h3, h4, q⟩ := h
  rw [Vals.ref1 r]
  obtain ⟨as, rd⟩ := Dp.reads I d (.ref a) (.ref a) hd rfl
  exact repr_of_reads' rd h2 (fun w => absurd (h1.symm.trans w) Bool.false_ne_true) hg (by omega) (fun _ _ e => e) (fun h' u tk hk => ⟨.str d.shown, H, I.kept hk, ⟨u, rfl⟩, q⟩) h4
/-- a tuple or a list, plain, of small numbers -/
def sqD : D → Bool
  | .tup _ => true
  | .lst _ => true
  | _ => false
def repD (d : D) : Str := (pd d).shown
structure Shows (d : D) : Prop where
  sq : sqD d = true
  shp : shp 60 d = true
  ok : (pd d).showable = true
  fit : (pd d).shown.length ≤ sizeLine
def gRepr : List D → (D → Prop) → Prop := fun ds k => ∃ d, ds = [d] ∧ Shows d ∧ k (.str (repD d))
theorem cd_repr {l : Bool} {K : PySem.W.Frag} : CallD l .e (rRepr K) gRepr := fun z X H0 H σ env vs ds Q k o h c hp => by
  obtain ⟨d, rfl, hs, hk⟩ := hp
  cases h with
  | cons q t =>
    cases t
    have lay := shp_lay 60 d hs.shp
    have dp := Is.dp (K := K) q hs.shp
    have fin := c _ (.str (repD d)) H (Evo.refl _ _) (Is.str _) hk
    cases q with
    | tup e n r => exact ⟨_, _, rfl, dp, PyData.hasDict_of_canLay _ lay.1, hs.ok, lay.2, hs.fit, fin⟩
    | lst e n r => exact ⟨_, _, rfl, dp, PyData.hasDict_of_canLay _ lay.1, hs.ok, lay.2, hs.fit, fin⟩
    | _ => exact absurd hs.sq Bool.false_ne_true
theorem gRepr_i {d : D} {k : D → Prop} (hs : Shows d) (h : k (.str (repD d))) : gRepr [d] k := ⟨d, rfl, hs, h⟩
/-- texts compared -/
def dNeS : D → D → (D → Prop) → Prop := fun x y k => match x, y with
  | .str a, .str b => k (.bl (!decide (a = b)))
  | _, _ => False
theorem opd_neS : OpD .b .e rNe dNeS := fun z X H0 H σ env v u x y Q k o r1 r2 c hp => by
  cases x with
  | str a =>
    cases y with
    | str b =>
      cases (show Is z _ H v (.str a) from r1)
      cases (show Is z _ H u (.str b) from r2)
      refine ⟨rfl, ?_⟩
      have e : decide (V.str a = V.str b) = decide (a = b) := by
        rw [Bool.eq_iff_iff]
        simp
      rw [e]
      exact c _ _ H (Evo.refl _ _) (Is.bl _) hp
    | _ => exact (show False from hp).elim
  | _ => exact (show False from hp).elim
theorem dNeS_i {a b : Str} {k : D → Prop} (h : k (.bl (!decide (a = b)))) : dNeS (.str a) (.str b) k := h
/-! ### which things are shown -/
theorem w_int {i : Int} (h : i.natAbs < 10 ^ 12) : (PyData.int i).weight ≤ 40 := by
  unfold PyData.weight
  split
  · exact Nat.zero_le _
  · rename_i q
    have h0 : i.natAbs ≠ 0 := fun w => q (by rw [Int.natAbs_eq_zero.mp w]; rfl)
    have := (Nat.log2_lt h0).mpr (Nat.lt_trans h (by decide : 10 ^ 12 < 2 ^ 40))
    omega
theorem l_int {i : Int} (h : i.natAbs < 10 ^ 12) : i.natAbs.log2 < 1920 := by
  by_cases h0 : i.natAbs = 0
  · rw [h0]; decide
  · have := (Nat.log2_lt h0).mpr (Nat.lt_trans h (by decide : 10 ^ 12 < 2 ^ 40))
    omega
theorem fits {d : D} (hl : (pd d).leavesShort 13 = true) (hw : (pd d).weight ≤ 2 ^ 20) : (pd d).shown.length ≤ sizeLine := PyData.shown_fits (by decide) (by decide) hl hw
theorem ints_all : ∀ ns : List Int, (∀ n ∈ ns, n.natAbs < 10 ^ 12) → PyData.showableAll (pdA (ns.map D.int)) = true ∧ PyData.leavesShortAll 13 (pdA (ns.map D.int)) = true ∧ PyData.weightAll (pdA (ns.map D.int)) ≤ 41 * ns.length
  | [], _ => ⟨rfl, rfl, Nat.le_refl _⟩
  | n :: ns, h => by
    obtain ⟨a, b, c⟩ := ints_all ns fun m hm => h m (List.mem_cons_of_mem _ hm)
    have hn := h n List.mem_cons_self
    refine ⟨?_, ?_, ?_⟩
    · simp only [List.map_cons, pdA, pd, PyData.showableAll, PyData.showable, a, l_int hn, decide_true, Bool.and_self]
    · simp only [List.map_cons, pdA, pd, PyData.leavesShortAll, PyData.leavesShort, b, PyData.shown_int_le hn, decide_true, Bool.and_self]
    · have := w_int hn
      simp only [List.map_cons, pdA, pd, PyData.weightAll, List.length_cons]
      omega
theorem shp_ints (n : Nat) : ∀ ns : List Int, shpA n (ns.map D.int) = true
  | [] => by simp [shpA]
  | m :: ns => by simp only [List.map_cons, shpA, shp, shp_ints n ns, Bool.and_self]
theorem shows_ints {ns : List Int} (hl : ns.length ≤ 1000) (h : ∀ n ∈ ns, n.natAbs < 10 ^ 12) : Shows (.tup (ns.map D.int)) := by
  obtain ⟨a, b, c⟩ := ints_all ns h
  refine ⟨rfl, ?_, ?_, fits ?_ ?_⟩
  · simp only [shp]
    exact shp_ints 59 ns
  · simp only [pd, PyData.showable]
    exact a
  · simp only [pd, PyData.leavesShort]
    exact b
  · simp only [pd, PyData.weight]
    omega
theorem pairs_all : ∀ ns : List (Int × Int), (∀ n ∈ ns, n.1.natAbs < 10 ^ 12 ∧ n.2.natAbs < 10 ^ 12) → PyData.showableAll (pdA (ns.map fun r => D.tup [.int r.1, .int r.2])) = true ∧ PyData.leavesShortAll 13 (pdA (ns.map fun r => D.tup [.int r.1, .int r.2])) = true ∧ PyData.weightAll (pdA (ns.map fun r => D.tup [.int r.1, .int r.2])) ≤ 90 * ns.length
  | [], _ => ⟨rfl, rfl, Nat.le_refl _⟩
  | n :: ns, h => by
    obtain ⟨a, b, c⟩ := pairs_all ns fun m hm => h m (List.mem_cons_of_mem _ hm)
    obtain ⟨h1, h2⟩ := h n List.mem_cons_self
    refine ⟨?_, ?_, ?_⟩
    · simp only [List.map_cons, pdA, pd, PyData.showableAll, PyData.showable, a, l_int h1, l_int h2, decide_true, Bool.and_self]
    · simp only [List.map_cons, pdA, pd, PyData.leavesShortAll, PyData.leavesShort, b, PyData.shown_int_le h1, PyData.shown_int_le h2, decide_true, Bool.and_self]
    · have := w_int h1
      have := w_int h2
      simp only [List.map_cons, pdA, pd, PyData.weightAll, PyData.weight, List.length_cons] at *
      omega
theorem shp_pairs (n : Nat) : ∀ ns : List (Int × Int), shpA (n + 1) (ns.map fun r => D.tup [.int r.1, .int r.2]) = true
  | [] => by simp [shpA]
  | m :: ns => by simp only [List.map_cons, shpA, shp, shp_pairs n ns, Bool.and_self]
theorem shows_pairs {ns : List (Int × Int)} (hl : ns.length ≤ 1000) (h : ∀ n ∈ ns, n.1.natAbs < 10 ^ 12 ∧ n.2.natAbs < 10 ^ 12) : Shows (.tup (ns.map fun r => D.tup [.int r.1, .int r.2])) := by
  obtain ⟨a, b, c⟩ := pairs_all ns h
  refine ⟨rfl, ?_, ?_, fits ?_ ?_⟩
  · simp only [shp]
    exact shp_pairs 58 ns
  · simp only [pd, PyData.showable]
    exact a
  · simp only [pd, PyData.leavesShort]
    exact b
  · simp only [pd, PyData.weight]
    omega
end Pu

namespace Pu
open PySem PySem.Spec PyProof.Rows L2
/-! ### the law run from its one caller: nothing is being shown there -/
section
variable {P : Program} {w : World} {K : PySem.W.Frag} {mg : Str → Option Value} {base : Heap} {k : Nat} {f : Addr} {nm qual : Str} {pa : Arguments} {bd : List Stmt} {sc : Scope} {dV kV doc pm cdv ct oc : Value} {an od : Option Addr} {osl : Array (Option Value)} {N ps : List Str}
/-- one run of a def at a known around -/
theorem run_at (kf : K.lookup f = some ⟨oc, od, .func (PySem.W.fnOf nm qual pa bd sc dV kV doc pm an cdv ct), osl⟩) (kc : PySem.W.codeIn K cdv qual = true) (S : FnScope N ps sc) {A : Around} {outer : List Env} {s : Shared} {H : Hp} {args : Args} {us : List Value} {vs : List V} {Q : VK} {E : XK}
    (room : Room (k + 1) A) (at0 : Env0 P w K mg base A outer s H) (bnd : BindsTo s (PySem.W.fnOf nm qual pa bd sc dV kV doc pm an cdv ct) args (ps.zip us)) (rel : Vals vs us) (cnt : vs.length = ps.length) {t : TS}
    (ht : PSs (cxOf CX0 P w K mg base N qual sc f cdv A outer s H E) bd t) (hq : t { nx := fun _ H' => Q .non H', rt := Q } (L2.start N vs) H) : codeAny (model P w) A (.call (.ref f) args) (CR CX0 outer P w H s Q E) s := by
  have old := fun b o e => (at0.bs b o e).1
  have kin : K.In s.heap := at0.mod.kin.keeps old
  refine codeAny_call_function room.depth (kin _ _ kf) rfl S.co S.gen rfl (PySem.W.codeRec_of kin kc) (bnd _ _ _ _ (wpAny_newFunctionEnv_cells S.kind ?kinds ?go))
  case kinds =>
    rintro ⟨n, v⟩ hy
    cases S.par n (List.of_mem_zip hy).1 with
    | inl q => exact Or.inl q
    | inr q => exact Or.inr ⟨q, PySem.W.cellsFrom_some _ _ _ (Or.inl q)⟩
  case go =>
    rintro env rfl s1 x
    refine ⟨(at0.mod.nolimit.keeps old).keeps x.toInCall.keep, codeAny_func (wpAny_mono (ht.run [] s1 (L2.start N vs) H _ (inv_start S room.hd at0 cnt rel x) hq) ?ok fun _ _ z => z)⟩
    intro fl s' z
    cases fl with
    | ret u => exact let ⟨v, _, H', J, rv, q⟩ := z; ⟨v, H', J.os, J.bare, J.base, J.hok, rv, q⟩
    | next => exact let ⟨_, H', J, q⟩ := z; ⟨V.non, H', J.os, J.bare, J.base, J.hok, rfl, q⟩
    | brk => exact let ⟨_, _, _, q⟩ := z; q.elim
    | cont => exact let ⟨_, _, _, q⟩ := z; q.elim
end
section
variable {P : Program} {w : World} {K : PySem.W.Frag} {mg mb : Str → Option Value} {fa a : Addr} {s : Shared} {vs : List Value} {ns : List Int}
/-- the one thing that is tracked at first: the script, unless it is the module's own -/
def scriptH (K : PySem.W.Frag) (a : Addr) (vs : List Value) (ns : List Int) : Hp := fun b => if b = a ∧ K.lookup a = none then some (.frz { cls := .type "list", data := .seq vs.toArray } (.lst (ns.map V.int))) else none
theorem scriptH_only : Only (scriptH K a vs ns) := fun b => by
  unfold scriptH
  split
  · exact Or.inr ⟨_, _, rfl⟩
  · exact Or.inl rfl
theorem scriptH_at {b : Addr} (h : scriptH K a vs ns b ≠ none) : b = a ∧ K.lookup a = none := by
  unfold scriptH at h
  split at h
  · assumption
  · exact absurd rfl h
theorem scriptH_none {b : Addr} (h : ¬ (b = a ∧ K.lookup a = none)) : scriptH K a vs ns b = none := if_neg h
theorem law_at (kin : K.In s.heap) (hns : s.heap.Ns mainGlobals mg) (hb : s.heap.Ns builtinsNs mb) (hbb : ∀ x : Str, x ≠ "__name__" → mb x = bootBuiltins x) (lim : s.heap.NoLimit) (hg : s.gens = #[])
    (ha : s.heap.get? a = some { cls := .type "list", data := .seq vs.toArray }) (hi : IntsAre vs ns) (hl : ns.length ≤ sizeLine)
    (go : ∀ (base : Heap) (H : Hp), Only H → SqL K H a (ns.map V.int) → Env0 P w K mg base callerA [] s H → codeAny (model P w) callerA (.call (.ref fa) ⟨[.ref a], []⟩) (CR CX0 [] P w H s (fun v _ => v = .bl true) E0) s) :
    codeAny (model P w) callerA (.call (.ref fa) ⟨[.ref a], []⟩) (fun r s' => r = .ok (.ret (.bool true)) ∧ OldK s.heap s'.heap ∧ s'.os = s.os ∧ AllBare s'.gens) s := by
  have rel := L2.vals_ints hi
  have len := hi.length
  have hok : HOk P w (scriptH K a vs ns) s.heap := by
    intro b u e
    obtain ⟨rfl, _⟩ := scriptH_at (K := K) (a := a) (vs := vs) (ns := ns) (b := b) (by rw [e]; exact fun z => by cases z)
    unfold scriptH at e
    split at e
    · cases e
      exact ⟨ha, by rw [List.length_map]; exact hl, vs, _, rel, ha⟩
    · cases e
  have sq : SqL K (scriptH K a vs ns) a (ns.map V.int) := by
    cases q : K.lookup a with
    | none => exact Or.inl (Or.inr ⟨{ cls := .type "list", data := .seq vs.toArray }, if_pos ⟨rfl, q⟩⟩)
    | some o =>
      have e := kin a o q
      rw [ha] at e
      cases e
      exact Or.inr ⟨_, vs.toArray, _, q, rfl, rfl, rfl, by rw [List.size_toArray, len]; exact hl, by simpa using rel⟩
  have stay : ∀ {b : Addr} {o : Obj}, s.heap.get? b = some o → (∀ h : b = a ∧ K.lookup a = none, False) → (hidT s.heap (scriptH K a vs ns)).get? b = some o := fun e n => hidT_get e (scriptH_none fun h => n h)
  have kinB : K.In (hidT s.heap (scriptH K a vs ns)) := fun b o e => stay (kin b o e) fun ⟨h1, h2⟩ => by
    rw [h1, h2] at e
    cases e
  have nsB : ∀ {b : Addr} {m : Str → Option Value}, s.heap.Ns b m → (hidT s.heap (scriptH K a vs ns)).Ns b m := by
    rintro b m ⟨o, es, ep, e, d, r⟩
    refine ⟨o, es, ep, stay e fun ⟨h1, _⟩ => ?_, d, r⟩
    subst h1
    rw [ha] at e
    cases e
    exact absurd (show Data.seq vs.toArray _ = Data.dict es ep from d) nofun
  have mod : Mod K mg (hidT s.heap (scriptH K a vs ns)) := ⟨kinB, nsB hns, ⟨mb, nsB hb, hbb⟩, by
    obtain ⟨mc, h1, h2⟩ := lim
    exact ⟨mc, nsB h1, h2⟩⟩
  have e0 : Env0 P w K mg (hidT s.heap (scriptH K a vs ns)) callerA [] s (scriptH K a vs ns) := ⟨rfl, mod, fun _ _ e => of_hidT e, Nat.le_of_eq (hidT_size _ _), trivial, nofun, hok, .of_eq hg⟩
  refine codeAny_mono (go _ _ scriptH_only sq e0) fun r s' z => ?_
  match r, z with
  | .error e, z => exact (show False from z).elim
  | .ok .next, z => exact (show False from z).elim
  | .ok .brk, z => exact (show False from z).elim
  | .ok .cont, z => exact (show False from z).elim
  | .ok (.ret u), ⟨v, H', os, bare, un, ok', rv, q⟩ =>
    have q' : v = .bl true := q
    subst q'
    cases (show u = Value.bool true from rv)
    refine ⟨rfl, OldK.of_keep fun b o e => ?_, os, bare⟩
    rcases scriptH_only (K := K) (a := a) (vs := vs) (ns := ns) b with n | ⟨ob, xs, y⟩
    · exact un.keep b o e n nofun nofun
    · have h1 := (hok b _ y).1
      have h2 := (ok' b _ (un.frzs b ob _ y)).1
      rw [e] at h1
      cases h1
      exact h2
end
theorem hu65 {A : Around} {k : Nat} (hr : Room k A) : A.units + 65 < cLine := by have := hr.un; omega
/-- the goal that k_head leaves, from runs at the caller's own around -/
theorem head_at {l : PySem.W.OpenLaw} {n : Nat} {q : Program} {loose : List Str} {XP : (Str → Option Value) → Heap → Prop} {YP : World → Heap → Prop} {d : DefRec} {K : Params → PySem.W.Frag} (hn : l.most = some n) (hn2 : n ≤ sizeLine) (hdf : d.params.defaults = []) (hY : ∀ (w : World) (h : Heap), YP w h → (K w.params).In h)
    (F : ∀ (w : World) (mg : Str → Option Value) (fa a : Addr) (s : Shared) (ns : List Int), (K w.params).In s.heap → s.heap.Ns mainGlobals mg → mg d.name = some (.ref fa) → ns.length ≤ n → ∀ (base : Heap) (H : Hp), SqL (K w.params) H a (ns.map V.int) → Env0 l.prog w (K w.params) mg base callerA [] s H →
      codeAny (model l.prog w) callerA (.call (.ref fa) ⟨[.ref a], []⟩) (CR CX0 [] l.prog w H s (fun v _ => v = .bl true) E0) s) :
    PySem.W.WalkO q loose XP YP l.row.toRowW d [] (fun f vs => PySem.call f vs) := by
  refine Att.attach_call hn hdf fun w s₀ s₁ mg mb fa o pm cd doc a vs ns G Y _ _ _ hmg hobj hints hlen hg => ?_
  exact law_at (hY w _ Y) G.T.g G.T.b G.T.builtins G.T.nolimit hg hobj hints (Nat.le_trans hlen hn2) fun base H _ hS e0 => F w mg fa a s₁ ns (hY w _ Y) G.T.g hmg hlen base H hS e0
end Pu

namespace Pu
open PySem PySem.Spec PyProof.Rows L2
variable [Tbs]
/-! zip of a tuple and a list -/
def ItMx (K : PySem.W.Frag) (a b : Addr) : It where
  go := fun i H => ∃ (xs ys : List V) (x y : V), (SqT K H a xs ∧ SqL K H b ys) ∧ xs[i]? = some x ∧ ys[i]? = some y
  yld := fun i H v H' => ∃ T x y, v = .ref T ∧ H T = none ∧ H' = upd H T (.tup [x, y]) ∧ (∀ l, SqT K H a l → l[i]? = some x) ∧ ∀ l, SqL K H b l → l[i]? = some y
  stop := fun i H => ∃ xs ys : List V, (SqT K H a xs ∧ SqL K H b ys) ∧ i = min xs.length ys.length
def tnMx (z TI TO i1 i2 a b : Addr) (i : Nat) (h : Heap) : Prop :=
  (IsZip h z TI TO .none ∧ IsTupOf2 h TI (.ref i1) (.ref i2) ∧ ∃ x y, IsTupOf2 h TO x y) ∧ h.IsTupleIter i1 a i ∧ h.IsListIter i2 b i
theorem mem5 {c z TI TO i1 i2 : Addr} (h : c ∈ [z, TI, TO, i1, i2]) : c = z ∨ c = TI ∨ c = TO ∨ c = i1 ∨ c = i2 := by simpa using h
theorem out5 {c z TI TO i1 i2 : Addr} (h : c ∉ [z, TI, TO, i1, i2]) : c ≠ z ∧ c ≠ TI ∧ c ≠ TO ∧ c ≠ i1 ∧ c ≠ i2 := by simpa using h
theorem live5 {z TI TO i1 i2 a b : Addr} {i : Nat} {h : Heap} (st : tnMx z TI TO i1 i2 a b i h) {c : Addr} (hc : c ∈ [z, TI, TO, i1, i2]) : ∃ o, h.get? c = some o ∧ ∀ v, o.data ≠ .cell v := by
  obtain ⟨⟨hz, hTI, x, y, hTO⟩, ⟨o1, e1, q1, d1⟩, o2, e2, q2, d2⟩ := st
  rcases mem5 hc with rfl | rfl | rfl | rfl | rfl
  · exact ⟨_, hz, fun v q => nomatch q⟩
  · exact ⟨_, hTI, fun v q => nomatch q⟩
  · exact ⟨_, hTO, fun v q => nomatch q⟩
  · exact ⟨o1, e1, fun v q => by rw [d1] at q; cases q⟩
  · exact ⟨o2, e2, fun v q => by rw [d2] at q; cases q⟩
theorem turn_mx {P : Program} {w : World} {K : PySem.W.Frag} {elts : List Expr} {kk : Nat} {tpos : Pos} {a b z TI TO i1 i2 : Addr} (S : ZipSep2 z TI TO i1 i2 [i1, a] [i2, b]) :
    Turn P w K (.Tuple elts kk tpos) (ItMx K a b) [z, TI, TO, i1, i2] z (tnMx z TI TO i1 i2 a b) := by
  have nea : a ≠ i1 ∨ True := .inr trivial
  refine ⟨by simp, fun i h st c hc => live5 st hc, fun i h h' st k => ?_, ?_, ?_, fun A i s Q E st h => wpAny_pyIter_zip st.1.1 h⟩
  · obtain ⟨⟨hz, hTI, x, y, hTO⟩, h1, h2⟩ := st
    exact ⟨⟨k z (by simp) _ hz, k TI (by simp) _ hTI, x, y, k TO (by simp) _ hTO⟩, h1.at fun o q => k i1 (by simp) o q, h2.at fun o q => k i2 (by simp) o q⟩
  · intro X hP hw hK hc i pins s σ H E I hf st hg
    have lv : ∀ c, c ∈ [z, TI, TO, i1, i2] → c < s.heap.objs.size := fun c hcm => by
      obtain ⟨o, ho, _⟩ := live5 st hcm
      exact Heap.lt_size ho
    obtain ⟨⟨hz, hTI, x0, y0, hTO⟩, h1, h2⟩ := st
    obtain ⟨xs, ys, x, y, ⟨hqx, hqy⟩, hx, hy⟩ := hg
    subst hP hw hK
    obtain ⟨its, rv, p, _⟩ := I.tuple hqx
    obtain ⟨its2, rv2, p2, _⟩ := I.list hqy
    obtain ⟨u, hu, ru⟩ := rv.get hx
    obtain ⟨u2, hu2, ru2⟩ := rv2.get hy
    have na : a ≠ i1 := fun q => by
      obtain ⟨o, ho, hcl, _⟩ := id p
      obtain ⟨o1, ho1, hcl1, _⟩ := id h1
      rw [q, ho1] at ho
      cases ho
      rw [hcl] at hcl1
      injection hcl1 with e
      exact absurd e (by decide)
    have nb : b ≠ i2 := fun q => by
      obtain ⟨o, n, ho, hcl, _⟩ := id p2
      obtain ⟨o1, ho1, hcl1, _⟩ := id h2
      rw [q, ho1] at ho
      cases ho
      rw [hcl] at hcl1
      injection hcl1 with e
      exact absurd e (by decide)
    have hd : X.A.in1.handled = none := I.ok.hd hc
    refine wpAny_pyNext_zipD2_item S (Draws.tuple hd i1 a na its.toArray) (Draws.list hd i2 b nb its2.toArray) hz hTI hTO ⟨h1, p⟩ ⟨h2, p2.isList⟩ ?_ ?_ fun x1 x2 h' tk y1 y2 z' TO' d1 d2 hT hsz hk => ?_
    · obtain ⟨q, _⟩ := List.getElem?_eq_some_iff.mp hu
      simpa using q
    · obtain ⟨q, _⟩ := List.getElem?_eq_some_iff.mp hu2
      simpa using q
    · have e1 : x1 = u := by
        have q : its[i]? = some x1 := by simpa using y1
        rw [hu] at q
        cases q
        rfl
      have e2 : x2 = u2 := by
        have q : its2[i]? = some x2 := by simpa using y2
        rw [hu2] at q
        cases q
        rfl
      subst e1 e2
      have hzl := lv z (by simp)
      refine ⟨_, rfl, wpAny_letOwnedTupleGo_zip (s := { s with heap := h', toks := tk }) z' fun h'' z'' sb => ?_⟩
      have ob : h''.get? s.heap.objs.size = some { cls := .type "tuple", data := .seq #[x1, x2] } := (sb.2 _ (Nat.ne_of_gt hzl)).trans hT
      have J : Inv X pins σ (upd H s.heap.objs.size (.tup [x, y])) { s with heap := h'', toks := tk } := by
        refine I.turnedNew (ch := [z, TI, TO, i1, i2]) (fun c o hb q => ?_) hf (Nat.le_refl _) ⟨by show 2 ≤ sizeLine; decide, [x1, x2], .cons ru (.cons ru2 .nil), ⟨_, ob, rfl, _, rfl⟩⟩
        obtain ⟨n1, n2, n3, n4, n5⟩ := out5 hb
        exact (sb.2 c n1).trans (hk c o n1 n3 n4 n5 q)
      refine ⟨.ref s.heap.objs.size, _, J, rfl, ⟨_, x, y, rfl, I.hok.fresh (Nat.le_refl _), rfl, fun l hl => by rw [I.tuple_inj hl hqx]; exact hx, fun l hl => by rw [I.list_inj hl hqy]; exact hy⟩, ⟨⟨z'', ?_, x1, x2, ?_⟩, ?_, ?_⟩, fun c hcm => ?_⟩
      · exact (sb.2 _ S.TIz).trans (hk _ _ S.TIz S.TITO S.TIi1 S.TIi2 hTI)
      · exact (sb.2 _ S.TOz).trans TO'
      · exact d1.1.at fun o q => (sb.2 _ S.zi1.symm).trans q
      · exact d2.1.at fun o q => (sb.2 _ S.zi2.symm).trans q
      · rw [upd_ne (Nat.ne_of_lt (lv c hcm))]
        exact (hf c hcm).1
  · intro X hP hw hK hc i pins s σ H E I hf st hg
    obtain ⟨⟨hz, hTI, x0, y0, hTO⟩, h1, h2⟩ := st
    obtain ⟨xs, ys, ⟨hqx, hqy⟩, rfl⟩ := hg
    subst hP hw hK
    obtain ⟨its, rv, p, _⟩ := I.tuple hqx
    obtain ⟨its2, rv2, p2, _⟩ := I.list hqy
    have l1 := rv.length
    have l2 := rv2.length
    have na : a ≠ i1 := fun q => by
      obtain ⟨o, ho, hcl, _⟩ := id p
      obtain ⟨o1, ho1, hcl1, _⟩ := id h1
      rw [q, ho1] at ho
      cases ho
      rw [hcl] at hcl1
      injection hcl1 with e
      exact absurd e (by decide)
    have nb : b ≠ i2 := fun q => by
      obtain ⟨o, n, ho, hcl, _⟩ := id p2
      obtain ⟨o1, ho1, hcl1, _⟩ := id h2
      rw [q, ho1] at ho
      cases ho
      rw [hcl] at hcl1
      injection hcl1 with e
      exact absurd e (by decide)
    have hd : X.A.in1.handled = none := I.ok.hd hc
    refine wpAny_pyNext_zipD2_end S (Draws.tuple hd i1 a na its.toArray) (Draws.list hd i2 b nb its2.toArray) hz hTI hTO ⟨h1, p⟩ ⟨h2, p2.isList⟩ ?_ ?_ ?_ fun h' tk hk => ⟨rfl, I.turnedL (ch := [z, TI, TO, i1, i2]) (fun c o hb q => ?_) hf⟩
    · simp; omega
    · simp; omega
    · simp; omega
    · obtain ⟨n1, n2, n3, n4, n5⟩ := out5 hb
      exact hk c o n1 n3 n4 n5 q
def iZipX (K : PySem.W.Frag) (ta : TA) : TI := fun σ H R => ta σ H fun vs H1 => ∃ a b xs ys, vs = [.ref a, .ref b] ∧ ((SqL K H1 a xs ∧ SqL K H1 b ys ∧ R (Itz K a b) H1) ∨ (SqT K H1 a xs ∧ SqL K H1 b ys ∧ R (ItMx K a b) H1))
theorem pi_zipX {X : Cx} {e e2 : Expr} {ta : TA} {p pos tpos : Pos} {elts : List Expr} {kk : Nat} (hg : Gl X "zip") (hm : X.mg "zip" = none) (ha : PA X [e, e2] ta)
    (hs : starEach [e, e2] X.env = (false, eval e X.env) :: starEach [e2] X.env) (hpl : (backTo pos (starEach [e2] X.env)).any (·.1) = false) :
    PI X (.Tuple elts kk tpos) (.Call (.Name "zip" p) [e, e2] [] pos) (iZipX X.K ta) := by
  refine ⟨fun pins s σ H R I h => ?_⟩
  refine Call_ (ld_blt I hg hm boot_zip (callWith_type1 (thn (ha.run pos pins s σ H _ I h) fun us s1 ⟨vs, H1, I1, r1, q1⟩ => ?_) hs hpl))
  obtain ⟨a, b, xs, ys, ex, q1⟩ := q1
  subst ex
  cases r1 with
  | cons r rr =>
    cases rr with
    | cons r' rr =>
      cases rr
      cases r
      cases r'
      have nw : ∀ c, c ∈ [s1.heap.objs.size + 4, s1.heap.objs.size + 2, s1.heap.objs.size + 3, s1.heap.objs.size, s1.heap.objs.size + 1] → FpOk X pins H1 c := fun c hcm => by
        have hle : s1.heap.objs.size ≤ c := by
          rcases mem5 hcm with q | q | q | q | q <;> rw [q] <;> first | exact Nat.le_add_right _ _ | exact Nat.le_refl _
        exact I1.fpOk hle (I1.hok.fresh hle)
      rcases q1 with ⟨hqx, hqy, q⟩ | ⟨hqx, hqy, q⟩
      · obtain ⟨its, rv, p1, _⟩ := I1.list hqx
        obtain ⟨its2, rv2, p2, _⟩ := I1.list hqy
        refine call_zip_2 p1.isList p2.isList fun h' hz hTI hTO h1 h2 hsz hk => wpAny_pyIter_zip hz ?_
        exact ⟨_, _, _, _, H1, rfl, I1.kept (t' := s1.toks) hk, turn_zip (PySem.W.ktu_apart s1.heap.objs.size a b p1.lt p2.lt), ⟨hz, hTI, ⟨_, _, hTO⟩, h1, h2⟩, nw, q⟩
      · obtain ⟨its, rv, p1, _⟩ := I1.tuple hqx
        obtain ⟨its2, rv2, p2, _⟩ := I1.list hqy
        have la : a < s1.heap.objs.size := by
          obtain ⟨o1, ho1, _⟩ := id p1
          exact Heap.lt_size ho1
        have lb : b < s1.heap.objs.size := p2.lt
        refine zip_begins2 (begins_tuple a its.toArray) (begins_list b its2.toArray) p1 p2.isList fun h' hz hTI hTO h1 h2 hsz hk => wpAny_pyIter_zip hz ?_
        refine ⟨_, _, _, _, H1, rfl, I1.kept (t' := s1.toks) hk, turn_mx (zip_sep2 (fp1 := [a]) (fp2 := [b]) ?_ ?_), ⟨⟨hz, hTI, _, _, hTO⟩, ⟨_, h1, rfl, rfl⟩, _, h2, rfl, rfl⟩, nw, q⟩
        · intro c hcm; rw [List.mem_singleton.mp hcm]; exact la
        · intro c hcm; rw [List.mem_singleton.mp hcm]; exact lb
theorem yl_zipX {z : Zn} {X : AP} {M : AP} {H : Hp} {K : PySem.W.Frag} {a b : Addr} {vs us : List V} {ds es : List D} (h : H a = some (.tup vs)) (n : ¬ M a) (r : IsA z M H vs ds) (h2 : H b = some (.lst us)) (n2 : ¬ M b) (r2 : IsA z M H us es) : Yields z X M H (ItMx K a b) (zipD ds es) := fun M' H' f => by
  have h' := (f.old a _ h n).1
  have r' := f.isA r
  have h2' := (f.old b _ h2 n2).1
  have r2' := f.isA r2
  have hl := r'.length
  have hl2 := r2'.length
  refine ⟨⟨vs, us, ⟨SqT.of h', SqL.of h2'⟩, by rw [hl, hl2, zipD_len]⟩, fun i d hd => ?_⟩
  obtain ⟨x, y, hx, hy, rfl⟩ := zipD_get hd
  obtain ⟨v, q1, q2⟩ := r'.get hx
  obtain ⟨u, p1, p2⟩ := r2'.get hy
  refine ⟨⟨vs, us, v, u, ⟨SqT.of h', SqL.of h2'⟩, q1, p1⟩, fun w H2 yy => ?_⟩
  obtain ⟨T, x', y', rfl, hT, rfl, hx', hy'⟩ := yy
  have e := hx' vs (SqT.of h')
  rw [q1] at e
  cases e
  have e := hy' us (SqL.of h2')
  rw [p1] at e
  cases e
  exact ⟨(Evo.refl _ _).new hT, fun _ fm => pair2_is hT (fm T hT) q2 p2⟩
def zipKX (d e : D) (k : List D → Prop) : Prop := match d, e with
  | .lst xs, .lst ys => k (zipD xs ys)
  | .tup xs, .lst ys => k (zipD xs ys)
  | _, _ => False
def iZipPX (p q : PX) : PIt := fun env k => p env fun d => q env fun e => zipKX d e k
theorem i_zipX {C : Cx} {e e2 : Expr} {p q : PX} {tpos pp pos : Pos} {elts : List Expr} {kk : Nat} (h : E .e C e p) (g : E .e C e2 q) (hg : Gl C "zip") (hm : C.mg "zip" = none) (hs : starEach [e, e2] C.env = (false, eval e C.env) :: starEach [e2] C.env := by rfl) (hs2 : starEach [e2] C.env = (false, eval e2 C.env) :: starEach [] C.env := by rfl)
    (hpl : (backTo pos (starEach [e2] C.env)).any (·.1) = false := by rfl) : I C (.Tuple elts kk tpos) (.Call (.Name "zip" pp) [e, e2] [] pos) (iZipPX p q) := by
  obtain ⟨t, h1, h2⟩ := h
  obtain ⟨u, g1, g2⟩ := g
  refine ⟨_, pi_zipX hg hm (pa_cons h1 (pa_cons g1 pa_nil hs2) hs) hs hpl, fun z X H0 H σ env R k o c hp => h2 z X H0 H σ env _ _ o (fun d v H1 e1 r1 hx => g2 z X H0 H1 σ env _ _ (o.go e1) (fun d2 v2 H2 e2 r2 hy => ?_) hx) hp⟩
  have r1' : Is z (Ms z X σ env) H2 v d := Is.evo (fun _ q => .inl q) e2 r1
  cases r1' with
  | lst a1 n1 b1 =>
    cases (show Is z (Ms z X σ env) H2 v2 d2 from r2) with
    | lst a2 n2 b2 => exact ⟨_, _, _, _, rfl, .inl ⟨SqL.of a1, SqL.of a2, c _ _ H2 (e1.trans e2) (yl_zipL a1 n1 b1 a2 n2 b2) hy⟩⟩
    | _ => exact (show False from hy).elim
  | tup a1 n1 b1 =>
    cases (show Is z (Ms z X σ env) H2 v2 d2 from r2) with
    | lst a2 n2 b2 => exact ⟨_, _, _, _, rfl, .inr ⟨SqT.of a1, SqL.of a2, c _ _ H2 (e1.trans e2) (yl_zipX a1 n1 b1 a2 n2 b2) hy⟩⟩
    | _ => exact (show False from hy).elim
  | _ => exact (show False from hy).elim
theorem iZipPX_i {p q : PX} {env : List SV} {k : List D → Prop} (h : p env fun d => q env fun e => zipKX d e k) : iZipPX p q env k := h
theorem zipKX_t {xs ys : List D} {k : List D → Prop} (h : k (zipD xs ys)) : zipKX (.tup xs) (.lst ys) k := h
theorem zipKX_l {xs ys : List D} {k : List D → Prop} (h : k (zipD xs ys)) : zipKX (.lst xs) (.lst ys) k := h
end Pu

namespace Pu
open PySem PySem.Spec PyProof.Rows L2
variable [Tbs]
/-! sorted(t), t a tuple of whole numbers -/
section
variable {prog : Program} {w : World} {A : Around} {E : Value → Shared → Prop} {s : Shared}
abbrev gotH (h : Heap) (vs : List Value) : Heap := (h.push (seqObj "list" #[] 0)).update h.objs.size (Obj.mapSeq (· ++ vs.toArray))
theorem collect_tup {l : Addr} {vs : List Value} {Q : List Value → Shared → Prop} (hl : s.heap.IsTuple l vs.toArray) (hz : vs.length ≤ sizeLine) (h : Q vs { s with heap := gotH s.heap vs }) : wpAny (model prog w) A (collect (.ref l)) Q E s := by
  obtain ⟨o, g0, oc, n, od⟩ := id hl
  have g1 : (s.heap.push (seqObj "list" #[] 0)).get? l = some o := Heap.get?_push_of_some _ g0
  have g2 : (s.heap.push (seqObj "list" #[] 0)).get? s.heap.objs.size = some (seqObj "list" #[] 0) := Heap.get?_push_size _ rfl
  unfold collect
  refine wpAny_bind (wpAny_runValue (codeAny_builtin entry_proto_collect' ?_))
  show wpAny _ _ (do again (.builtin "list.__iadd__" ⟨[← newList [], .ref l], []⟩)) _ _ s
  refine wpAny_bind (wpAny_newList (wpAny_pure ⟨Code.quiet_builtin _ (by decide +kernel), codeAny_builtin entry_list_iadd' ?_⟩))
  show wpAny _ _ (Builtin.List.listExtendWith (.ref s.heap.objs.size) (.ref l) (.ref s.heap.objs.size)) _ _ { s with heap := s.heap.push (seqObj "list" #[] 0) }
  unfold Builtin.List.listExtendWith
  refine wpAny_bind (wpAny_typeOf (T := "tuple") ⟨o, g1, oc⟩ ?_)
  have ty : (Value.type "tuple" == Value.type "tuple") = true := by rfl
  rw [if_pos (by rw [ty]; simp)]
  refine wpAny_bind (listItems_at g1 od (wpAny_bind (listItems_at (xs := #[]) (n := 0) g2 rfl ?_)))
  rw [if_neg (by simp)]
  refine wpAny_bind (listUpdate_at (xs := #[]) (n := 0) g2 rfl (wpAny_pure ?_) (Nat.zero_le _) ?_)
  · show wpAny (model prog w) A (do
        let o ← load s.heap.objs.size
        match o.data with
        | .seq xs _ => pure xs.toList
        | _ => unsupported "internal:collect") Q E { s with heap := gotH s.heap vs }
    refine wpAny_bind (wpAny_load (get?_update_seq g2 _) ?_)
    show wpAny _ _ (pure ((#[] : Array Value) ++ vs.toArray).toList) Q E _
    rw [show ((#[] : Array Value) ++ vs.toArray).toList = vs by simp]
    exact wpAny_pure h
  · show (#[] ++ vs.toArray).size ≤ sizeLine + 1
    simp only [Array.size_append, List.size_toArray, List.length_nil]
    omega
theorem sorted_tup {l : Addr} {vs : List Value} {lv : Value → Value → Bool} {Q : Value → Shared → Prop} (O : SrtO.Swo lv) (hl : s.heap.IsTuple l vs.toArray) (hz : vs.length ≤ sizeLine)
    (hS : 2 ≤ vs.length → ∀ (h₁ : Heap) (a : Addr), SrtO.SortableO prog w A.in1.in1 { s with heap := h₁ } a vs lv)
    (h : ∀ out : List Value, SrtO.Srtd lv out → SrtO.Stb lv out vs → Q (.ref (s.heap.objs.size + 1)) { s with heap := sortedAll s.heap vs out.toArray }) :
    wpAny (model prog w) A (call (.builtin "sorted") [.ref l]) Q E s := by
  refine Calls.call_function_entry kind_sorted plain_sorted entry_sorted (args_sorted1 _) ?_
  unfold Builtin.«sorted»
  refine wpAny_bind (m := checkCount "sorted" 1 1 _) (wpAny_pure ?_)
  refine wpAny_bind (collect_tup hl hz (wpAny_bind (wpAny_newList ?_ hz)))
  have sz : (gotH s.heap vs).objs.size = s.heap.objs.size + 1 := by rw [Heap.size_update, size_push']
  have g3 : ((gotH s.heap vs).push (seqObj "list" vs.toArray 0)).get? (s.heap.objs.size + 1) = some (seqObj "list" vs.toArray 0) := by
    rw [← sz]
    exact Heap.get?_push_size _ rfl
  show wpAny _ _ _ _ _ { s with heap := (gotH s.heap vs).push (seqObj "list" vs.toArray 0) }
  rw [sz]
  refine wpAny_bind (wpAny_holding (wpAny_call_entry slot_list_sort ⟨_, g3, rfl⟩ entry_list_sort (SrtO.list_sort_ord O g3 hz (fun h2 => hS h2 _ _) fun out q1 q2 => ⟨_, rfl, ?_⟩) (args_list_sort _)))
  exact wpAny_pure ⟨_, rfl, h out q1 q2⟩
end
def rSortedTu (K : PySem.W.Frag) : List V → Hp → VK → Prop := fun vs H Q => ∃ (a : Addr) (ns : List Int), vs = [V.ref a] ∧ SqT K H a (ns.map V.int) ∧ ∀ (ms : List Int) (p : Addr), ms.Perm ns → ms.Pairwise (· ≤ ·) → H p = none → Q (.ref p) (upd H p (.lst (ms.map V.int)))
theorem cr_sortedTu {X : Cx} : CallR X (.builtin "sorted") (rSortedTu X.K) := by
  intro pins s σ H vs us Q I r h
  obtain ⟨a, ns, rfl, hs, q⟩ := h
  obtain ⟨its, rv, hl, hz⟩ := I.tuple hs
  rw [Vals.ref1 r]
  have hi := rv.ints
  refine sorted_tup SrtO.swo_int (show s.heap.IsTuple a its.toArray from hl) (by rw [← rv.length]; exact hz) (fun h2 h₁ a' => SrtO.ints_sortable hi h2) fun out h1 h2 => ?_
  obtain ⟨k1, k2, k3⟩ := SrtO.ints_out hi h1 h2
  obtain ⟨ep, e'⟩ := sortedAll_at s.heap its out.toArray
  have len : ((out.map SrtO.iv).map V.int).length ≤ sizeLine := by
    rw [List.length_map] at hz
    rw [List.length_map, k2.length_eq]
    exact hz
  exact ⟨.ref _, upd H (s.heap.objs.size + 1) (.lst ((out.map SrtO.iv).map V.int)), I.laid (t' := s.toks) (fun _ _ => sortedAll_old) (Nat.le_succ _) ⟨len, out, ep, vals_of_ints k1, e'⟩, rfl, q _ _ k2 k3 (I.hok.fresh (Nat.le_succ _))⟩
def gSortedT : List D → (D → Prop) → Prop := fun ds k => ∃ ns : List Int, ds = [.tup (ns.map D.int)] ∧ ∀ ms : List Int, ms.Perm ns → ms.Pairwise (· ≤ ·) → k (.lst (ms.map D.int))
theorem cd_sortedT {l : Bool} {K : PySem.W.Frag} : CallD l .f (rSortedTu K) gSortedT := fun z X H0 H σ env vs ds Q k o h c hp => by
  obtain ⟨ns, rfl, hk⟩ := hp
  obtain ⟨v, rfl, hv⟩ := h.one
  cases hv with
  | tup e n r => exact ⟨_, ns, rfl, SqT.of (by rw [e, isa_ints r]), fun ms q h1 h2 hq => c _ _ _ ((Evo.refl _ _).new hq) (Rel.newL hq hq (IsA.ofInts ms)) (hk ms h1 h2)⟩
/-! {k: v}, whole numbers -/
def eDic1 (p q : PX) : PX := fun env k => p env fun x => q env fun y => match x, y with
  | .int n, .int m => k (.dic [(.inl n, .int m)])
  | _, _ => False
theorem e_dic1 {C : Cx} {a b : Expr} {p q : PX} {pos : Pos} {m m' : Mode} (h : E m C a p) (g : E m' C b q) : E .f C (.Dict [some a] [b] pos) (eDic1 p q) := by
  obtain ⟨t, h1, h2⟩ := h.toB
  obtain ⟨u, g1, g2⟩ := g.toB
  refine ⟨_, pe_disp (pps_cons h1 g1 pps_nil) rfl rfl (List.cons_ne_nil _ _) (by show 1 ≤ 15; decide), fun z X H0 H σ env Q k o c hp => fun r hr => ?_⟩
  have e0 : Evo z H (upd H r (.dK [])) := (Evo.refl _ _).new hr
  have zr : ¬ z.Z r := fun q => o.zal r q hr
  refine h2 z X H0 _ σ env _ _ (o.go e0) (fun x v H1 e1 r1 hx => g2 z X H0 H1 σ env _ _ ((o.go e0).go e1) (fun y v2 H2 e2 r2 hy => ?_) hx) hp
  cases x with
  | int n =>
    cases y with
    | int m =>
      cases Is.intI r1
      cases Is.intI r2
      have st : H2 r = some (.dK []) := e2.old _ _ (e1.old _ _ upd_same zr) zr
      refine ⟨st, [(Sum.inl n, V.int m)], rfl, by show 1 ≤ 15; decide, c (.dic [(.inl n, .int m)]) (.ref r) _ ((e0.trans (e1.trans e2)).mut hr zr) ⟨r, rfl, hr, _, upd_same, ?_⟩ hy⟩
      exact .cons (.int m) .nil
    | _ => exact (show False from hy).elim
  | _ => exact (show False from hy).elim
/-! a def that shows things: run where nothing is being shown -/
structure FnG (P : Program) (w : World) (K : PySem.W.Frag) (mg : Str → Option Value) (base : Heap) (k : Nat) (f : Addr) (fd : FuncData) (ps : List Str) (sp : Sp) : Prop where
  cnt : ∀ vs H Q E, sp vs H Q E → vs.length = ps.length
  go : ∀ (A : Around) (outer : List Env) (s : Shared) (H : Hp) (args : Args) (us : List Value) (vs : List V) (Q : VK) (E : XK), A.guards = some [] → Room k A → Env0 P w K mg base A outer s H → BindsTo s fd args (ps.zip us) → Vals vs us → sp vs H Q E → codeAny (model P w) A (.call (.ref f) args) (CR CX0 outer P w H s Q E) s
section
variable {P : Program} {w : World} {K : PySem.W.Frag} {mg : Str → Option Value} {base : Heap}
theorem fn_okG {x qual : Str} {st : Stmt} {f : Addr} {fd : FuncData} {N ps : List Str} {k : Nat} {fr : Bool} {p : PSt} (F : Fun K x qual st f fd) (S : FnScope N ps (defScope st))
    (hb : ∀ (cdv : Value) (A : Around) (outer : List Env) (s : Shared) (H : Hp) (E : XK), (A.deeper (envOfC qual (defScope st) s.heap.objs.size f cdv)).guards = some [] → Room k (A.deeper (envOfC qual (defScope st) s.heap.objs.size f cdv)) → B fr (cxOf CX0 P w K mg base N qual (defScope st) f cdv A outer s H E).nox (defBody st) p) :
    FnG P w K mg base (k + 1) f fd ps (Sf fr ps.length (wpOf fr N.length p)) := by
  obtain ⟨oc, od, kV, doc, pm, an, cdv, ct, osl, rfl, lk, hcd⟩ := F.ex
  refine ⟨fun vs H Q E h => let ⟨z, X, ds, kk, hl, _⟩ := h; hl, fun A outer s H args us vs Q E hg hr at0 bnd rel hsp => ?_⟩
  obtain ⟨z, X, ds, kk, hl, hz, hx, hA, hw, c⟩ := hsp
  obtain ⟨t, b1, b2⟩ := hb cdv A outer s H E hg (Room.deeper (k := k) hr _)
  refine run_at (k := k) (us := us) (vs := vs) lk hcd S hr at0 bnd rel hl b1.nox (b2 z X H H (L2.start N vs) _ _ { nx := fun _ => fr = false ∧ kk .non, rt := kk } (start_ok hz hx hA) ⟨fun env' σ' H' o' f' hk => ?_, fun d v H' e r fq hk => ?_, fun _ _ _ _ _ hk => hk.elim, fun _ _ _ _ _ hk => hk.elim, fun _ _ _ _ _ _ _ h => h.elim⟩ hw)
  · exact c .non .non H' o'.evo .non (fun q => by rw [hk.1] at q; cases q) hk.2
  · exact c d v H' e r fq hk
end
section
variable {C : Cx} {k n : Nat} {f : Addr} {fd : FuncData} {ps : List Str} {fr : Bool} {wp : List D → (D → Prop) → Prop} {x : Str} {pp pos : Pos} {e : Expr} {es : List Expr} {ga : PAs}
theorem pe_callG {sp : Sp} {t : TA} (F : FnG C.prog C.w C.K C.mg C.base k f fd ps sp) (hgd : C.A.guards = some []) (hr : Room k C.A) (hg : Gl C x) (hm : C.mg x = some (.ref f)) (hk : PySem.W.keepIn C.K (.ref f) = true) (hb : Binds C.K fd ps []) (hx : Passes CX0 C E0)
    (ha : PA C (e :: es) t) (hdb : (x == ("__debug__" : Str)) = false) (he : starEach (e :: es) C.env = (false, eval e C.env) :: starEach es C.env) (hpl : (backTo pos (starEach es C.env)).any (·.1) = false) :
    PE C (.Call (.Name x pp) (e :: es) [] pos) (tCall sp [] E0 t) := by
  refine ⟨fun pins s σ H Q I h => wpAny_Call_Name_kw (ld_glob I hg hm ?_ hdb)⟩
  refine PySem.W.callWith_K (h₀ := C.base) I.ok.mod.kin hk (thn (ha.run pos pins s σ H _ I h) fun us s1 ⟨vs, H1, I1, r, q⟩ => ⟨I1.kIn, ?_⟩) he hpl
  replace q : sp (vs ++ []) H1 Q E0 := q
  rw [List.append_nil] at q
  have hl : (us ++ []).length = ps.length := by rw [List.append_nil, ← r.length]; exact F.cnt _ _ _ _ q
  have bd := hb s1 us I1.kIn hl
  rw [List.append_nil] at bd
  refine wpAny_call (codeAny_mono (F.go C.A C.stack s1 H1 ⟨us, []⟩ us vs Q E0 hgd hr I1.env0 bd r q) fun r s' hq => ?_)
  match r, hq with
  | .error e, hq => exact hx pins σ H1 s1 e s' I1 hq
  | .ok (.ret u), hq => exact I1.after hq
  | .ok .next, hq => exact False.elim hq
  | .ok .brk, hq => exact False.elim hq
  | .ok .cont, hq => exact False.elim hq
theorem e_callG (F : FnG C.prog C.w C.K C.mg C.base k f fd ps (Sf fr n wp)) (hgd : C.A.guards = some []) (hr : Room k C.A) (hg : Gl C x) (hm : C.mg x = some (.ref f)) (hk : PySem.W.keepIn C.K (.ref f) = true) (hb : Binds C.K fd ps [])
    (ha : A true C (e :: es) ga) (hdb : (x == ("__debug__" : Str)) = false := by decide) (he : starEach (e :: es) C.env = (false, eval e C.env) :: starEach es C.env := by rfl) (hpl : (backTo pos (starEach es C.env)).any (·.1) = false := by rfl) :
    E .e C (.Call (.Name x pp) (e :: es) [] pos) (eCall (fun ds k => ds.length = n ∧ wp ds k) ga) := by
  obtain ⟨t, h1, h2⟩ := ha
  exact ⟨_, pe_callG F hgd hr hg hm hk hb pass0 h1 hdb he hpl, re_call h2 E0 (.inl rfl)⟩
end
theorem gSortedT_i {ns : List Int} {k : D → Prop} (h : ∀ ms : List Int, ms.Perm ns → ms.Pairwise (· ≤ ·) → k (.lst (ms.map D.int))) : gSortedT [.tup (ns.map D.int)] k := ⟨ns, rfl, h⟩
theorem eDic1_i {p q : PX} {env : List SV} {k : D → Prop} (h : p env fun x => q env fun y => match x, y with
  | .int n, .int m => k (.dic [(.inl n, .int m)])
  | _, _ => False) : eDic1 p q env k := h
end Pu

namespace Pu
open PySem PySem.Spec PyProof.Rows L2
variable [Tbs]
/-! a comprehension whose elements are popped from a list of the def's own -/
def RMK (t : TE) (p : PMX) : Prop := ∀ (z : Zn) (X : AP) (H0 H : Hp) (σ : Sl) (env : List SV) (Q : VK) (k : List SV → D → Prop), Ok z X H0 H σ env → (∀ d v H' env', Ok z X H0 H' σ env' → Fr z X (Ms z X σ env) H (Ms z X σ env') H' → (∀ b, X b → H' b = H b) → Is z (Ms z X σ env') H' v d → k env' d → Q v H') → p env k → t σ H Q
structure MK (C : Cx) (e : Expr) (p : PMX) : Prop where
  ex : ∃ t, PE C e t ∧ RMK t p
theorem mk_pop {C : Cx} {e : Expr} {p : PX} {m : Mode} {pp : Pos} (i : Nat) {x : Str} {apos cpos : Pos} (h : E m C e p)
    (hb : ∀ to te, PE C (.Name x pp) to → PE C e te → PE C (.Call (.Attribute (.Name x pp) "pop" apos) [e] [] cpos) (tBM C.K "list" rPopAt to (tCons te tNil)))
    (hN : C.N[i]? = some x := by rfl) (hv : Vis C.env.scope x := by first | exact Or.inl rfl | exact Or.inr (Or.inl rfl) | exact Or.inr (Or.inr rfl)) (hd : (x == ("__debug__" : Str)) = false := by decide)
    (hcd : (x == ("__classdict__" : Str)) = false := by decide) : MK C (.Call (.Attribute (.Name x pp) "pop" apos) [e] [] cpos) (mPop i p) := by
  obtain ⟨t, h1, h2⟩ := h.toB
  refine ⟨_, hb _ _ (pe_var hN hv hd hcd) h1, fun z X H0 H σ env Q k o c hp => ?_⟩
  unfold mPop at hp
  split at hp
  · rename_i xs he
    obtain ⟨a, q1, ⟨vs, q5, q6⟩, q3, q4, q7⟩ := o.own i _ he
    refine ⟨_, q1, .inl ⟨rfl, vs, SqL.of q5⟩, h2 z X H0 H σ env _ _ o (fun d v H1 e1 r1 hx => ?_) hp⟩
    cases d with
    | int n =>
      cases Is.intI r1
      obtain ⟨hn, jj, yy, g1, g2, hk⟩ := hx
      have o1 := o.go e1
      have q5' := e1.old a _ q5 q3
      have q6' := IsA.evo (fun _ q => .inl q) e1 q6
      obtain ⟨w, w1, w2⟩ := q6'.get g2
      refine ⟨a, vs, n, jj, w, rfl, rfl, q5', by omega, by omega, by rw [q6.length]; exact g1, w1, ?_⟩
      obtain ⟨o2, f2⟩ := mutL o1 he q1 q3 (q6'.eraseIdx jj)
      refine c _ _ _ _ o2 ((o.fr e1).trans f2) (fun b hb => ?_) (f2.is w2) hk
      rw [upd_ne (fun q => q4 (by rw [← q]; exact hb))]
      cases hv : H b with
      | none => exact absurd hv (o.xal b hb).1
      | some u => exact e1.old b u hv (o.xal b hb).2
    | _ => exact (show False from hx).elim
  · exact hp.elim
/-- what is locked may be written -/
theorem Ok.mutX {z : Zn} {X : AP} {H0 H : Hp} {σ : Sl} {env : List SV} (o : Ok z X H0 H σ env) {a : Addr} {u : HO} (ha : X a) (h0 : H0 a = none) : Ok z X H0 (upd H a u) σ env ∧ Fr z X (Ms z X σ env) H (Ms z X σ env) (upd H a u) := by
  have hz : ¬ z.Z a := (o.xal a ha).2
  have al : ∀ b, H b ≠ none → upd H a u b ≠ none := fun b hb => by
    by_cases e : b = a
    · rw [e, upd_same]; intro q; cases q
    · rw [upd_ne e]; exact hb
  have old : ∀ b v, H b = some v → ¬ Ms z X σ env b → upd H a u b = some v ∧ ¬ Ms z X σ env b := fun b v hb n => ⟨by rw [upd_ne (fun e => n (by rw [e]; exact .inr (.inl ha)))]; exact hb, n⟩
  have dk : ∀ b, z.ok H b → z.ok (upd H a u) b := fun b hb => ok_mut hz hb
  refine ⟨⟨o.len, o.evo.mut h0 hz, fun b hb => al b (o.zal b hb), fun b hb => ⟨al b (o.xal b hb).1, (o.xal b hb).2⟩, fun i d h => ?_, fun i d h => ?_, o.inj, o.tab.mut hz⟩, ⟨old, dk, al⟩⟩
  · obtain ⟨v, h1, h2⟩ := o.val i d h
    exact ⟨v, h1, h2.gen old dk⟩
  · obtain ⟨b, h1, h2, h3, h4, h5⟩ := o.own i d h
    refine ⟨b, h1, h2.gen (fun v q => ?_) old dk, h3, h4, h5⟩
    rw [upd_ne (fun e => h4 (by rw [e]; exact ha))]
    exact q
def lcM (vs : List Nat) (pg : PGt) (pm : PMX) : List SV → List D → List D → (List SV → List D → Prop) → Prop
  | env, [], acc, k => k env acc
  | env, d :: ds, acc, k => pg d env fun env1 => pm env1 fun env2 y => acc.length ≤ 100000 ∧ lcM vs pg pm (wipeE env2 vs) ds (acc ++ [y]) k
def mLc (vs : List Nat) (pi : PIt) (pg : PGt) (pm : PMX) : PMX := fun env k => pi env fun ds => noOwn env vs ∧ lcM vs pg pm (wipeE env vs) ds [] fun env' r => k env' (.lst r)
theorem re_lcM {wi : TI} {pi : PIt} {js vs : List Nat} {g : TG} {pg : PGt} {tt : TT} {te : TE} {pm : PMX} (hi : RI wi pi) (hg : RG js g pg) (hj : ∀ i ∈ js, i ∈ vs) (ht : RT tt fun _ k => k true) (he : RMK te pm) : RMX (tLc wi g tt te vs) (mLc vs pi pg pm) := fun z X H0 H σ env Q k o c hp => by
  refine hi z X H0 H σ env _ _ o (fun ds J H1 e1 yl hx => ?_) hp
  obtain ⟨hn, hx⟩ := hx
  have o1 := o.go e1
  intro Da hD
  have hzD : ¬ z.Z Da := fun q => o1.zal Da q hD
  have h0D : H0 Da = none := o1.evo.fresh hD
  have ms2 : ∀ {σ' : Sl} {env' : List SV} (b : Addr), Ms z (X.or Da) σ' env' b → Ms z X σ' env' b ∨ b = Da := fun b h => by
    rcases h with h | (h | h) | h
    · exact .inl (.inl h)
    · exact .inl (.inr (.inl h))
    · exact .inr h
    · exact .inl (.inr (.inr h))
  have ms3 : ∀ {σ' : Sl} {env' : List SV} (b : Addr), Ms z X σ' env' b → Ms z (X.or Da) σ' env' b := fun b h => by
    rcases h with h | h | h
    · exact .inl h
    · exact .inr (.inl (.inl h))
    · exact .inr (.inr h)
  have ev0 : Evo z H1 (upd H1 Da (.lst [])) := (Evo.refl _ _).new hD
  obtain ⟨ow0, sub0⟩ := (o1.lock hD ev0 (by rw [upd_same]; intro q; cases q)).wipe (vs := vs)
  refine ⟨fun i mm H' => mm = ds.length - i ∧ i ≤ ds.length ∧ ∃ envw accV accD, Ok z (X.or Da) H0 H' (L2.wipe σ vs) envw ∧ (∀ j ∈ vs, envw[j]? = none ∨ envw[j]? = some .no) ∧ Fr z X (Ms z X σ env) H1 (Ms z (X.or Da) (L2.wipe σ vs) envw) H' ∧ H' Da = some (.lst accV) ∧ IsA z (Ms z (X.or Da) (L2.wipe σ vs) envw) H' accV accD ∧ lcM vs pg pm envw (ds.drop i) accD fun e r => k e (.lst r),
    ⟨ds.length, by simp, Nat.zero_le _, wipeE env vs, [], [], ow0, fun j hj' => wipeE_in hj', ⟨fun a u q n => ⟨ev0.old a u q fun y => n (.inl y), fun y => (ms2 a (sub0 a y)).elim n (ne_of_none q hD)⟩, ev0.dk, ev0.al⟩, upd_same, .nil, by simpa using hx⟩, ?_⟩
  rintro i mm H' ⟨rfl, hil, envw, accV, accD, oL, hwp, fr, hacc, hA, hk⟩
  obtain ⟨y1, y2⟩ := yl _ _ fr
  by_cases hlt : i < ds.length
  · obtain ⟨go, y3⟩ := y2 i ds[i] (List.getElem?_eq_getElem hlt)
    rw [List.drop_eq_getElem_cons hlt] at hk
    refine .inr ⟨go, fun H2 => ∃ envw accV accD, Ok z (X.or Da) H0 H2 (L2.wipe σ vs) envw ∧ (∀ j ∈ vs, envw[j]? = none ∨ envw[j]? = some .no) ∧ Fr z X (Ms z X σ env) H1 (Ms z (X.or Da) (L2.wipe σ vs) envw) H2 ∧ H2 Da = some (.lst accV) ∧ IsA z (Ms z (X.or Da) (L2.wipe σ vs) envw) H2 accV accD ∧ lcM vs pg pm envw (ds.drop (i + 1)) accD fun e r => k e (.lst r), fun H2 h2 => ⟨ds.length - (i + 1), by omega, rfl, hlt, h2⟩, fun x H2 hy => ?_⟩
    obtain ⟨e2, is⟩ := y3 x H2 hy
    have oL2 := oL.go e2
    refine hg z (X.or Da) H0 H2 _ _ x _ _ _ oL2 (is (fun a q => .inl q) (fun b q => oL.notMs q)) (fun env3 σ3 o3 f3 kp hx3 => ⟨wipe_eq kp hj, ?_⟩) hk
    refine ht z (X.or Da) H0 H2 σ3 env3 _ (fun b => b = true ∧ pm env3 fun env2 y => accD.length ≤ 100000 ∧ lcM vs pg pm (wipeE env2 vs) (ds.drop (i + 1)) (accD ++ [y]) fun e r => k e (.lst r)) o3 (fun b H3 e3 hx4 => ?_) ⟨rfl, hx3⟩
    obtain ⟨hb, hx4⟩ := hx4
    cases b with
    | false => exact absurd hb Bool.false_ne_true
    | true =>
      rw [if_pos rfl]
      refine he z (X.or Da) H0 H3 σ3 env3 _ _ (o3.go e3) (fun r y H4 env4 o4 f4 kx is4 hx5 => ?_) hx4
      have acc4 : H4 Da = some (.lst accV) := by
        rw [kx Da (.inr rfl)]
        exact e3.old _ _ (e2.old _ _ hacc hzD) hzD
      obtain ⟨o5, f5⟩ := o4.mutX (a := Da) (u := .lst (accV ++ [y])) (.inr rfl) h0D
      obtain ⟨o6, sub6⟩ := o5.wipe (vs := vs)
      rw [wipe_eq kp hj] at o6 sub6
      have f34 : Fr z (X.or Da) (Ms z (X.or Da) (L2.wipe σ vs) envw) H' (Ms z (X.or Da) σ3 env4) H4 := (((oL.fr e2).trans f3).trans (o3.fr e3)).trans f4
      have f36 : Fr z (X.or Da) (Ms z (X.or Da) (L2.wipe σ vs) envw) H' (Ms z (X.or Da) (L2.wipe σ vs) (wipeE env4 vs)) (upd H4 Da (.lst (accV ++ [y]))) := ⟨fun a u q n => by
        obtain ⟨q1, n1⟩ := f34.old a u q n
        obtain ⟨q2, n2⟩ := f5.old a u q1 n1
        exact ⟨q2, fun w => n2 (sub6 a w)⟩, fun a q => f5.dk a (f34.dk a q), fun a q => f5.al a (f34.al a q)⟩
      refine ⟨accV, acc4, by rw [hA.length]; exact szl hx5.1, wipeE env4 vs, accV ++ [y], accD ++ [r], o6, fun j hj' => wipeE_in hj', ⟨fun a u q n => f36.old a u (fr.old a u q n).1 (fr.old a u q n).2, fun a q => f36.dk a (fr.dk a q), fun a q => f36.al a (fr.al a q)⟩, upd_same, ?_, hx5.2⟩
      refine (f36.isA hA).append (.cons ?_ .nil)
      exact (f5.is is4).weak sub6
  · have ei : i = ds.length := by omega
    subst ei
    rw [List.drop_length] at hk
    have ow : ∀ {j : Nat} {d : SV}, envw[j]? = some d → d ≠ .no → j ∉ vs := fun {j d} h n hv => by
      rcases hwp j hv with q | q
      · rw [q] at h; cases h
      · rw [q] at h; cases h; exact n rfl
    have msb : ∀ b, Ms z X σ envw b → Ms z (X.or Da) (L2.wipe σ vs) envw b := fun b h => by
      rcases h with h | h | ⟨j, d, h1, h2⟩
      · exact .inl h
      · exact .inr (.inl (.inl h))
      · exact .inr (.inr ⟨j, d, h1, by rw [wipe_out' (ow h1 (fun q => by cases q))]; exact h2⟩)
    have oF : Ok z X H0 H' σ envw := by
      refine ⟨?_, oL.evo, oL.zal, fun a h => oL.xal a (.inl h), fun j d h => ?_, fun j d h => ?_, fun j j' a d e h h' q q' => ?_, oL.tab⟩
      · have := oL.len
        rwa [wipe_length] at this
      · obtain ⟨v, h1, h2⟩ := oL.val j d h
        rw [wipe_out' (ow h (fun q => by cases q))] at h1
        exact ⟨v, h1, h2.weak msb⟩
      · obtain ⟨a, h1, h2, h3, h4, h5⟩ := oL.own j d h
        rw [wipe_out' (ow h (fun q => by cases q))] at h1
        exact ⟨a, h1, h2.gen (fun _ q => q) (fun b u q n => ⟨q, fun w => n (msb b w)⟩) (fun _ q => q), h3, fun q => h4 (.inl q), h5⟩
      · exact oL.inj j j' a d e h h' (by rw [wipe_out' (ow h (fun q => by cases q))]; exact q) (by rw [wipe_out' (ow h' (fun q => by cases q))]; exact q')
    have nD : ¬ Ms z X σ envw Da := fun w => by
      rcases w with w | w | ⟨j, d, h1, h2⟩
      · exact hzD w
      · exact (o1.xal Da w).1 hD
      · obtain ⟨a, q1, q2, q3, q4, q5⟩ := oL.own j d h1
        rw [wipe_out' (ow h1 (fun q => by cases q)), h2] at q1
        cases q1
        exact q4 (.inr rfl)
    refine .inl ⟨y1, c (.lst accD) (.ref Da) H' envw oF ⟨fun a u q n => ?_, fun a q => fr.dk a (e1.dk a q), fun a q => fr.al a (e1.al a q)⟩ (.lst hacc nD (hA.weak msb)) hk⟩
    obtain ⟨q1, n1⟩ := fr.old a u (e1.old a u q fun y => n (.inl y)) n
    exact ⟨q1, fun w => n1 (msb a w)⟩
def tMK (p : PMX) : TE := fun σ H Q => ∃ (z : Zn) (X : AP) (H0 : Hp) (env : List SV) (k : List SV → D → Prop), Ok z X H0 H σ env ∧ (∀ d v H' env', Ok z X H0 H' σ env' → Fr z X (Ms z X σ env) H (Ms z X σ env') H' → (∀ b, X b → H' b = H b) → Is z (Ms z X σ env') H' v d → k env' d → Q v H') ∧ p env k
theorem MK.pe {C : Cx} {e : Expr} {p : PMX} (h : MK C e p) : PE C e (tMK p) := by
  obtain ⟨t, h1, h2⟩ := h
  exact ⟨fun pins s σ H Q I ⟨z, X, H0, env, k, o, c, hp⟩ => h1.run pins s σ H Q I (h2 z X H0 H σ env Q k o c hp)⟩
theorem rmk_tMK {p : PMX} : RMK (tMK p) p := fun z X H0 H σ env Q k o c hp => ⟨z, X, H0, env, k, o, c, hp⟩
section
variable {C : Cx} {fr : Bool} {tg iter elt : Expr} {pi : PIt} {js : List Nat} {g : TG} {pg : PGt} {pm : PMX} {scope : Scope} {own : List (Str × Nat)} {pos : Pos}
theorem s_setLcM {i : Nat} {y : Str} {py spos : Pos} (hi : I C tg iter pi) (hg : ∀ (s : Shared) (H : Hp) (Ca : Addr) (cl : List (Str × Addr)) (fp : List Addr), G (C.blk s H scope (compEnvC scope cl Ca C.env) fp) tg js g pg)
    (he : ∀ (s : Shared) (H : Hp) (Ca : Addr) (cl : List (Str × Addr)) (fp : List Addr), MK (C.blk s H scope (compEnvC scope cl Ca C.env) fp) elt pm) (hc : C.calm = true) (hN : C.N.Nodup) (hy : C.N[i]? = some y) (hyl : C.env.scope.names.lookup y = some .local)
    (hsw : swapsWith (.ListComp elt [⟨tg, iter, [], 0⟩] scope pos) (some (.Name y py)) spos.line C.env = pure true) (ok : BlkOk C.N C.env.scope scope own) (hj : ∀ i ∈ js, i ∈ own.map (·.2)) (rg : RG js g pg) (hs : ∀ x, foldedSetIterable iter C.env x = pure x := by intro _; rfl) :
    S fr C (.Assign [.Name y py] (.ListComp elt [⟨tg, iter, [], 0⟩] scope pos) spos) (sSetM i (mLc (own.map (·.2)) pi pg pm)) := by
  refine ⟨_, ps_setLc hc hN hy hyl hsw hi.pi ok (fun s H Ca cl fp => (hg s H Ca cl fp).pg) (fun s H Ca cl fp => (ts_nil (C := C.blk s H scope (compEnvC scope cl Ca C.env) fp)).ex) (fun s H Ca cl fp => (he s H Ca cl fp).pe) hs, fun z X H0 H σ env G k o s hp => re_lcM ri_tP rg hj rt_tP rmk_tMK z X H0 H σ env _ _ o (fun d v H1 env1 o1 f1 r1 hx => ?_) hp⟩
  obtain ⟨o2, f2⟩ := o1.set (i := i) r1
  exact s.nx _ _ H1 o2 (f1.trans f2) hx
end
/-! d.get(k, e), a dict by whole numbers -/
def dDgetE (x y w : D) (k : D → Prop) : Prop := match x, y with
  | .dic kvs, .int n => k ((valD kvs (.inl n)).getD w)
  | _, _ => False
def dDicK (x : D) (k : Prop) : Prop := match x with
  | .dic _ => k
  | _ => False
def eDget2 (p q r : PX) : PX := fun env k => p env fun x => dDicK x (q env fun y => r env fun w => dDgetE x y w k)
theorem e_dget2 {C : Cx} {o e f : Expr} {p q r : PX} {m m' : Mode} {apos cpos : Pos} (hu : C.A.units + 1 < cLine) (ha : E .c C o p) (hb : E .c C e q) (hf : E .e C f r) (mm : M2 C o "get" apos e f cpos) : E .e C (.Call (.Attribute o "get" apos) [e, f] [] cpos) (eDget2 p q r) := by
  obtain ⟨ta, a1, a2⟩ := ha
  obtain ⟨tb, b1, b2⟩ := hb
  obtain ⟨tf, f1, f2⟩ := hf
  refine ⟨_, pe_dget2 hu a1 b1 f1 mm, fun z X H0 H σ env Q k o c hp => a2 z X H0 H σ env _ _ o (fun x v H1 e1 r1 hp1 => ?_) hp⟩
  cases x with
  | dic kvs =>
    obtain ⟨ad, vs0, rfl, g1, g2⟩ := Rel.conD r1
    refine ⟨ad, rfl, .inl ⟨vs0, .inl g1⟩, b2 z X H0 H1 σ env _ _ (o.go e1) (fun y u H2 e2 r2 hp2 => f2 z X H0 H2 σ env _ _ ((o.go e1).go e2) (fun w u2 H3 e3 r3 hp3 => ?_) hp2) hp1⟩
    cases y with
    | int n =>
      have r1' := r1.evo o (e2.trans e3) e1
      obtain ⟨ad', vs, hq, h1, h2⟩ := Rel.conD r1'
      cases hq
      cases r2.intC
      refine ⟨_, DGet.k (k := Sum.inl n) h1, ?_⟩
      cases hv : valD kvs (.inl n) with
      | none =>
        have q := (h2.val (.inl n)).1 hv
        rw [q]
        refine c w u2 H3 (e1.trans (e2.trans e3)) r3 ?_
        have hp3' : k ((valD kvs (.inl n)).getD w) := hp3
        rw [hv] at hp3'
        exact hp3'
      | some d =>
        obtain ⟨u3, hw, iw⟩ := (h2.val (.inl n)).2 d hv
        rw [hw]
        refine c d u3 H3 (e1.trans (e2.trans e3)) iw ?_
        have hp3' : k ((valD kvs (.inl n)).getD w) := hp3
        rw [hv] at hp3'
        exact hp3'
    | _ => exact (show False from hp3).elim
  | _ => exact (show False from hp1).elim
theorem dDicK_i {kvs : List (Key × D)} {k : Prop} (h : k) : dDicK (.dic kvs) k := h
theorem eDget2_i {p q r : PX} {env : List SV} {k : D → Prop} (h : p env fun x => dDicK x (q env fun y => r env fun w => dDgetE x y w k)) : eDget2 p q r env k := h
theorem dDgetE_i {kvs : List (Key × D)} {n : Int} {w : D} {k : D → Prop} (h : k ((valD kvs (.inl n)).getD w)) : dDgetE (.dic kvs) (.int n) w k := h
theorem mLc_i {vs : List Nat} {pi : PIt} {pg : PGt} {pm : PMX} {env : List SV} {k : List SV → D → Prop} (h : pi env fun ds => noOwn env vs ∧ lcM vs pg pm (wipeE env vs) ds [] fun env' r => k env' (.lst r)) : mLc vs pi pg pm env k := h
/-- by an invariant -/
theorem lcM_i {vs : List Nat} {pg : PGt} {pm : PMX} {k : List SV → List D → Prop} (Inv : Nat → List SV → List D → Prop) : ∀ (ds : List D) (n : Nat) {env : List SV} {acc : List D}, Inv n env acc →
    (∀ (i : Nat) (d : D) (env : List SV) (acc : List D), ds[i]? = some d → Inv (n + i) env acc → ∀ A : List SV → D → Prop, (∀ env2 y, acc.length ≤ 100000 ∧ Inv (n + i + 1) (wipeE env2 vs) (acc ++ [y]) → A env2 y) → pg d env fun env1 => pm env1 A) →
    (∀ env acc, Inv (n + ds.length) env acc → k env acc) → lcM vs pg pm env ds acc k
  | [], n, env, acc, h0, _, hk => hk env acc h0
  | d :: ds, n, env, acc, h0, hs, hk => by
    unfold lcM
    refine hs 0 d env acc rfl h0 _ fun env2 y h => ⟨h.1, lcM_i Inv ds (n + 1) h.2 (fun i d' env' acc' hd hI => ?_) fun env' acc' hI => hk env' acc' ?_⟩
    · have := hs (i + 1) d' env' acc' hd (by rw [show n + (i + 1) = n + 1 + i by omega]; exact hI)
      rw [show n + (i + 1) = n + 1 + i by omega] at this
      exact this
    · rw [List.length_cons, show n + (ds.length + 1) = n + 1 + ds.length by omega]
      exact hI
end Pu

namespace Pu
open PySem PySem.Spec PyProof.Rows L2
variable [Tbs]
/-! dicts by pairs of whole numbers -/
def valT (ds : List (List Int × Int)) (k : List Int) : Option Int := (ds.find? fun q => decide (q.1 = k)).map (·.2)
def putT (ds : List (List Int × Int)) (k : List Int) (v : Int) : List (List Int × Int) :=
  if (ds.any fun q => decide (q.1 = k)) = true then ds.map (fun q => if q.1 = k then (q.1, v) else q) else ds ++ [(k, v)]
theorem inl_map : ∀ {a b : List Int}, (a.map (Sum.inl : Int → Key)) = b.map Sum.inl ↔ a = b
  | [], [] => by simp
  | [], _ :: _ => by simp
  | _ :: _, [] => by simp
  | x :: a, y :: b => by
    simp only [List.map_cons, List.cons.injEq]
    rw [inl_map (a := a) (b := b)]
    constructor
    · rintro ⟨h, h2⟩
      exact ⟨Sum.inl.inj h, h2⟩
    · rintro ⟨h, h2⟩
      exact ⟨by rw [h], h2⟩
theorem val_dtV (k : List Int) : ∀ ds : List (List Int × Int), valV (dtV ds) (k.map Sum.inl) = (valT ds k).map V.int
  | [] => rfl
  | q :: ds => by
    have ih := val_dtV k ds
    unfold valV valT dtV at *
    rw [List.map_cons, List.find?_cons, List.find?_cons]
    by_cases h : q.1 = k
    · rw [decide_eq_true (show q.1.map (Sum.inl : Int → Key) = k.map Sum.inl by rw [h]), decide_eq_true h]
      rfl
    · rw [decide_eq_false (fun w => h (inl_map.mp w)), decide_eq_false h]
      exact ih
theorem any_dtV (k : List Int) : ∀ ds : List (List Int × Int), ((dtV ds).any fun q => decide (q.1 = k.map Sum.inl)) = ds.any fun q => decide (q.1 = k)
  | [] => rfl
  | q :: ds => by
    have ih := any_dtV k ds
    unfold dtV at *
    rw [List.map_cons, List.any_cons, List.any_cons, ih]
    congr 1
    exact decide_eq_decide.mpr inl_map
theorem put_dtV (k : List Int) (v : Int) (ds : List (List Int × Int)) : putK (dtV ds) (k.map Sum.inl) (.int v) = dtV (putT ds k v) := by
  unfold putK putT
  rw [any_dtV]
  split
  · unfold dtV
    rw [List.map_map, List.map_map]
    apply List.map_congr_left
    intro q _
    show (if q.1.map (Sum.inl : Int → Key) = k.map Sum.inl then (q.1.map Sum.inl, V.int v) else (q.1.map Sum.inl, V.int q.2)) = _
    by_cases h : q.1 = k
    · rw [if_pos (by rw [h])]
      show _ = ((if q.1 = k then (q.1, v) else q).1.map Sum.inl, V.int (if q.1 = k then (q.1, v) else q).2)
      rw [if_pos h]
    · rw [if_neg (fun w => h (inl_map.mp w))]
      show _ = ((if q.1 = k then (q.1, v) else q).1.map Sum.inl, V.int (if q.1 = k then (q.1, v) else q).2)
      rw [if_neg h]
  · unfold dtV
    rw [List.map_append]
    rfl
theorem valT_put {ds : List (List Int × Int)} {k k' : List Int} {v : Int} : valT (putT ds k v) k' = if k' = k then some v else valT ds k' := by
  induction ds with
  | nil =>
    show valT [(k, v)] k' = _
    unfold valT
    by_cases e : k' = k
    · rw [if_pos e, e]
      simp
    · rw [if_neg e]
      have : ¬ k = k' := fun w => e w.symm
      simp [this]
  | cons q ds ih =>
    unfold putT at ih ⊢
    rw [List.any_cons]
    by_cases h : q.1 = k
    · rw [decide_eq_true h, Bool.true_or, if_pos rfl, List.map_cons, if_pos h]
      by_cases e : k' = k
      · rw [if_pos e]
        unfold valT
        rw [List.find?_cons, decide_eq_true (show q.1 = k' by rw [h, e])]
        rfl
      · rw [if_neg e]
        unfold valT
        have e' : ¬ q.1 = k' := fun w => e (by rw [← w, h])
        rw [List.find?_cons, List.find?_cons, decide_eq_false e']
        simp only
        have hm : ∀ l : List (List Int × Int), ((l.map fun q => if q.1 = k then (q.1, v) else q).find? fun q => decide (q.1 = k')) = l.find? fun q => decide (q.1 = k') := fun l => by
          induction l with
          | nil => rfl
          | cons w l ih =>
            rw [List.map_cons, List.find?_cons, List.find?_cons]
            by_cases hw : w.1 = k
            · rw [if_pos hw]
              have : ¬ w.1 = k' := fun u => e (by rw [← u, hw])
              simp only [decide_eq_false this]
              exact ih
            · rw [if_neg hw]
              by_cases hw' : w.1 = k'
              · simp [hw']
              · simp only [decide_eq_false hw']
                exact ih
        rw [hm]
    · rw [decide_eq_false h, Bool.false_or]
      have st : ∀ (l : List (List Int × Int)), valT (q :: l) k' = if q.1 = k' then some q.2 else valT l k' := fun l => by
        unfold valT
        rw [List.find?_cons]
        by_cases w : q.1 = k'
        · rw [if_pos w, decide_eq_true w]; rfl
        · rw [if_neg w, decide_eq_false w]
      split
      · rename_i ha
        rw [if_pos ha] at ih
        rw [List.map_cons, if_neg h, st, st, ih]
        by_cases w : q.1 = k'
        · rw [if_pos w, if_pos w, if_neg (fun u => h (by rw [w, u]))]
        · rw [if_neg w, if_neg w]
      · rename_i ha
        rw [if_neg ha] at ih
        rw [List.cons_append, st, st, ih]
        by_cases w : q.1 = k'
        · rw [if_pos w, if_pos w, if_neg (fun u => h (by rw [w, u]))]
        · rw [if_neg w, if_neg w]
theorem putT_len (ds : List (List Int × Int)) (k : List Int) (v : Int) : (putT ds k v).length ≤ ds.length + 1 := by
  unfold putT
  split
  · rw [List.length_map]; omega
  · simp
section
variable {C : Cx} {fr : Bool} {m : Mode} {e a b : Expr} {p q : PX} {pos pp : Pos}
def eDpr0 : PX := fun _ k => k (.dpr [])
theorem e_dpr0 : E .f C (.Dict [] [] pos) eDpr0 := ⟨_, pe_dnewT, fun z X H0 H σ env Q k o c hp => fun q hq => c (.dpr []) (.ref q) _ ((Evo.refl _ _).new hq) ⟨q, rfl, hq, upd_same⟩ hp⟩
/-- x[i, j] = e -/
def prK2 (d : D) (k : Int → Int → Prop) : Prop := match d with
  | .tup [.int i, .int j] => k i j
  | _ => False
def sTput (i : Nat) (pi pe : PX) : PSt := fun env k => pe env fun y => inK y fun v => match env[i]? with
  | some (.own (.dpr ds)) => pi env fun d => prK2 d fun x y => ds.length ≤ 100000 ∧ k.nx (env.set i (.own (.dpr (putT ds [x, y] v))))
  | _ => False
theorem prK2_of {d : D} {k : Int → Int → Prop} (h : prK2 d k) : ∃ i j, d = .tup [.int i, .int j] ∧ k i j := by
  unfold prK2 at h
  split at h
  · exact ⟨_, _, rfl, h⟩
  · exact h.elim
theorem two_is {z : Zn} {M : AP} {H : Hp} {v : V} {i j : Int} (h : Is z M H v (.tup [.int i, .int j])) : ∃ b, v = .ref b ∧ H b = some (.tup ([i, j].map fun x => kV (Sum.inl x))) := by
  cases h with
  | tup e n r =>
    cases r with
    | cons r1 r =>
      cases r with
      | cons r2 r =>
        cases r
        cases r1
        cases r2
        exact ⟨_, rfl, e⟩
theorem s_tput (i : Nat) {x : Str} {ix : Expr} {spos : Pos} (hu : C.A.units + 1 < cLine) (he : E m C e p) (hi : E .e C ix q) (hN : C.N[i]? = some x := by rfl) (hv : Vis C.env.scope x := by first | exact Or.inl rfl | exact Or.inr (Or.inl rfl) | exact Or.inr (Or.inr rfl)) (hd : (x == ("__debug__" : Str)) = false := by decide)
    (hcd : (x == ("__classdict__" : Str)) = false := by decide) (hs : swapsWith e (some (.Subscript (.Name x pp) ix spos)) pos.line C.env = pure false := by rfl) : S fr C (.Assign [.Subscript (.Name x pp) ix spos] e pos) (sTput i q p) := by
  obtain ⟨t, h1, h2⟩ := he.toB
  obtain ⟨u, g1, g2⟩ := hi
  refine ⟨_, ps_dput hu (pe_var hN hv hd hcd) g1 h1 hs, fun z X H0 H σ env G k o s hp => ?_⟩
  refine h2 z X H0 H σ env _ _ o (fun y v H1 e1 r1 hx => ?_) hp
  cases y with
  | int w =>
    cases Is.intI r1
    have o1 := o.go e1
    replace hx : (match env[i]? with
      | some (.own (.dpr ds)) => q env fun d => prK2 d fun x y => ds.length ≤ 100000 ∧ k.nx (env.set i (.own (.dpr (putT ds [x, y] w))))
      | _ => False) := hx
    split at hx
    · rename_i ds hk
      obtain ⟨ad, q1, q5, q3, q4⟩ := o1.own i _ hk
      refine ⟨_, q1, g2 z X H0 H1 σ env _ _ o1 (fun d v2 H2 e2 r2 hy => ?_) hx⟩
      obtain ⟨x1, y1, rfl, hl, hy⟩ := prK2_of hy
      obtain ⟨b2, rfl, hb2⟩ := two_is (show Is z (Ms z X σ env) H2 v2 (.tup [.int x1, .int y1]) from r2)
      have o2 := o1.go e2
      have q5' : H2 ad = some (.dT (dtV ds)) := e2.old ad _ q5 q3
      refine ⟨ad, _, rfl, DPut.t (k := [x1, y1].map Sum.inl) q5' (by rw [hb2, List.map_map]; rfl) (by unfold dtV; rw [List.length_map, sizeLine_eq]; omega), ?_⟩
      rw [put_dtV]
      obtain ⟨o3, f3⟩ := o2.mut (d' := .dpr (putT ds [x1, y1] w)) (o := .dT (dtV (putT ds [x1, y1] w))) hk q1 upd_same
      exact s.nx _ _ _ o3 ((o.fr (e1.trans e2)).trans f3) hy
    · exact hx.elim
  | _ => exact (show False from hx).elim
/-- x[i, j] -/
def dTget : D → D → (D → Prop) → Prop := fun x y k => match x with
  | .dpr ds => prK2 y fun i j => ∃ v, valT ds [i, j] = some v ∧ k (.int v)
  | _ => False
theorem Rel.conP {z : Zn} {X : AP} {H H' : Hp} {σ : Sl} {env : List SV} {v : V} {xs : List (List Int × Int)} (h : Rel .c z X H H' σ env v (.dpr xs)) : ∃ a, v = .ref a ∧ H' a = some (.dT (dtV xs)) := by
  rcases h with h | ⟨a, rfl, e, n, md⟩
  · cases h with
    | dpr e n => exact ⟨_, rfl, e⟩
  · exact ⟨a, rfl, e⟩
theorem e_tget (hu : C.A.units + 1 < cLine) (ha : E .c C a p) (hb : E .e C b q) (hs : NoSl b := by exact fun _ _ => rfl) : E .e C (.Subscript a b pos) (eOp dTget p q) := by
  obtain ⟨ta, a1, a2⟩ := ha
  obtain ⟨tb, b1, b2⟩ := hb
  refine ⟨_, pe_dget hu a1 b1 hs, fun z X H0 H σ env Q k o c hp => a2 z X H0 H σ env _ _ o (fun x v H1 e1 r1 hp1 => b2 z X H0 H1 σ env _ _ (o.go e1) (fun y u H2 e2 r2 hp2 => ?_) hp1) hp⟩
  have r1' := r1.evo o e2 e1
  cases x with
  | dpr ds =>
    obtain ⟨i, j, rfl, w, hw, hk⟩ := prK2_of hp2
    obtain ⟨ad, rfl, h1⟩ := Rel.conP r1'
    obtain ⟨b2, rfl, hb2⟩ := two_is (show Is z (Ms z X σ env) H2 u (.tup [.int i, .int j]) from r2)
    have g := DGet.t (k := [i, j].map Sum.inl) h1 (by rw [hb2, List.map_map]; rfl)
    rw [val_dtV, hw] at g
    exact ⟨ad, .int w, rfl, g, c (.int w) (.int w) H2 (e1.trans e2) (.int w) hk⟩
  | _ => exact (show False from hp2).elim
end
theorem eO_p {i : Nat} {env : List SV} {ds : List (List Int × Int)} {k : D → Prop} (e : env[i]? = some (.own (.dpr ds))) (h : k (.dpr ds)) : eO i env k := by unfold eO; rw [e]; exact h
theorem sTput_i {i : Nat} {pi pe : PX} {env : List SV} {ds : List (List Int × Int)} {K : PK'} (e : env[i]? = some (.own (.dpr ds))) (h : pe env fun y => inK y fun v => pi env fun d => prK2 d fun x y => ds.length ≤ 100000 ∧ K.nx (env.set i (.own (.dpr (putT ds [x, y] v))))) : sTput i pi pe env K := by
  unfold sTput
  rw [e]
  exact h
theorem prK2_i {i j : Int} {k : Int → Int → Prop} (h : k i j) : prK2 (.tup [.int i, .int j]) k := h
theorem dTget_i {ds : List (List Int × Int)} {i j v : Int} {k : D → Prop} (e : valT ds [i, j] = some v) (h : k (.int v)) : dTget (.dpr ds) (.tup [.int i, .int j]) k := ⟨v, e, h⟩
theorem sSeq_tput {i : Nat} {pi pe : PX} {Q : PSt} {env : List SV} {K : PK'} (h : sTput i pi pe env { K with nx := fun env' => Q env' K }) : sSeq (sTput i pi pe) Q env K := h
/-! a look only, and a tuple of whole numbers comes of it: it is plain -/
def ownMut (env : List SV) : Prop := ∀ (i : Nat) (d : D), env[i]? = some (.own d) → mutD d = true
def eFlat (p : PX) : PX := fun env k => p env fun d => (∃ ns : List Int, d = .tup (ns.map D.int)) ∧ ownMut env ∧ k d
theorem e_flat {C : Cx} {e : Expr} {p : PX} (h : E .b C e p) : E .e C e (eFlat p) := by
  obtain ⟨t, h1, h2⟩ := h
  refine ⟨t, h1, fun z X H0 H σ env Q k o c hp => h2 z X H0 H σ env _ _ o (fun d v H1 e1 r1 hx => ?_) hp⟩
  obtain ⟨⟨ns, rfl⟩, hm, hk⟩ := hx
  refine c _ v H1 e1 ?_ hk
  cases (show Is z (Zx z X) H1 v (.tup (ns.map D.int)) from r1) with
  | tup e n r =>
    refine Is.tup e (fun w => ?_) ?_
    · rcases w with w | w | ⟨i, d, w1, w2⟩
      · exact n (.inl w)
      · exact n (.inr w)
      · obtain ⟨a, q1, q2, q3, q4⟩ := o.own i d w1
        rw [w2] at q1
        cases q1
        have hd := hm i d w1
        cases d with
        | lst ds =>
          obtain ⟨vs, g, _⟩ := q2
          have := e1.old _ _ g q3
          rw [e] at this
          cases this
        | dic ds =>
          obtain ⟨vs, g, _⟩ := q2
          have := e1.old _ _ g q3
          rw [e] at this
          cases this
        | dpr ds =>
          have := e1.old _ _ q2 q3
          rw [e] at this
          cases this
        | st ds =>
          obtain ⟨vs, g, _⟩ := q2
          have := e1.old _ _ g q3
          rw [e] at this
          cases this
        | _ => cases hd
    · rw [isa_ints r]
      exact isa_of ns
theorem eFlat_i {p : PX} {env : List SV} {k : D → Prop} (h : p env fun d => (∃ ns : List Int, d = .tup (ns.map D.int)) ∧ ownMut env ∧ k d) : eFlat p env k := h
end Pu

namespace Pu
open PySem PySem.Spec PyProof.Rows L2
variable [Tbs]
/-! loops over a list of the def's own: the slot q stays -/
structure SimQ (q : Nat) (w : Option (Option V)) (fr : Bool) (z : Zn) (X : AP) (H0 : Hp) (M : AP) (H : Hp) (G : Ends) (k : PK') : Prop where
  nx : ∀ env' σ' H', Ok z X H0 H' σ' env' → Fr z X M H (Ms z X σ' env') H' → σ'[q]? = w → k.nx env' → G.nx σ' H'
  rt : ∀ d v H', Evo z H0 H' → Is z (Zx z X) H' v d → (fr = true → ∃ a, v = .ref a ∧ H0 a = none ∧ Con z (Zx z (X.or a)) H' a d) → k.rt d → G.rt v H'
  bk : ∀ env' σ' H', Ok z X H0 H' σ' env' → Fr z X M H (Ms z X σ' env') H' → σ'[q]? = w → k.bk env' → G.bk σ' H'
  ct : ∀ env' σ' H', Ok z X H0 H' σ' env' → Fr z X M H (Ms z X σ' env') H' → σ'[q]? = w → k.ct env' → G.ct σ' H'
theorem SimQ.go {q : Nat} {w : Option (Option V)} {fr : Bool} {z : Zn} {X : AP} {H0 : Hp} {M M1 : AP} {H H1 : Hp} {G : Ends} {k : PK'} (s : SimQ q w fr z X H0 M H G k) (f : Fr z X M H M1 H1) : SimQ q w fr z X H0 M1 H1 G k :=
  ⟨fun e σ H' o g c h => s.nx e σ H' o (f.trans g) c h, s.rt, fun e σ H' o g c h => s.bk e σ H' o (f.trans g) c h, fun e σ H' o g c h => s.ct e σ H' o (f.trans g) c h⟩
theorem Sim.q {q : Nat} {w : Option (Option V)} {fr : Bool} {z : Zn} {X : AP} {H0 : Hp} {M : AP} {H : Hp} {G : Ends} {k : PK'} (s : Sim fr z X H0 M H G k) : SimQ q w fr z X H0 M H G k :=
  ⟨fun e σ H' o g _ h => s.nx e σ H' o g h, s.rt, fun e σ H' o g _ h => s.bk e σ H' o g h, fun e σ H' o g _ h => s.ct e σ H' o g h⟩
def RSq (q : Nat) (fr : Bool) (t : TS) (p : PSt) : Prop := ∀ (z : Zn) (X : AP) (H0 H : Hp) (σ : Sl) (env : List SV) (G : Ends) (k : PK'), Ok z X H0 H σ env → SimQ q σ[q]? fr z X H0 (Ms z X σ env) H G k → p env k → t G σ H
structure SQ (q : Nat) (fr : Bool) (C : Cx) (st : Stmt) (p : PSt) : Prop where
  ex : ∃ t, PS C st t ∧ RSq q fr t p
structure BQ (q : Nat) (fr : Bool) (C : Cx) (st : List Stmt) (p : PSt) : Prop where
  ex : ∃ t, PSs C st t ∧ RSq q fr t p
section
variable {C : Cx} {fr : Bool} {q : Nat} {st : Stmt} {rest : List Stmt} {p r : PSt} {e : Expr} {pe pi : PX} {m : Mode} {pos pp : Pos}
theorem SQ.s (h : SQ q fr C st p) : S fr C st p := by
  obtain ⟨t, h1, h2⟩ := h
  exact ⟨t, h1, fun z X H0 H σ env G k o s hp => h2 z X H0 H σ env G k o s.q hp⟩
theorem bq_nil : BQ q fr C [] sNext := ⟨_, pss_nil, fun z X H0 H σ env G k o s h => s.nx env σ H o Fr.refl rfl h⟩
theorem bq_one (h : SQ q fr C st p) : BQ q fr C [st] p := let ⟨t, h1, h2⟩ := h; ⟨t, pss_one h1, h2⟩
theorem bq_cons (h : SQ q fr C st p) (g : BQ q fr C rest r) : BQ q fr C (st :: rest) (sSeq p r) := by
  obtain ⟨t, h1, h2⟩ := h
  obtain ⟨u, g1, g2⟩ := g
  refine ⟨_, pss_cons h1 g1, fun z X H0 H σ env G k o s hp => h2 z X H0 H σ env _ { k with nx := fun env' => r env' k } o ⟨fun env' σ' H' o' f c hx => ?_, s.rt, s.bk, s.ct⟩ hp⟩
  refine g2 z X H0 H' σ' env' G k o' ?_ hx
  rw [c]
  exact s.go f
theorem sq_if {c : Expr} {a b : List Stmt} {tc : PTs'} (h : T C c tc) (ha : BQ q fr C a p) (hb : BQ q fr C b r) : SQ q fr C (.If c a b pos) (sIf tc p r) := by
  obtain ⟨t, h1, h2⟩ := h
  obtain ⟨ta, a1, a2⟩ := ha
  obtain ⟨tb, b1, b2⟩ := hb
  refine ⟨_, ps_if h1 a1 b1, fun z X H0 H σ env G k o s hp => h2 z X H0 H σ env _ _ o (fun x H1 e1 hx => ?_) hp⟩
  cases x with
  | true => exact a2 z X H0 H1 σ env G k (o.go e1) (s.go (o.fr e1)) hx
  | false => exact b2 z X H0 H1 σ env G k (o.go e1) (s.go (o.fr e1)) hx
theorem sq_set {i : Nat} {x : Str} (h : E .e C e pe) (hN : C.N.Nodup) (hi : C.N[i]? = some x) (hx : Loc C.env.scope x) (hne : i ≠ q) (hs : swapsWith e (some (.Name x pp)) pos.line C.env = pure false := by rfl) (hf : C.fn x = true ∨ C.env.scope.names.lookup x = some .local := by first | exact .inl rfl | exact .inr rfl | assumption) :
    SQ q fr C (.Assign [.Name x pp] e pos) (sSet i pe) := by
  obtain ⟨t, h1, h2⟩ := h
  refine ⟨_, ps_set hN hi hx h1 hs hf, fun z X H0 H σ env G k o s hp => h2 z X H0 H σ env _ _ o (fun d v H1 e1 r1 hx => ?_) hp⟩
  obtain ⟨o2, f2⟩ := (o.go e1).set (i := i) (show Is z _ H1 v d from r1)
  exact s.nx _ _ H1 o2 ((o.fr e1).trans f2) (List.getElem?_set_ne hne) hx
theorem sq_tput (i : Nat) {x : Str} {ix : Expr} {spos : Pos} (hu : C.A.units + 1 < cLine) (he : E m C e pe) (hi : E .e C ix pi) (hN : C.N[i]? = some x := by rfl) (hv : Vis C.env.scope x := by first | exact Or.inl rfl | exact Or.inr (Or.inl rfl) | exact Or.inr (Or.inr rfl)) (hd : (x == ("__debug__" : Str)) = false := by decide)
    (hcd : (x == ("__classdict__" : Str)) = false := by decide) (hs : swapsWith e (some (.Subscript (.Name x pp) ix spos)) pos.line C.env = pure false := by rfl) : SQ q fr C (.Assign [.Subscript (.Name x pp) ix spos] e pos) (sTput i pi pe) := by
  obtain ⟨t, h1, h2⟩ := he.toB
  obtain ⟨u, g1, g2⟩ := hi
  refine ⟨_, ps_dput hu (pe_var hN hv hd hcd) g1 h1 hs, fun z X H0 H σ env G k o s hp => ?_⟩
  refine h2 z X H0 H σ env _ _ o (fun y v H1 e1 r1 hx => ?_) hp
  cases y with
  | int w =>
    cases Is.intI r1
    have o1 := o.go e1
    replace hx : (match env[i]? with
      | some (.own (.dpr ds)) => pi env fun d => prK2 d fun x y => ds.length ≤ 100000 ∧ k.nx (env.set i (.own (.dpr (putT ds [x, y] w))))
      | _ => False) := hx
    split at hx
    · rename_i ds hk
      obtain ⟨ad, q1, q5, q3, q4⟩ := o1.own i _ hk
      refine ⟨_, q1, g2 z X H0 H1 σ env _ _ o1 (fun d v2 H2 e2 r2 hy => ?_) hx⟩
      obtain ⟨x1, y1, rfl, hl, hy⟩ := prK2_of hy
      obtain ⟨b2, rfl, hb2⟩ := two_is (show Is z (Ms z X σ env) H2 v2 (.tup [.int x1, .int y1]) from r2)
      have o2 := o1.go e2
      have q5' : H2 ad = some (.dT (dtV ds)) := e2.old ad _ q5 q3
      refine ⟨ad, _, rfl, DPut.t (k := [x1, y1].map Sum.inl) q5' (by rw [hb2, List.map_map]; rfl) (by unfold dtV; rw [List.length_map, sizeLine_eq]; omega), ?_⟩
      rw [put_dtV]
      obtain ⟨o3, f3⟩ := o2.mut (d' := .dpr (putT ds [x1, y1] w)) (o := .dT (dtV (putT ds [x1, y1] w))) hk q1 upd_same
      exact s.nx _ _ _ o3 ((o.fr (e1.trans e2)).trans f3) rfl hy
    · exact hx.elim
  | _ => exact (show False from hx).elim
end
def forQ (q : Nat) (ds0 : List D) (pg : PGt) (pb : PSt) : List D → List SV → PK' → Prop
  | [], env, k => env[q]? = some (.own (.lst ds0)) ∧ k.nx env
  | d :: ds, env, k => env[q]? = some (.own (.lst ds0)) ∧ pg d env fun env1 => pb env1 { nx := fun env2 => forQ q ds0 pg pb ds env2 k, rt := k.rt, bk := k.nx, ct := fun env2 => forQ q ds0 pg pb ds env2 k }
def sForO (q : Nat) (pg : PGt) (pb : PSt) : PSt := fun env k => match env[q]? with
  | some (.own (.lst ds)) => forQ q ds pg pb ds env k
  | _ => False
theorem sq_for {C : Cx} {fr : Bool} {q : Nat} {tg : Expr} {body : List Stmt} {pos pp : Pos} {x : Str} {js : List Nat} {g : TG} {pg : PGt} {pb : PSt} (hg : G C tg js g pg) (hb : BQ q fr C body pb) (hj : q ∉ js) (hp : PassesOwn (model C.prog C.w) C.A C.env C.xe) (hc : C.calm = true)
    (hN : C.N[q]? = some x := by rfl) (hv : Vis C.env.scope x := by first | exact Or.inl rfl | exact Or.inr (Or.inl rfl) | exact Or.inr (Or.inr rfl)) (hd : (x == ("__debug__" : Str)) = false := by decide)
    (hcd : (x == ("__classdict__" : Str)) = false := by decide) (hs : ∀ v, foldedSetIterable (.Name x pp) C.env v = pure v := by intro _; rfl) : SQ q fr C (.For tg (.Name x pp) body [] pos) (sForO q pg pb) := by
  obtain ⟨tb, b1, b2⟩ := hb
  refine ⟨_, ps_for hp hc (pi_list (pe_var hN hv hd hcd)) hg.pg b1 hs, fun z X H0 H σ env G k o s hp => ?_⟩
  unfold sForO at hp
  split at hp
  · rename_i ds he
    obtain ⟨a, q1, ⟨vs, q5, q6⟩, q3, q4⟩ := o.own q _ he
    refine ⟨_, q1, a, rfl, ⟨vs, SqL.of q5⟩, ?_⟩
    refine ⟨fun i mm σ' H' => mm = ds.length - i ∧ i ≤ ds.length ∧ ∃ env', Ok z X H0 H' σ' env' ∧ Fr z X (Ms z X σ env) H (Ms z X σ' env') H' ∧ σ'[q]? = σ[q]? ∧ forQ q ds pg pb (ds.drop i) env' k, ⟨ds.length, by simp, Nat.zero_le _, env, o, Fr.refl, rfl, by simpa using hp⟩, ?_⟩
    rintro i mm σ' H' ⟨rfl, hil, env', o', f', kq, hf⟩
    have own : env'[q]? = some (.own (.lst ds)) → ∃ vs', H' a = some (.lst vs') ∧ IsA z (Ms z X σ' env') H' vs' ds := fun h => by
      obtain ⟨a', w1, ⟨vs', w5, w6⟩, _⟩ := o'.own q _ h
      rw [kq, q1] at w1
      cases w1
      exact ⟨vs', w5, w6⟩
    by_cases hlt : i < ds.length
    · rw [List.drop_eq_getElem_cons hlt] at hf
      obtain ⟨hq, hf⟩ := hf
      obtain ⟨vs', w5, w6⟩ := own hq
      obtain ⟨v, v1, v2⟩ := w6.get (List.getElem?_eq_getElem hlt)
      refine .inr ⟨⟨vs', v, SqL.of w5, v1⟩, fun σ2 H2 => ∃ env2, Ok z X H0 H2 σ2 env2 ∧ Fr z X (Ms z X σ env) H (Ms z X σ2 env2) H2 ∧ σ2[q]? = σ[q]? ∧ forQ q ds pg pb (ds.drop (i + 1)) env2 k, fun σ2 H2 h2 => ⟨ds.length - (i + 1), by omega, rfl, hlt, h2⟩, fun y H2 hy => ?_⟩
      obtain ⟨rfl, hy⟩ := hy
      have ey := hy vs' (SqL.of w5)
      rw [v1] at ey
      cases ey
      refine hg.rg z X H0 H2 σ' env' _ _ _ _ o' v2 (fun env3 σ3 o3 f3 kp hx3 => ?_) hf
      have k3 : σ3[q]? = σ[q]? := (kp.2 q hj).2.trans kq
      refine b2 z X H0 H2 σ3 env3 _ { nx := fun env2 => forQ q ds pg pb (ds.drop (i + 1)) env2 k, rt := k.rt, bk := k.nx, ct := fun env2 => forQ q ds pg pb (ds.drop (i + 1)) env2 k } o3 ⟨fun env4 σ4 H4 o4 f4 k4 hx4 => ⟨env4, o4, f'.trans (f3.trans f4), k4.trans k3, hx4⟩, s.rt, fun env4 σ4 H4 o4 f4 k4 hx4 => s.nx env4 σ4 H4 o4 (f'.trans (f3.trans f4)) (k4.trans k3) hx4, fun env4 σ4 H4 o4 f4 k4 hx4 => ⟨env4, o4, f'.trans (f3.trans f4), k4.trans k3, hx4⟩⟩ hx3
    · have ei : i = ds.length := by omega
      subst ei
      rw [List.drop_length] at hf
      obtain ⟨hq, hf⟩ := hf
      obtain ⟨vs', w5, w6⟩ := own hq
      exact .inl ⟨⟨vs', SqL.of w5, by rw [w6.length]; exact Nat.le_refl _⟩, s.nx env' σ' H' o' f' kq hf⟩
  · exact hp.elim
theorem sForO_i {q : Nat} {pg : PGt} {pb : PSt} {env : List SV} {k : PK'} {ds : List D} (e : env[q]? = some (.own (.lst ds))) (h : forQ q ds pg pb ds env k) : sForO q pg pb env k := by
  unfold sForO
  rw [e]
  exact h
/-- by an invariant -/
theorem forQ_i {q : Nat} {ds0 : List D} {pg : PGt} {pb : PSt} {k : PK'} (Inv : Nat → List SV → Prop) (hq : ∀ i env, Inv i env → env[q]? = some (.own (.lst ds0))) : ∀ (ds : List D) (n : Nat) {env : List SV}, Inv n env →
    (∀ (i : Nat) (d : D) (env : List SV), ds[i]? = some d → Inv (n + i) env → ∀ N : List SV → Prop, (∀ e, Inv (n + i + 1) e → N e) → pg d env fun env1 => pb env1 { nx := N, rt := k.rt, bk := k.nx, ct := N }) →
    (∀ env, Inv (n + ds.length) env → k.nx env) → forQ q ds0 pg pb ds env k
  | [], n, env, h0, _, hk => ⟨hq _ _ h0, hk env h0⟩
  | d :: ds, n, env, h0, hs, hk => by
    refine ⟨hq _ _ h0, hs 0 d env rfl h0 _ fun e he => forQ_i Inv hq ds (n + 1) he (fun i d' env' hd hI => ?_) fun env' hI => hk env' ?_⟩
    · have := hs (i + 1) d' env' hd (by rw [show n + (i + 1) = n + 1 + i by omega]; exact hI)
      rw [show n + (i + 1) = n + 1 + i by omega] at this
      exact this
    · rw [List.length_cons, show n + (ds.length + 1) = n + 1 + ds.length by omega]
      exact hI
theorem sSeq_forO {q : Nat} {pg : PGt} {pb : PSt} {Q : PSt} {env : List SV} {K : PK'} (h : sForO q pg pb env { K with nx := fun env' => Q env' K }) : sSeq (sForO q pg pb) Q env K := h
/-! a comprehension over a list of the def's own -/
def eLcO (q : Nat) (vs : List Nat) (pg : PGt) (pt : PTs') (pe : PX) : PX := fun env k => match env[q]? with
  | some (.own (.lst ds)) => noOwn env vs ∧ lcP pg pt pe (wipeE env vs) ds [] fun r => k (.lst r)
  | _ => False
theorem re_lcO {K : PySem.W.Frag} {q : Nat} {js vs : List Nat} {g : TG} {pg : PGt} {tt : TT} {pt : PTs'} {te : TE} {pe : PX} (hg : RG js g pg) (hj : ∀ i ∈ js, i ∈ vs) (ht : RT tt pt) (he : RE .e te pe) : RE .f (tLc (iList K (tVar q)) g tt te vs) (eLcO q vs pg pt pe) := fun z X H0 H σ env Q k o c hp => by
  unfold eLcO at hp
  split at hp
  · rename_i ds hq
    obtain ⟨hn, hx⟩ := hp
    obtain ⟨ad, q1, ⟨us, q5, q6⟩, q3, q4⟩ := o.own q _ hq
    refine ⟨_, q1, ad, rfl, ⟨us, SqL.of q5⟩, ?_⟩
    intro Da hD
    have hzD : ¬ z.Z Da := fun q => o.zal Da q hD
    refine ⟨fun i mm H' => mm = ds.length - i ∧ i ≤ ds.length ∧ ∃ accV accD, Evo z H H' ∧ H' Da = some (.lst accV) ∧ IsA z (Ms z (X.or Da) σ env) H' accV accD ∧ lcP pg pt pe (wipeE env vs) (ds.drop i) accD fun r => k (.lst r),
      ⟨ds.length, by simp, Nat.zero_le _, [], [], (Evo.refl _ _).new hD, upd_same, .nil, by simpa using hx⟩, ?_⟩
    rintro i mm H' ⟨rfl, hil, accV, accD, e', hacc, hA, hk⟩
    have oL : Ok z (X.or Da) H0 H' σ env := o.lock hD e' (by rw [hacc]; intro q; cases q)
    obtain ⟨a2, w1, ⟨us', w5, w6⟩, w3, w4⟩ := oL.own q _ hq
    rw [q1] at w1
    cases w1
    by_cases hlt : i < ds.length
    · obtain ⟨v, v1, v2⟩ := w6.get (List.getElem?_eq_getElem hlt)
      rw [List.drop_eq_getElem_cons hlt] at hk
      refine .inr ⟨⟨us', v, SqL.of w5, v1⟩, fun H2 => ∃ accV accD, Evo z H H2 ∧ H2 Da = some (.lst accV) ∧ IsA z (Ms z (X.or Da) σ env) H2 accV accD ∧ lcP pg pt pe (wipeE env vs) (ds.drop (i + 1)) accD fun r => k (.lst r), fun H2 h2 => ⟨ds.length - (i + 1), by omega, rfl, hlt, h2⟩, fun x H2 hy => ?_⟩
      obtain ⟨rfl, hy⟩ := hy
      have ey := hy us' (SqL.of w5)
      rw [v1] at ey
      cases ey
      obtain ⟨oW, sub⟩ := oL.wipe (vs := vs)
      refine hg z (X.or Da) H0 H2 _ _ _ _ _ _ oW (v2.weak sub) (fun env3 σ3 o3 f3 kp hx3 => ⟨wipe_eq kp hj, ?_⟩) hk
      refine ht z (X.or Da) H0 H2 σ3 env3 _ _ o3 (fun b H3 e3 hx4 => ?_) hx3
      have e13 := e'.trans e3
      have acc3 : H3 Da = some (.lst accV) := e3.old _ _ hacc hzD
      have A3 : IsA z (Ms z (X.or Da) σ env) H3 accV accD := hA.evo (fun _ q => .inl q) e3
      cases b with
      | false =>
        rw [if_neg Bool.false_ne_true]
        exact ⟨accV, accD, e13, acc3, A3, hx4⟩
      | true =>
        rw [if_pos rfl]
        refine he z (X.or Da) H0 H3 σ3 env3 _ _ (o3.go e3) (fun r y H4 e4 r4 hx5 => ?_) hx4
        refine ⟨accV, e4.old _ _ acc3 hzD, by rw [hA.length]; exact szl hx5.1, accV ++ [y], accD ++ [r], (e13.trans e4).mut hD hzD, upd_same, ?_, hx5.2⟩
        have ir : Is z (Ms z (X.or Da) σ env) H4 y r := Is.weak (ms_in hn hj kp) r4
        refine ((A3.evo (fun _ q => .inl q) e4).append (.cons ir .nil)).gen (fun b u q n => ⟨?_, n⟩) fun b hb => ok_mut hzD hb
        rw [upd_ne (fun w => n (by rw [w]; exact .inr (.inl (.inr rfl))))]
        exact q
    · have ei : i = ds.length := by omega
      subst ei
      rw [List.drop_length] at hk
      exact .inl ⟨⟨us', SqL.of w5, by rw [w6.length]; exact Nat.le_refl _⟩, c (.lst accD) (.ref Da) H' e' ⟨Da, rfl, hD, accV, hacc, hA⟩ hk⟩
  · exact hp.elim
section
variable {C : Cx} {fr : Bool} {tg elt : Expr} {ifs : List Expr} {js : List Nat} {g : TG} {pg : PGt} {pt : PTs'} {pe : PX} {scope : Scope} {own : List (Str × Nat)} {pos pq : Pos}
theorem s_ownLcO {i q : Nat} {x y : Str} {py spos : Pos} (hg : ∀ (s : Shared) (H : Hp) (Ca : Addr) (cl : List (Str × Addr)) (fp : List Addr), G (C.blk s H scope (compEnvC scope cl Ca C.env) fp) tg js g pg) (ht : ∀ (s : Shared) (H : Hp) (Ca : Addr) (cl : List (Str × Addr)) (fp : List Addr), Ts (C.blk s H scope (compEnvC scope cl Ca C.env) fp) ifs pt)
    (he : ∀ (s : Shared) (H : Hp) (Ca : Addr) (cl : List (Str × Addr)) (fp : List Addr), E .e (C.blk s H scope (compEnvC scope cl Ca C.env) fp) elt pe) (hc : C.calm = true) (hN : C.N.Nodup) (hy : C.N[i]? = some y) (hyl : C.env.scope.names.lookup y = some .local)
    (hsw : swapsWith (.ListComp elt [⟨tg, .Name x pq, ifs, 0⟩] scope pos) (some (.Name y py)) spos.line C.env = pure true) (ok : BlkOk C.N C.env.scope scope own) (hj : ∀ i ∈ js, i ∈ own.map (·.2)) (rg : RG js g pg) (hs : ∀ v, foldedSetIterable (.Name x pq) C.env v = pure v := by intro _; rfl)
    (hNq : C.N[q]? = some x := by rfl) (hv : Vis C.env.scope x := by first | exact Or.inl rfl | exact Or.inr (Or.inl rfl) | exact Or.inr (Or.inr rfl)) (hd : (x == ("__debug__" : Str)) = false := by decide) (hcd : (x == ("__classdict__" : Str)) = false := by decide) :
    S fr C (.Assign [.Name y py] (.ListComp elt [⟨tg, .Name x pq, ifs, 0⟩] scope pos) spos) (sOwn i (eLcO q (own.map (·.2)) pg pt pe)) :=
  ⟨_, ps_setLc hc hN hy hyl hsw (pi_list (pe_var hNq hv hd hcd)) ok (fun s H Ca cl fp => (hg s H Ca cl fp).pg) (fun s H Ca cl fp => (ht s H Ca cl fp).ex) (fun s H Ca cl fp => (he s H Ca cl fp).pe) hs, rs_own (re_lcO rg hj rt_tP re_tP)⟩
end
theorem eLcO_i {q : Nat} {vs : List Nat} {pg : PGt} {pt : PTs'} {pe : PX} {env : List SV} {k : D → Prop} {ds : List D} (e : env[q]? = some (.own (.lst ds))) (h : noOwn env vs ∧ lcP pg pt pe (wipeE env vs) ds [] fun r => k (.lst r)) : eLcO q vs pg pt pe env k := by
  unfold eLcO
  rw [e]
  exact h
end Pu

set_option maxHeartbeats 1000000
/-! all(.. for .. in ..), any(..): the generator's frame, its turns, who asks it -/
namespace GnX
open PySem PySem.Spec PyProof.Rows L2 GenW GxR

/-- the code of a generator's turns, the around in it -/
abbrev gCode (elt tg iter : Expr) (scope : Scope) (gpos : Pos) (it : Addr) (cenv : Env) : Code := .compLoop (.GeneratorExp elt [⟨tg, iter, [], 0⟩] scope gpos) 0 (.ref it) .none cenv
def gA (A : Around) (cenv : Env) : Around := A.in1.in1.deeper cenv
theorem over_gen {A : Around} {elt tg iter : Expr} {scope : Scope} {gpos : Pos} {it : Addr} {cenv : Env} : A.in1.in1.over (gCode elt tg iter scope gpos it cenv) [] = gA A cenv := by
  unfold gA
  first
    | rfl
    | (obtain ⟨hd, d, fr, gs, u⟩ := A; simp [Around.over, Around.deeper, marksOver, frameCount, unitsOf, envsOf, guardsOf, pushEnvs, pushGuards, Code.envs, Code.env?, Code.isFrame, Code.guards, Code.isGuard, Code.weight, Code.frames, Code.isCreation, Code.isCaller, Code.cUnits])
theorem room_gen {k : Nat} {A : Around} (r : Room (k + 1) A) (env : Env) : Room k (gA A env) :=
  ⟨r.hd, by have := r.dp; show A.depth + 1 + 3 * k + 5 < _; omega, by have := r.un; show A.units + 1 + 1 + 3 + 16 * k + 200 < _; omega⟩
/-- the context of a generator's frame: made at s, its iterator's objects at fp, its own object in pn -/
abbrev genCx (X : Cx) (s : Shared) (H : Hp) (cenv : Env) (fp : List Addr) (pn : List (Addr × Obj)) : Cx :=
  { X with s_0 := s, H_0 := H, env := cenv, A := gA X.A cenv, outer := X.stack, stack := cenv :: X.stack, ex := fp, fn := fun _ => false, pn := pn, xe := fun _ _ => False }
/-- the frame's environment -/
abbrev genE (X : Cx) (scope : Scope) (C : Addr) (code : Value) : Env := genEnv scope (cloFrom X.env.cells scope.names []) C code builtinsNs X.env
section
variable {X : Cx} {pins : List (Addr × Obj)} {σ : L2.St} {H : Hp} {s : Shared}
theorem gen_start {scope : Scope} {own : List (Str × Nat)} {fp : List Addr} {code : Value} {h' : Heap} {m0 : Str → Option Value} {go : Obj} {G : Array GenState} {tk : Nat} (I : Inv X pins σ H s) (ok : BlkOk X.N X.env.scope scope own) (hcell : ∀ y ∈ scope.names, y.2 ≠ .cell) (hN : X.N.Nodup)
    (hfp : ∀ b ∈ fp, FpOk X pins H b ∧ b < s.heap.objs.size) (hn : h'.Ns s.heap.objs.size m0) (sb : Heap.SameBut s.heap.objs.size (s.heap.push { cls := .type "frame", data := .dict #[] }) h') (hgo : ∀ v, go.data ≠ .cell v) (hgp : (h'.push go).get? h'.objs.size = some go) (hG : AllBare G) :
    Inv (genCx X s H (genE X scope s.heap.objs.size code) fp [(h'.objs.size, go)]) [] (wipe σ (own.map (·.2))) H { s with gens := G, toks := tk, heap := h'.push go } := by
  have hfree : ∀ y ∈ scope.names, y.2 = .free → ∃ c, X.env.cells.lookup y.1 = some c := fun y hy e => by
    rcases ok.free y hy e with k | k
    · exact I.ok.has _ (.inl k)
    · exact I.ok.has _ (.inr k)
  generalize hcenv : genE X scope s.heap.objs.size code = cenv
  have hsz : h'.objs.size = s.heap.objs.size + 1 := by rw [sb.1, Heap.size_push]
  have kp : ∀ b o, s.heap.get? b = some o → (h'.push go).get? b = some o := fun b o e => Heap.get?_push_of_some _ (sb.extBut b o (Nat.ne_of_lt (Heap.lt_size e)) (Heap.get?_push_of_some _ e))
  have hL : cenv.locals = s.heap.objs.size := by rw [← hcenv]; rfl
  have hcl : cenv.cells = cloFrom X.env.cells scope.names [] := by rw [← hcenv]; rfl
  have hsc : cenv.scope = scope := by rw [← hcenv]; rfl
  have hfr : cenv.frame = some s.heap.objs.size := by rw [← hcenv]; rfl
  have cm : ∀ {y c}, (y, c) ∈ cloFrom X.env.cells scope.names [] → X.env.cells.lookup y = some c ∧ c < s.heap.objs.size := fun {y c} hm => by
    rcases cloFrom_mem hm with hm | ⟨h1, rfl⟩
    · cases hm
    · obtain ⟨c, hc⟩ := hfree _ h1 rfl
      rw [hc]
      obtain ⟨w, z⟩ := I.cell _ _ hc
      exact ⟨rfl, z.lt⟩
  have mem : ∀ {y c}, cenv.cells.lookup y = some c → X.env.cells.lookup y = some c ∧ c < s.heap.objs.size := fun {y c} e => by
    rw [hcl] at e
    exact cm (PySem.mem_of_lookup e)
  have look : ∀ {y}, scope.names.lookup y = some .free → ∃ c, cenv.cells.lookup y = some c ∧ X.env.cells.lookup y = some c := fun {y} hl => by
    have hy : (y, NameKind.free) ∈ scope.names := PySem.mem_of_lookup hl
    obtain ⟨c', e'⟩ := mem_lookup (cloFrom_has (cells := X.env.cells) (acc := []) hy)
    rw [← hcl] at e'
    exact ⟨c', e', (mem e').1⟩
  have nocell : ∀ y, scope.names.lookup y ≠ some .cell := fun y e => hcell _ (PySem.mem_of_lookup e) rfl
  have okB : (genCx X s H cenv fp [(h'.objs.size, go)]).Ok := by
    refine ⟨I.ok.mod, by show cenv.scope.kind = _; rw [hsc]; exact ok.kind, by show cenv.globals = _; rw [← hcenv]; exact I.ok.glob, by show cenv.builtins = _; rw [← hcenv]; rfl, by show s.heap.objs.size ≤ cenv.locals; rw [hL]; exact Nat.le_refl _,
      fun y z c e1 e2 => ?_, fun y hy => ?_, fun y c z e => ?_, I.ok.hd, ?_, .inr ⟨rfl, by show cenv.frame = some cenv.locals; rw [hfr, hL]⟩, fun b hb => ⟨?_, fun y c e z => ?_⟩, I.bs, Nat.le_trans I.ok.bsz I.sz, fun b o e hb => ?_, fun b hb z => ?_, I.stack, I.stkFree⟩
    · exact I.ok.inj y z c (mem e1).1 (mem e2).1
    · show ∃ c, cenv.cells.lookup y = some c
      have hy : scope.names.lookup y = some .cell ∨ scope.names.lookup y = some .free := by
        have hy : cenv.scope.names.lookup y = some .cell ∨ cenv.scope.names.lookup y = some .free := hy
        rw [hsc] at hy
        exact hy
      rcases hy with hy | hy
      · exact absurd hy (nocell y)
      · obtain ⟨c, h1, _⟩ := look hy
        exact ⟨c, h1⟩
    · exact absurd (show false = true from z) (by simp)
    · show (gA X.A cenv).frames = some (cenv :: X.stack)
      show X.A.frames.map (cenv :: ·) = _
      rw [I.ok.frames]
      rfl
    · show b ≠ cenv.locals
      rw [hL]; exact Nat.ne_of_lt (hfp b hb).2
    · have e : cenv.cells.lookup y = some c := e
      exact (hfp b hb).1.2.2.2.2.1 y c (mem e).1 z
    · rcases (hfp b hb).1.2.2.2.1 with z | z
      · exact I.ok.noex b o e z
      · exact absurd (Nat.lt_of_lt_of_le (Heap.lt_size e) (Nat.le_trans I.ok.bsz z)) (Nat.lt_irrefl _)
    · rcases List.mem_cons.mp (I.stkSub b z) with z | z
      · exact (hfp b hb).1.2.1 z
      · exact (hfp b hb).1.2.2.1 z
  have nfs : h'.objs.size ∉ frs X.stack := fun z => by
    rcases List.mem_cons.mp (I.stkSub _ z) with z | z
    · have := I.lt
      rw [← z, hsz] at this
      exact absurd (Nat.lt_trans (Nat.lt_succ_self _) this) (Nat.lt_irrefl _)
    · exact I.nofs (a := h'.objs.size) (by omega) z
  refine ⟨okB, rfl, hG, Un.kept kp, ⟨m0, ?_, fun i y av e1 e2 e3 => ?_⟩, fun y c e => ?_, ?_, fun y c e => ?_, fun p hp => ?_, I.hok.kept kp, by rw [wipe_length]; exact I.len⟩
  · show Heap.Ns _ cenv.locals _
    rw [hL]
    exact hn.push _
  · obtain ⟨e2, hne⟩ := wipe_some e2
    have e3 : Vis scope y := by
      have e3 : Vis cenv.scope y := e3
      rw [hsc] at e3
      exact e3
    have hfr : scope.names.lookup y = some .free := by
      have no : ∀ k', scope.names.lookup y = some k' → ¬ (k' = .local ∨ k' = .cell) := fun k' e hh => by
        rcases ok.own _ (PySem.mem_of_lookup e) hh with e' | e'
        · obtain ⟨p, hp, hpy⟩ := List.mem_map.mp e'
          have e3 := ok.ix p hp
          have : p.1 = y := hpy
          rw [this] at e3
          exact hne (List.mem_map.mpr ⟨p, hp, nodup_ix hN e3 e1⟩)
        · exact e' (List.mem_of_getElem? e1)
      rcases e3 with e3 | e3 | e3
      · exact absurd (.inl rfl) (no _ e3)
      · exact absurd (.inr rfl) (no _ e3)
      · exact e3
    obtain ⟨m, hn, hl⟩ := I.loc
    have hvis : Vis X.env.scope y := (ok.free _ (PySem.mem_of_lookup hfr) rfl).elim (fun k => .inr (.inl k)) (fun k => .inr (.inr k))
    obtain ⟨w, r, q⟩ := hl i y av e1 e2 hvis
    refine ⟨w, r, .inr ⟨.inr (by show cenv.scope.names.lookup y = _; rw [hsc]; exact hfr), ?_⟩⟩
    obtain ⟨c, h1, h2⟩ := look hfr
    rcases q with ⟨k, _⟩ | ⟨_, c', e', z⟩
    · have k : X.env.scope.names.lookup y = some .local := k
      rcases ok.free _ (PySem.mem_of_lookup hfr) rfl with k' | k' <;> rw [show X.env.scope.names.lookup y = _ from k'] at k <;> cases k
    · rw [h2] at e'; cases e'
      exact ⟨c, h1, z.keeps kp⟩
  · have e : cenv.cells.lookup y = some c := e
    obtain ⟨w, z⟩ := I.cell y c (mem e).1
    exact ⟨w, z.keeps kp⟩
  · show H cenv.locals = none
    rw [hL]; exact I.hok.fresh (Nat.le_refl _)
  · have e : cenv.cells.lookup y = some c := e
    exact I.freeC y c (mem e).1
  · have hp : p ∈ [(h'.objs.size, go)] ++ [] := hp
    rw [List.append_nil] at hp
    rw [List.mem_singleton.mp hp]
    refine ⟨hgp, I.hok.fresh (by omega), ?_, nfs, hgo⟩
    show h'.objs.size ≠ cenv.locals
    rw [hL]; omega
end

/-! ### the turns -/
/-- while it sleeps nothing that stands is changed -/
structure Slp (s s' : Shared) : Prop where
  os : s'.os = s.os
  bare : AllBare s'.gens
  keep : ∀ b o, s.heap.get? b = some o → s'.heap.get? b = some o
/-- a truth comes out: fin: it goes on; else it is over -/
def gY (X : Cx) (fin : Bool) (Q : VK) : Protocol := fun _ _ v s kap =>
  ∃ (b : Bool) (σ : L2.St) (H : Hp), v = .bool b ∧ Inv X [] σ H s ∧ ((b = fin ∧ ∀ s', Slp s s' → kap (.send .none) s') ∨ (b ≠ fin ∧ Q (.bl b) H))
def gP (X : Cx) (fin : Bool) (Q : VK) (s : Shared) : Prop := ∃ (σ : L2.St) (H : Hp), Inv X [] σ H s ∧ Q (.bl fin) H
abbrev gR (X : Cx) (fin : Bool) (Q : VK) : GenEnd := fun _ _ r s => r = .ok .next ∧ gP X fin Q s
theorem inv_slp {X : Cx} {pins : List (Addr × Obj)} {σ : L2.St} {H : Hp} {s s' : Shared} (I : Inv X pins σ H s) (z : Slp s s') : Inv X pins σ H s' :=
  I.call' (ch := []) z.os (Un.kept z.keep) (I.hok.kept z.keep) z.bare fun b hb => absurd hb (by simp)
section
variable {X : Cx} {s3 : Shared} {H3 : Hp} {cenv : Env} {fp : List Addr} {pn : List (Addr × Obj)} {elt tg iter : Expr} {scope : Scope} {gpos : Pos} {it : Addr} {J : It} {tn : Nat → Heap → Prop} {g : TG} {te : TE} {σ0 : L2.St} {vs : List Nat} {fin : Bool} {Q : VK} {W : Nat → Nat → Hp → Prop}
theorem seg_loop (hc : X.calm = true) (T : Turn X.prog X.w X.K tg J fp it tn) (pg : PG (genCx X s3 H3 cenv fp pn) tg g) (pe : PE (genCx X s3 H3 cenv fp pn) elt te) (hco : cenv.scope.isCoroutine = false) (hpn : ∀ p ∈ pn, p.1 ∉ fp)
    (turn : ∀ i m H, W i m H → (J.stop i H ∧ Q (.bl fin) H) ∨ (J.go i H ∧ ∃ Nx : Hp → Prop, (∀ H', Nx H' → ∃ m', m' < m ∧ W (i + 1) m' H') ∧ ∀ x H', J.yld i H x H' → g x σ0 H' fun σ2 H2 => wipe σ2 vs = σ0 ∧ te σ2 H2 fun y H4 => ∃ b : Bool, y = .bl b ∧ ((b = fin ∧ Nx H4) ∨ (b ≠ fin ∧ Q (.bl b) H4)))) :
    ∀ (n m i : Nat) (H : Hp) (s₀ s : Shared), m < n → W i m H → Inv (genCx X s3 H3 cenv fp pn) [] σ0 H s → tn i s.heap → (∀ b ∈ fp, H b = none) →
      Seg (model X.prog X.w) X.A.in1.in1 (gR (genCx X s3 H3 cenv fp pn) fin Q) (gY (genCx X s3 H3 cenv fp pn) fin Q) n s₀ (gCode elt tg iter scope gpos it cenv) ((model X.prog X.w).den (gCode elt tg iter scope gpos it cenv)) [] s := by
  have stat : ∀ {σ' : L2.St} {H' : Hp} {s' : Shared}, Inv (genCx X s3 H3 cenv fp pn) [] σ' H' s' → (∀ b ∈ fp, H' b = none) → ∀ b ∈ fp, FpOk (genCx X s3 H3 cenv fp pn) [] H' b := fun {σ' H' s'} I' hn b hb =>
    ⟨hn b hb, (I'.ok.exf b hb).1, I'.ok.exfs b hb, .inl hb, fun x c e => (I'.ok.exf b hb).2 x c e, fun p hp e => by
      have hp : p ∈ pn ++ [] := hp
      rw [List.append_nil] at hp
      exact hpn p hp (by rw [e]; exact hb)⟩
  intro n
  induction n with
  | zero => intro m i H s₀ s hm; exact absurd hm (Nat.not_lt_zero _)
  | succ n ih =>
    intro m i H s₀ s hm w I st hn
    show Seg _ X.A.in1.in1 _ _ _ s₀ _ ((compTurn (.GeneratorExp elt [⟨tg, iter, [], 0⟩] scope gpos) 0 (.ref it) .none cenv).onRaise (leaving cenv)) [] s
    rw [compTurn_gen, Sem.onRaise_eq_wrap]
    refine seg_bind_wrap (wpAny_standAt ?_)
    rcases turn i m H w with ⟨stop, qq⟩ | ⟨go, Nx, hNx, step⟩
    · have td := T.done (genCx X s3 H3 cenv fp pn) rfl rfl rfl hc i [] s σ0 H (fun _ _ => False) I (stat I hn) st stop
      refine seg_bind_wrap ?_
      rw [over_gen]
      refine wpAny_mono td (fun r s6 ⟨hr, I6⟩ => ?_) fun _ _ z => z.elim
      subst hr
      exact seg_end (.ok .next) ⟨rfl, σ0, H, I6, qq⟩
    · have ti := T.item (genCx X s3 H3 cenv fp pn) rfl rfl rfl hc i [] s σ0 H (fun _ _ => False) I (stat I hn) st go
      refine seg_bind_wrap ?_
      rw [over_gen]
      refine wpAny_mono ti (fun r s6 ⟨u, hr, h6⟩ => ?_) fun _ _ z => z.elim
      subst hr
      refine seg_bind_wrap ?_
      rw [over_gen]
      refine wpAny_mono h6 (fun _ s7 ⟨x, H7, I7, r7, y7, st7, n7⟩ => ?_) fun _ _ z => z.elim
      have I7' := I7.pinned (stat I7 n7) (T.obj _ _ st7)
      refine seg_bind_wrap ?_
      rw [over_gen]
      refine wpAny_mono (pg.run _ s7 _ H7 x u _ I7' r7 (step x H7 y7)) (fun _ s8 ⟨σ8, H8, I8, hw8, q8⟩ => ?_) fun _ _ z => (show False from z).elim
      refine seg_bind_wrap ?_
      simp only [List.forIn_nil]
      refine wpAny_pure ?_
      simp only [if_true]
      have hy : ∀ v, yieldOut cenv v = yieldValue v := fun v => by simp only [yieldOut, hco, Bool.false_eq_true, if_false]
      simp only [hy]
      rw [Sem.bind_eq_wrap', Sem.bind_eq_wrap', Sem.wrap_wrap, Sem.wrap_wrap]
      refine seg_wrap ?_
      rw [over_gen]
      refine wpAny_mono (pe.run _ s8 σ8 H8 _ I8 q8) (fun v s10 ⟨yv, H10, I10, r10, b, eb, q10⟩ => ?_) fun _ _ z => (show False from z).elim
      subst eb
      obtain rfl : v = Value.bool b := r10
      refine seg_at (seg_yield rfl rfl rfl ⟨b, σ8, H10, rfl, I10.unpinned (pins := []), ?_⟩)
      rcases q10 with ⟨e, nx⟩ | ⟨e, q⟩
      · refine .inl ⟨e, fun s'' z => ?_⟩
        obtain ⟨m', hm', w'⟩ := hNx H10 nx
        have pin' : ∀ b ∈ fp, ∀ o, s7.heap.get? b = some o → s10.heap.get? b = some o ∧ H10 b = none := fun b hb o e =>
          let z := I10.pin (b, o) (List.mem_append_right _ (List.mem_append_right _ (mem_pinsAt hb e)))
          ⟨z.1, z.2.1⟩
        have hl : σ0.length = σ8.length := by rw [← hw8, wipe_length]
        have I11 : Inv (genCx X s3 H3 cenv fp pn) [] σ0 H10 s10 := (I10.unpinned (pins := [])).weak hl fun j v e => by
          rw [← hw8] at e
          exact (wipe_some e).1
        refine seg_again rfl (ih m' (i + 1) H10 s'' s'' (by omega) w' (inv_slp I11 z) (T.keep _ _ _ st7 fun b hb o e => z.keep b o (pin' b hb o e).1) fun b hb => ?_)
        obtain ⟨o, e, _⟩ := T.obj _ _ st7 b hb
        exact (pin' b hb o e).2
      · exact .inr ⟨e, q⟩
theorem seg_begin {n : Nat} {s₀ s : Shared} (T : Turn X.prog X.w X.K tg J fp it tn) (st : tn 0 s.heap)
    (loop : Seg (model X.prog X.w) X.A.in1.in1 (gR (genCx X s3 H3 cenv fp pn) fin Q) (gY (genCx X s3 H3 cenv fp pn) fin Q) n s₀ (gCode elt tg iter scope gpos it cenv) ((model X.prog X.w).den (gCode elt tg iter scope gpos it cenv)) [] s) :
    Seg (model X.prog X.w) X.A.in1.in1 (gR (genCx X s3 H3 cenv fp pn) fin Q) (gY (genCx X s3 H3 cenv fp pn) fin Q) n s₀ (.compStart (.GeneratorExp elt [⟨tg, iter, [], 0⟩] scope gpos) 0 (.ref it) .none cenv)
      ((model X.prog X.w).den (.compStart (.GeneratorExp elt [⟨tg, iter, [], 0⟩] scope gpos) 0 (.ref it) .none cenv)) [] s := by
  show Seg _ X.A.in1.in1 _ _ _ s₀ _ ((compStart (.GeneratorExp elt [⟨tg, iter, [], 0⟩] scope gpos) 0 (.ref it) .none cenv).onRaise (leaving cenv)) [] s
  unfold compStart
  rw [Sem.onRaise_eq_wrap]
  show Seg _ X.A.in1.in1 _ _ _ s₀ _ ((ask >>= _).wrap _ _ _ _) [] s
  refine seg_bind_wrap (wpAny_askSetting ?_)
  split
  · exact seg_again rfl loop
  · first
      | exact seg_bind_wrap (wpAny_rule (seg_bind_wrap (wpAny_standAt (seg_bind_wrap (T.self _ 0 s _ _ st (seg_again rfl loop))))))
      | (refine seg_bind_wrap (wpAny_rule ?_); show Seg _ X.A.in1.in1 _ _ _ s₀ _ ((standAt iter.pos >>= _).wrap _ _ _ _) [] s; exact seg_bind_wrap (wpAny_standAt (seg_bind_wrap (T.self _ 0 s _ _ st (seg_again rfl loop)))))
end

/-! ### who asks -/
section
variable {X : Cx} {s3 : Shared} {H3 : Hp} {cenv : Env} {fp : List Addr} {pn : List (Addr × Obj)} {Q : VK} {R : Result → Shared → Prop} {a : Addr} {g : Nat}
theorem all_loop (hh : X.A.handled = none) (hroom : X.A.depth < recursionLimit) (hgen : ∀ σ H s, Inv (genCx X s3 H3 cenv fp pn) [] σ H s → s.heap.IsGen a g)
    (hR : ∀ b σ H s, Inv (genCx X s3 H3 cenv fp pn) [] σ H s → Q (.bl b) H → R (.ok (.ret (.bool b))) s) :
    ∀ (n : Nat) (s : Shared), s.heap.IsGen a g → s.heap.NoLimit → (∃ gs, s.gens[g]? = some gs ∧ gs.Goes (model X.prog X.w) X.A.in1.in1 (gR (genCx X s3 H3 cenv fp pn) true Q) (gY (genCx X s3 H3 cenv fp pn) true Q) n (.send .none) (s.setGen g .running)) →
      codeAny (model X.prog X.w) X.A (.builtin "all.loop" ⟨[.ref a], []⟩) R s := by
  intro n
  induction n with
  | zero =>
    rintro s hg hl ⟨gs, hgs, hgo⟩
    refine codeAny_builtin F.entry_all_loop ?_
    rw [Around.under_plainId F.plain_all_loop _]
    show wpAny _ X.A.in1 (pyNext (.ref a) >>= _) _ _ s
    refine wpAny_bind (wpAny_pyNext_genexpQ (A := X.A.in1) (P := fun _ _ s₁ => gP (genCx X s3 H3 cenv fp pn) true Q s₁) hh hl hroom hg hgs hgo (fun v s₁ gs' hb hv => ?_) (fun s₁ hp h' hk => ?_))
    · obtain ⟨b, σ, H, rfl, I, ⟨e, k⟩ | ⟨e, q⟩⟩ := hv
      · exact (show False from k (s₁.setGen g gs') ⟨rfl, allBare_setGen I.bare hb, fun _ _ e => e⟩).elim
      · refine wpAny_bind (wpAny_holding (wpAny_truthy_bool ?_))
        refine wpAny_bind (wpAny_letGo ?_)
        have eb : b = false := by cases b <;> simp_all
        subst eb
        simp only [if_true, if_false, Bool.false_eq_true]
        refine wpAny_bind (wpAny_rule (wpAny_pure ?_))
        exact hR false σ H _ (inv_slp I ⟨rfl, allBare_setGen I.bare hb, fun _ _ e => e⟩) q
    · obtain ⟨σ, H, I, q⟩ := hp
      exact wpAny_bind (wpAny_rule (wpAny_pure (hR true σ H _ (inv_slp I ⟨rfl, allBare_setGen I.bare rfl, hk⟩) q)))
  | succ n ih =>
    rintro s hg hl ⟨gs, hgs, hgo⟩
    refine codeAny_builtin F.entry_all_loop ?_
    rw [Around.under_plainId F.plain_all_loop _]
    show wpAny _ X.A.in1 (pyNext (.ref a) >>= _) _ _ s
    refine wpAny_bind (wpAny_gsz (n := g + 1) (Array.getElem?_eq_some_iff.mp hgs).1 ?_)
    refine wpAny_mono (wpAny_pyNext_genexpQ (E := fun _ _ => False) (Q := fun r s' => g + 1 ≤ s'.gens.size → _) (A := X.A.in1) (P := fun _ _ s₁ => gP (genCx X s3 H3 cenv fp pn) true Q s₁) hh hl hroom hg hgs hgo (fun v s₁ gs' hb hv hsz => ?_) (fun s₁ hp h' hk hsz => ?_)) (fun _ _ z => z) fun _ _ z => z.elim
    · obtain ⟨b, σ, H, rfl, I, ⟨e, k⟩ | ⟨e, q⟩⟩ := hv
      · refine wpAny_bind (wpAny_holding (wpAny_truthy_bool ?_))
        refine wpAny_bind (wpAny_letGo ?_)
        subst e
        simp only [if_true, if_false, Bool.false_eq_true]
        refine wpAny_pure ⟨plainId_quiet F.plain_all_loop _, ?_⟩
        rw [setGen_size] at hsz
        have hI2 : Inv (genCx X s3 H3 cenv fp pn) [] σ H (s₁.setGen g gs') := inv_slp I ⟨rfl, allBare_setGen I.bare hb, fun _ _ e => e⟩
        refine ih _ (hgen σ H _ hI2) hI2.nolimit ⟨gs', setGen_at hsz, ?_⟩
        exact k _ ⟨rfl, allBare_setGen hI2.bare rfl, fun _ _ e => e⟩
      · refine wpAny_bind (wpAny_holding (wpAny_truthy_bool ?_))
        refine wpAny_bind (wpAny_letGo ?_)
        have eb : b = false := by cases b <;> simp_all
        subst eb
        simp only [if_true, if_false, Bool.false_eq_true]
        refine wpAny_bind (wpAny_rule (wpAny_pure ?_))
        exact hR false σ H _ (inv_slp I ⟨rfl, allBare_setGen I.bare hb, fun _ _ e => e⟩) q
    · obtain ⟨σ, H, I, q⟩ := hp
      exact wpAny_bind (wpAny_rule (wpAny_pure (hR true σ H _ (inv_slp I ⟨rfl, allBare_setGen I.bare rfl, hk⟩) q)))
theorem any_loop (hh : X.A.handled = none) (hroom : X.A.depth < recursionLimit) (hgen : ∀ σ H s, Inv (genCx X s3 H3 cenv fp pn) [] σ H s → s.heap.IsGen a g)
    (hR : ∀ b σ H s, Inv (genCx X s3 H3 cenv fp pn) [] σ H s → Q (.bl b) H → R (.ok (.ret (.bool b))) s) :
    ∀ (n : Nat) (s : Shared), s.heap.IsGen a g → s.heap.NoLimit → (∃ gs, s.gens[g]? = some gs ∧ gs.Goes (model X.prog X.w) X.A.in1.in1 (gR (genCx X s3 H3 cenv fp pn) false Q) (gY (genCx X s3 H3 cenv fp pn) false Q) n (.send .none) (s.setGen g .running)) →
      codeAny (model X.prog X.w) X.A (.builtin "any.loop" ⟨[.ref a], []⟩) R s := by
  intro n
  induction n with
  | zero =>
    rintro s hg hl ⟨gs, hgs, hgo⟩
    refine codeAny_builtin F.entry_any_loop ?_
    rw [Around.under_plainId F.plain_any_loop _]
    show wpAny _ X.A.in1 (pyNext (.ref a) >>= _) _ _ s
    refine wpAny_bind (wpAny_pyNext_genexpQ (A := X.A.in1) (P := fun _ _ s₁ => gP (genCx X s3 H3 cenv fp pn) false Q s₁) hh hl hroom hg hgs hgo (fun v s₁ gs' hb hv => ?_) (fun s₁ hp h' hk => ?_))
    · obtain ⟨b, σ, H, rfl, I, ⟨e, k⟩ | ⟨e, q⟩⟩ := hv
      · exact (show False from k (s₁.setGen g gs') ⟨rfl, allBare_setGen I.bare hb, fun _ _ e => e⟩).elim
      · refine wpAny_bind (wpAny_holding (wpAny_truthy_bool ?_))
        refine wpAny_bind (wpAny_letGo ?_)
        have eb : b = true := by cases b <;> simp_all
        subst eb
        simp only [if_true, if_false, Bool.false_eq_true]
        refine wpAny_bind (wpAny_rule (wpAny_pure ?_))
        exact hR true σ H _ (inv_slp I ⟨rfl, allBare_setGen I.bare hb, fun _ _ e => e⟩) q
    · obtain ⟨σ, H, I, q⟩ := hp
      exact wpAny_bind (wpAny_rule (wpAny_pure (hR false σ H _ (inv_slp I ⟨rfl, allBare_setGen I.bare rfl, hk⟩) q)))
  | succ n ih =>
    rintro s hg hl ⟨gs, hgs, hgo⟩
    refine codeAny_builtin F.entry_any_loop ?_
    rw [Around.under_plainId F.plain_any_loop _]
    show wpAny _ X.A.in1 (pyNext (.ref a) >>= _) _ _ s
    refine wpAny_bind (wpAny_gsz (n := g + 1) (Array.getElem?_eq_some_iff.mp hgs).1 ?_)
    refine wpAny_mono (wpAny_pyNext_genexpQ (E := fun _ _ => False) (Q := fun r s' => g + 1 ≤ s'.gens.size → _) (A := X.A.in1) (P := fun _ _ s₁ => gP (genCx X s3 H3 cenv fp pn) false Q s₁) hh hl hroom hg hgs hgo (fun v s₁ gs' hb hv hsz => ?_) (fun s₁ hp h' hk hsz => ?_)) (fun _ _ z => z) fun _ _ z => z.elim
    · obtain ⟨b, σ, H, rfl, I, ⟨e, k⟩ | ⟨e, q⟩⟩ := hv
      · refine wpAny_bind (wpAny_holding (wpAny_truthy_bool ?_))
        refine wpAny_bind (wpAny_letGo ?_)
        subst e
        simp only [if_true, if_false, Bool.false_eq_true]
        refine wpAny_pure ⟨plainId_quiet F.plain_any_loop _, ?_⟩
        rw [setGen_size] at hsz
        have hI2 : Inv (genCx X s3 H3 cenv fp pn) [] σ H (s₁.setGen g gs') := inv_slp I ⟨rfl, allBare_setGen I.bare hb, fun _ _ e => e⟩
        refine ih _ (hgen σ H _ hI2) hI2.nolimit ⟨gs', setGen_at hsz, ?_⟩
        exact k _ ⟨rfl, allBare_setGen hI2.bare rfl, fun _ _ e => e⟩
      · refine wpAny_bind (wpAny_holding (wpAny_truthy_bool ?_))
        refine wpAny_bind (wpAny_letGo ?_)
        have eb : b = true := by cases b <;> simp_all
        subst eb
        simp only [if_true, if_false, Bool.false_eq_true]
        refine wpAny_bind (wpAny_rule (wpAny_pure ?_))
        exact hR true σ H _ (inv_slp I ⟨rfl, allBare_setGen I.bare hb, fun _ _ e => e⟩) q
    · obtain ⟨σ, H, I, q⟩ := hp
      exact wpAny_bind (wpAny_rule (wpAny_pure (hR false σ H _ (inv_slp I ⟨rfl, allBare_setGen I.bare rfl, hk⟩) q)))
end

/-! ### the expression -/
/-- all (fin = true) or any (fin = false) of truths handed out; P: the running def's table -/
def tAskG (P : Addr) (fin : Bool) (wi : TI) (g : TG) (te : TE) (vs : List Nat) : TE := fun σ H Q => wi σ H fun J H1 => TabG H1 P ∧ ∀ H2, Tabbed P H1 H2 → ∃ W : Nat → Nat → Hp → Prop, (∃ m, W 0 m H2) ∧ ∀ i m H, W i m H →
  (J.stop i H ∧ Q (.bl fin) H) ∨ (J.go i H ∧ ∃ Nx : Hp → Prop, (∀ H', Nx H' → ∃ m', m' < m ∧ W (i + 1) m' H') ∧ ∀ x H', J.yld i H x H' → g x (wipe σ vs) H' fun σ2 H3 => wipe σ2 vs = wipe σ vs ∧ te σ2 H3 fun y H4 => ∃ b : Bool, y = .bl b ∧ ((b = fin ∧ Nx H4) ∨ (b ≠ fin ∧ Q (.bl b) H4)))
section
variable {X : Cx} {c P : Addr} {elt tg iter : Expr} {scope : Scope} {own : List (Str × Nat)} {gpos : Pos} {wi : TI} {g : TG} {te : TE} {k : Nat} {pins : List (Addr × Obj)} {σ : L2.St} {H : Hp} {s : Shared} {Q : VK} {fin : Bool} {Q' : Value → Shared → Prop}
/-- the generator is made -/
theorem made (hr : Room (k + 1) X.A) (hc : X.calm = true) (hN : X.N.Nodup) (TB : TabB X.base X.mg c P) (hcode : X.env.code = .ref c) (ok : BlkOk X.N X.env.scope scope own) (hcell : ∀ y ∈ scope.names, y.2 ≠ .cell) (h0 : scope.names.lookup (".0" : Str) = some NameKind.local) (hco : scope.isCoroutine = false)
    (hi : PI X tg iter wi) (hg : ∀ (s : Shared) (H : Hp) (C : Addr) (code : Value) (fp : List Addr) (pn : List (Addr × Obj)), PG (genCx X s H (genE X scope C code) fp pn) tg g) (he : ∀ (s : Shared) (H : Hp) (C : Addr) (code : Value) (fp : List Addr) (pn : List (Addr × Obj)), PE (genCx X s H (genE X scope C code) fp pn) elt te)
    (hs : ∀ v, genFold iter X.env v = pure v) (I : Inv X pins σ H s) (h : tAskG P fin wi g te (own.map (·.2)) σ H Q)
    (hQ : ∀ (a : Addr) (gn : Nat) (n : Nat) (s3 : Shared) (H3 : Hp) (cenv : Env) (fp : List Addr) (pn : List (Addr × Obj)) (s5 : Shared), s5.heap.IsGen a gn → s5.heap.NoLimit → (∀ σ' H' s', Inv (genCx X s3 H3 cenv fp pn) [] σ' H' s' → s'.heap.IsGen a gn) →
      (∀ σ' H' s', Inv (genCx X s3 H3 cenv fp pn) [] σ' H' s' → Inv X pins σ H' s') →
      (∃ gs, s5.gens[gn]? = some gs ∧ gs.Goes (model X.prog X.w) X.A.in1.in1 (gR (genCx X s3 H3 cenv fp pn) fin Q) (gY (genCx X s3 H3 cenv fp pn) fin Q) n (.send .none) (s5.setGen gn .running)) → Q' (.ref a) s5) :
    wpAny (model X.prog X.w) X.A (eval (.GeneratorExp elt [⟨tg, iter, [], 0⟩] scope gpos) X.env) Q' X.xe s := by
  have hfree : ∀ y ∈ scope.names, y.2 = .free → ∃ c, X.env.cells.lookup y.1 = some c := fun y hy e => by
    rcases ok.free y hy e with k | k
    · exact I.ok.has _ (.inl k)
    · exact I.ok.has _ (.inr k)
  refine wpAny_GeneratorExp_make hco (closure_ok hfree) hcell h0 ok.kind hr.depth ?_ hs
  refine thn (hi.run pins s σ H _ I h) fun xv s1 hx => thn hx fun itv s2 h2 => ?_
  obtain ⟨it, fp, tn, J, H2, e, I2, T, st2, f2, ⟨ps, hP, ht⟩, q⟩ := h2
  subst e
  have hPs : s2.heap.get? P = some { cls := .none, data := .fields ps } := I2.hok P _ hP
  have cd : PySem.W.CodeHd s2.heap c P := TB.code.keeps I2.bk
  have fpP : ∀ b ∈ fp, b ≠ P := fun b hb e => by
    have := (f2 b hb).1
    rw [e, hP] at this
    cases this
  have cont : ∀ (code : Value) (h3 : Heap) (tk : Nat) (ps' : Array Value), Heap.ExtBut P s2.heap h3 → s2.heap.objs.size ≤ h3.objs.size → h3.get? P = some { cls := .none, data := .fields ps' } → (∃ more, ps' = ps ++ more) → TriplesOk ps'.toList →
      wpAny (model X.prog X.w) X.A (builtinsFor X.env.globals X.env.builtins) (fun bi s₄ =>
        ∀ h', h'.Ns s₄.heap.objs.size (fun y => if y = ".0" then some (.ref it) else none) → Heap.SameBut s₄.heap.objs.size (s₄.heap.push { cls := .type "frame", data := .dict #[] }) h' →
          Q' (.ref h'.objs.size) { s₄ with
            gens := s₄.gens.push (.fresh (.compStart (.GeneratorExp elt [⟨tg, iter, [], 0⟩] scope gpos) 0 (.ref it) .none (genEnv scope (cloFrom X.env.cells scope.names []) s₄.heap.objs.size code bi X.env))),
            toks := s₄.toks + 1 + 1 + 1,
            heap := h'.push { cls := .type "generator", data := .fields #[.int s₄.gens.size 0, .str "<genexpr>" (s₄.toks + 1), .str (X.env.qual ++ "<genexpr>") (s₄.toks + 1 + 1)] } }) X.xe { s2 with heap := h3, toks := tk } := by
    intro code h3 tk ps' hx hsz hP3 hmore ht3
    obtain ⟨more, em⟩ := hmore
    obtain ⟨bm, ob, e1, e2, e3, e4, e5, e6, e7, e8⟩ := TB.bm
    have keep3 : ∀ b u, b ≠ P → s2.heap.get? b = some u → h3.get? b = some u := fun b u hb e => hx b u hb e
    refine wpAny_builtinsFor (m := X.mg) (by rw [I2.ok.glob]; exact ((I2.mod.glob.keeps I2.bk)).extBut hx TB.gP) e1 e2 (keep3 _ _ e4 (I2.bk _ _ e5)) e6 e7 e8 ?_
    have I3 : Inv X pins σ (upd H2 P (.tbl (ps ++ more))) { s2 with heap := h3, toks := tk } := inv_tab (more := more) (g' := s2.gens) (d' := s2.drawn) (t' := tk) I2 hP keep3 (by rw [← em]; exact hP3) I2.bare
    have tb : Tabbed P H2 (upd H2 P (.tbl (ps ++ more))) := ⟨⟨ps ++ more, upd_same, by rw [← em]; exact ht3⟩, fun b hb => upd_ne hb⟩
    obtain ⟨W, ⟨m0, w0⟩, turn⟩ := q _ tb
    have lt2 : ∀ b ∈ fp, b < s2.heap.objs.size := fun b hb => by
      obtain ⟨o, e, _⟩ := T.obj _ _ st2 b hb
      exact Heap.lt_size e
    have f3 : ∀ b ∈ fp, FpOk X pins (upd H2 P (.tbl (ps ++ more))) b ∧ b < h3.objs.size := fun b hb => by
      refine ⟨⟨?_, (f2 b hb).2⟩, Nat.lt_of_lt_of_le (lt2 b hb) hsz⟩
      rw [upd_ne (fpP b hb)]
      exact (f2 b hb).1
    generalize hs3 : ({ s2 with heap := h3, toks := tk } : Shared) = s3 at I3 ⊢
    have h33 : s3.heap = h3 := by rw [← hs3]
    rw [← h33] at f3
    intro h' hn' hs'
    have I5 := gen_start (code := code) (G := s3.gens.push (.fresh (.compStart (.GeneratorExp elt [⟨tg, iter, [], 0⟩] scope gpos) 0 (.ref it) .none (genE X scope s3.heap.objs.size code)))) (tk := s3.toks + 1 + 1 + 1)
      (go := { cls := .type "generator", data := .fields #[.int s3.gens.size 0, .str "<genexpr>" (s3.toks + 1), .str (X.env.qual ++ "<genexpr>") (s3.toks + 1 + 1)] }) I3 ok hcell hN f3 hn' hs' (fun v z => by cases z) (Heap.get?_push_size _ rfl) (AllBare.push I3.bare rfl)
    have hsz' : h'.objs.size = s3.heap.objs.size + 1 := by rw [hs'.1, Heap.size_push]
    have isgen : ∀ σ' H' s', Inv (genCx X s3 (upd H2 P (.tbl (ps ++ more))) (genE X scope s3.heap.objs.size code) fp [(h'.objs.size, { cls := .type "generator", data := .fields #[.int s3.gens.size 0, .str "<genexpr>" (s3.toks + 1), .str (X.env.qual ++ "<genexpr>") (s3.toks + 1 + 1)] })]) [] σ' H' s' → s'.heap.IsGen h'.objs.size s3.gens.size := fun σ' H' s' J' =>
      ⟨_, _, _, (J'.pin (h'.objs.size, _) (List.mem_append_left _ (List.mem_singleton.mpr rfl))).1, rfl, rfl, rfl⟩
    have keep5 : ∀ b o, s3.heap.get? b = some o → (h'.push { cls := .type "generator", data := .fields #[.int s3.gens.size 0, .str "<genexpr>" (s3.toks + 1), .str (X.env.qual ++ "<genexpr>") (s3.toks + 1 + 1)] }).get? b = some o := fun b o e => Heap.get?_push_of_some _ (hs'.extBut b o (Nat.ne_of_lt (Heap.lt_size e)) (Heap.get?_push_of_some _ e))
    have st3 : tn 0 s3.heap := T.keep _ _ _ st2 fun b hb o e => by rw [h33]; exact keep3 b o (fpP b hb) e
    have st5 := T.keep _ _ _ st3 fun b hb o e => keep5 b o e
    refine hQ h'.objs.size s3.gens.size (m0 + 1) s3 _ (genE X scope s3.heap.objs.size code) fp _ _ (isgen _ _ _ I5) I5.nolimit isgen (fun σ' H' s' J' => ?_) ⟨_, Array.getElem?_push_size .., rfl, ?_⟩
    · exact I3.call' (ch := fp) J'.os J'.base J'.hok J'.bare fun b hb => ⟨(f3 b hb).1.2.2.2.1, (f3 b hb).1.2.1, (f3 b hb).1.2.2.2.2.1, (f3 b hb).1.2.2.2.2.2⟩
    · refine seg_begin (J := J) T ?_ (seg_loop (W := W) hc T (hg s3 _ s3.heap.objs.size code fp _) (he s3 _ s3.heap.objs.size code fp _) hco ?_ turn (m0 + 1) m0 0 _ _ _ (Nat.lt_succ_self _) w0 (inv_slp I5 ⟨rfl, allBare_setGen I5.bare rfl, fun _ _ e => e⟩) ?_ fun b hb => (f3 b hb).1.1)
      · exact st5
      · intro p hp z
        rw [List.mem_singleton.mp hp] at z
        have := (f3 _ z).2
        rw [hsz'] at this
        exact absurd (Nat.lt_trans (Nat.lt_succ_self _) this) (Nat.lt_irrefl _)
      · exact st5
  refine ⟨I2.nolimit, ?_⟩
  cases hf : codeAmong gpos ps.toList with
  | none =>
    refine wpAny_genexprCodeX hcode (cd.code hPs ht) (cd.tab hPs) hf fun c' h' tk hx hge hlt hco' _ htab' _ => ?_
    obtain ⟨o1, vs, f1, tf, fl, tg, inF, tx, tt, op, _, _, _, _, _, _, _, _, _, htr, _⟩ := hco'
    exact cont _ h' tk _ hx (Nat.le_trans hge (Nat.le_of_lt hlt)) htab'.2 ⟨_, rfl⟩ htr
  | some cv =>
    refine wpAny_genexprCode_hit hcode (cd.code hPs ht) hf ?_
    exact cont cv s2.heap s2.toks ps (Heap.ExtBut.refl _ _) (Nat.le_refl _) hPs ⟨#[], by simp⟩ ht
end
section
variable {X : Cx} {c P : Addr} {elt tg iter : Expr} {scope : Scope} {own : List (Str × Nat)} {p pos gpos : Pos} {wi : TI} {g : TG} {te : TE} {k : Nat}
theorem pe_allG (hr : Room (k + 1) X.A) (hc : X.calm = true) (hN : X.N.Nodup) (hgl : Gl X "all") (hm : X.mg "all" = none) (TB : TabB X.base X.mg c P) (hcode : X.env.code = .ref c) (ok : BlkOk X.N X.env.scope scope own) (hcell : ∀ y ∈ scope.names, y.2 ≠ .cell) (h0 : scope.names.lookup (".0" : Str) = some NameKind.local) (hco : scope.isCoroutine = false)
    (hi : PI X tg iter wi) (hg : ∀ (s : Shared) (H : Hp) (C : Addr) (code : Value) (fp : List Addr) (pn : List (Addr × Obj)), PG (genCx X s H (genE X scope C code) fp pn) tg g) (he : ∀ (s : Shared) (H : Hp) (C : Addr) (code : Value) (fp : List Addr) (pn : List (Addr × Obj)), PE (genCx X s H (genE X scope C code) fp pn) elt te)
    (hs : ∀ v, genFold iter X.env v = pure v := by intro _; rfl)
    (hst : starEach [.GeneratorExp elt [⟨tg, iter, [], 0⟩] scope gpos] X.env = (false, eval (.GeneratorExp elt [⟨tg, iter, [], 0⟩] scope gpos) X.env) :: starEach [] X.env := by rfl) :
    PE X (.Call (.Name "all" p) [.GeneratorExp elt [⟨tg, iter, [], 0⟩] scope gpos] [] pos) (tAskG P true wi g te (own.map (·.2))) := by
  refine ⟨fun pins s σ H Q I h => ?_⟩
  refine wpAny_Call_Name_kw (ld_blt I hgl hm (u := .builtin "all") (by first | rfl | decide +kernel) ?_ (by first | decide +kernel | decide) (by first | decide +kernel | decide))
  refine PyProof.Rows.callWith_builtin1 ?_ hst (by rfl)
  rw [hst]
  show wpAny _ _ (spliced ((false, eval (.GeneratorExp elt [⟨tg, iter, [], 0⟩] scope gpos) X.env) :: backTo pos (starEach [] X.env))) _ _ s
  refine Calls.spliced_cons (made hr hc hN TB hcode ok hcell h0 hco hi hg he hs I h fun a gn n s3 H3 cenv fp pn s5 i1 i2 i3 i4 i5 => ?_)
  refine Calls.spliced_nil ?_
  refine call_function_tree F.kind_all F.plain_all F.entry_all (F.args_all1 _) ?_
  unfold Builtin.«all»
  refine wpAny_bind (m := oneArg "all" _) (wpAny_pure ?_)
  refine wpAny_bind (wpAny_pyIter_gen i1 ?_)
  exact wpAny_pure ⟨plainId_quiet F.plain_all_loop _, all_loop hr.hd hr.depth i3 (fun b σ' H' s' J' q => ⟨.bl b, H', i4 σ' H' s' J', rfl, q⟩) n s5 i1 i2 i5⟩
theorem pe_anyG (hr : Room (k + 1) X.A) (hc : X.calm = true) (hN : X.N.Nodup) (hgl : Gl X "any") (hm : X.mg "any" = none) (TB : TabB X.base X.mg c P) (hcode : X.env.code = .ref c) (ok : BlkOk X.N X.env.scope scope own) (hcell : ∀ y ∈ scope.names, y.2 ≠ .cell) (h0 : scope.names.lookup (".0" : Str) = some NameKind.local) (hco : scope.isCoroutine = false)
    (hi : PI X tg iter wi) (hg : ∀ (s : Shared) (H : Hp) (C : Addr) (code : Value) (fp : List Addr) (pn : List (Addr × Obj)), PG (genCx X s H (genE X scope C code) fp pn) tg g) (he : ∀ (s : Shared) (H : Hp) (C : Addr) (code : Value) (fp : List Addr) (pn : List (Addr × Obj)), PE (genCx X s H (genE X scope C code) fp pn) elt te)
    (hs : ∀ v, genFold iter X.env v = pure v := by intro _; rfl)
    (hst : starEach [.GeneratorExp elt [⟨tg, iter, [], 0⟩] scope gpos] X.env = (false, eval (.GeneratorExp elt [⟨tg, iter, [], 0⟩] scope gpos) X.env) :: starEach [] X.env := by rfl) :
    PE X (.Call (.Name "any" p) [.GeneratorExp elt [⟨tg, iter, [], 0⟩] scope gpos] [] pos) (tAskG P false wi g te (own.map (·.2))) := by
  refine ⟨fun pins s σ H Q I h => ?_⟩
  refine wpAny_Call_Name_kw (ld_blt I hgl hm (u := .builtin "any") (by first | rfl | decide +kernel) ?_ (by first | decide +kernel | decide) (by first | decide +kernel | decide))
  refine PyProof.Rows.callWith_builtin1 ?_ hst (by rfl)
  rw [hst]
  show wpAny _ _ (spliced ((false, eval (.GeneratorExp elt [⟨tg, iter, [], 0⟩] scope gpos) X.env) :: backTo pos (starEach [] X.env))) _ _ s
  refine Calls.spliced_cons (made hr hc hN TB hcode ok hcell h0 hco hi hg he hs I h fun a gn n s3 H3 cenv fp pn s5 i1 i2 i3 i4 i5 => ?_)
  refine Calls.spliced_nil ?_
  refine call_function_tree F.kind_any F.plain_any F.entry_any (F.args_any1 _) ?_
  unfold Builtin.«any»
  refine wpAny_bind (m := oneArg "any" _) (wpAny_pure ?_)
  refine wpAny_bind (wpAny_pyIter_gen i1 ?_)
  exact wpAny_pure ⟨plainId_quiet F.plain_any_loop _, any_loop hr.hd hr.depth i3 (fun b σ' H' s' J' q => ⟨.bl b, H', i4 σ' H' s' J', rfl, q⟩) n s5 i1 i2 i5⟩
end
end GnX


set_option maxHeartbeats 1000000
namespace Pu
open PySem PySem.Spec PyProof.Rows L2
variable [Tbs]
open GnX GxR
/-! ### all, any of a generator expression -/
def askP (fin : Bool) (pg : PGt) (pe : PX) (env : List SV) : List D → (D → Prop) → Prop
  | [], k => k (.bl fin)
  | d :: ds, k => pg d env fun env1 => pe env1 fun r => match r with
    | .bl b => if b = fin then askP fin pg pe env ds k else k (.bl b)
    | _ => False
def eAsk (fin : Bool) (vs : List Nat) (pi : PIt) (pg : PGt) (pe : PX) : PX := fun env k => pi env fun ds => noOwn env vs ∧ askP fin pg pe (wipeE env vs) ds k
theorem evo_tab {z : Zn} {H1 H2 : Hp} {P : Addr} (hP : P ∈ Tbs.tb) (ht : Tabs H1) (tb : Tabbed P H1 H2) : Evo z H1 H2 := by
  obtain ⟨ps, e, _⟩ := ht P hP
  refine ⟨fun a o q n => ?_, fun a q => ?_, fun a q => ?_, fun h R hR => ?_⟩
  · rw [tb.2 a (fun w => n (.inr (by rw [w]; exact hP)))]; exact q
  · by_cases w : a = P
    · obtain ⟨ps', e', _⟩ := tb.1
      rw [w, e']; intro q; cases q
    · rw [tb.2 a w]; exact q
  · obtain ⟨q1, q2, q3, q4⟩ := q
    obtain ⟨n1, n2⟩ := q3.notbl e
    exact ⟨q1, q2, q3.keep (fun o q => by rw [tb.2 _ n1]; exact q) (fun o q => by rw [tb.2 _ n2]; exact q), q4.keep fun o q => by rw [tb.2 _ n1]; exact q⟩
  · by_cases w : R = P
    · rw [w]; exact tb.1
    · obtain ⟨ps', e', t'⟩ := h R hR
      exact ⟨ps', by rw [tb.2 R w]; exact e', t'⟩
theorem re_ask {P : Addr} {fin : Bool} {wi : TI} {pi : PIt} {js vs : List Nat} {g : TG} {pg : PGt} {te : TE} {pe : PX} (hP : P ∈ Tbs.tb) (hi : RI wi pi) (hg : RG js g pg) (hj : ∀ i ∈ js, i ∈ vs) (he : RE .b te pe) : RE .e (tAskG P fin wi g te vs) (eAsk fin vs pi pg pe) := fun z X H0 H σ env Q k o c hp => by
  refine hi z X H0 H σ env _ _ o (fun ds J H1 e1 yl hx => ?_) hp
  obtain ⟨hn, hx⟩ := hx
  have o1 := o.go e1
  refine ⟨o1.tab P hP, fun H2 tb => ?_⟩
  have e2 : Evo z H1 H2 := evo_tab hP o1.tab tb
  refine ⟨fun i mm H' => mm = ds.length - i ∧ i ≤ ds.length ∧ Evo z H1 H' ∧ askP fin pg pe (wipeE env vs) (ds.drop i) k, ⟨ds.length, by simp, Nat.zero_le _, e2, by simpa using hx⟩, ?_⟩
  rintro i mm H' ⟨rfl, hil, e', hk⟩
  have oL := o1.go e'
  obtain ⟨y1, y2⟩ := yl _ _ (o1.fr e')
  by_cases hlt : i < ds.length
  · obtain ⟨go, y3⟩ := y2 i ds[i] (List.getElem?_eq_getElem hlt)
    rw [List.drop_eq_getElem_cons hlt] at hk
    refine .inr ⟨go, fun H2 => Evo z H1 H2 ∧ askP fin pg pe (wipeE env vs) (ds.drop (i + 1)) k, fun H2 h2 => ⟨ds.length - (i + 1), by omega, rfl, hlt, h2⟩, fun x H2 hy => ?_⟩
    obtain ⟨e3, is⟩ := y3 x H2 hy
    have oL2 := oL.go e3
    obtain ⟨oW, sub⟩ := oL2.wipe (vs := vs)
    refine hg z X H0 H2 _ _ x _ _ _ oW ((is (fun a q => .inl q) (fun b q => oL.notMs q)).weak sub) (fun env3 σ3 o3 f3 kp hx3 => ⟨wipe_eq kp hj, ?_⟩) hk
    refine he z X H0 H2 σ3 env3 _ _ o3 (fun r y H4 e4 r4 hx5 => ?_) hx3
    have e5 := e'.trans (e3.trans e4)
    cases r with
    | bl b =>
      cases (show Is z (Zx z X) H4 y (.bl b) from r4)
      refine ⟨b, rfl, ?_⟩
      replace hx5 : (if b = fin then askP fin pg pe (wipeE env vs) (ds.drop (i + 1)) k else k (.bl b)) := hx5
      by_cases hb : b = fin
      · exact .inl ⟨hb, e5, by rw [if_pos hb] at hx5; exact hx5⟩
      · exact .inr ⟨hb, c (.bl b) (.bl b) H4 (e1.trans e5) (.bl b) (by rw [if_neg hb] at hx5; exact hx5)⟩
    | _ => exact (show False from hx5).elim
  · have ei : i = ds.length := by omega
    subst ei
    rw [List.drop_length] at hk
    exact .inl ⟨y1, c (.bl fin) (.bl fin) H' (e1.trans e') (.bl fin) hk⟩
section
variable {C : Cx} {c P : Addr} {elt tg iter : Expr} {scope : Scope} {own : List (Str × Nat)} {p pos gpos : Pos} {pi : PIt} {js : List Nat} {g : TG} {pg : PGt} {pe : PX} {k : Nat}
/-- the scope of a generator expression: no cells, the walked thing at «.0» -/
def genC (scope : Scope) : Bool := (scope.names.all fun y => match y.2 with | .cell => false | _ => true) && (match scope.names.lookup (".0" : Str) with | some .local => true | _ => false) && !scope.isCoroutine
theorem genC_of (h : genC scope = true) : (∀ y ∈ scope.names, y.2 ≠ .cell) ∧ scope.names.lookup (".0" : Str) = some NameKind.local ∧ scope.isCoroutine = false := by
  unfold genC at h
  simp only [Bool.and_eq_true, List.all_eq_true, Bool.not_eq_true'] at h
  obtain ⟨⟨h1, h2⟩, h3⟩ := h
  refine ⟨fun y hy e => ?_, ?_, h3⟩
  · have := h1 y hy
    rw [e] at this
    cases this
  · split at h2
    · assumption
    · cases h2
theorem e_all (hr : Room (k + 1) C.A) (hi : I C tg iter pi) (hg : ∀ (s : Shared) (H : Hp) (Ca : Addr) (code : Value) (fp : List Addr) (pn : List (Addr × Obj)), G (genCx C s H (genE C scope Ca code) fp pn) tg js g pg)
    (he : ∀ (s : Shared) (H : Hp) (Ca : Addr) (code : Value) (fp : List Addr) (pn : List (Addr × Obj)), Room k (genCx C s H (genE C scope Ca code) fp pn).A → E .b (genCx C s H (genE C scope Ca code) fp pn) elt pe) (hc : C.calm = true) (hN : C.N.Nodup)
    (hgl : Gl C "all") (hm : C.mg "all" = none) (TB : TabB C.base C.mg c P) (hP : P ∈ Tbs.tb) (hcode : C.env.code = .ref c) (ok : BlkOk C.N C.env.scope scope own) (gc : genC scope = true) (hj : ∀ i ∈ js, i ∈ own.map (·.2)) (rg : RG js g pg) (hs : ∀ v, genFold iter C.env v = pure v := by intro _; rfl)
    (hst : starEach [.GeneratorExp elt [⟨tg, iter, [], 0⟩] scope gpos] C.env = (false, eval (.GeneratorExp elt [⟨tg, iter, [], 0⟩] scope gpos) C.env) :: starEach [] C.env := by rfl) :
    E .e C (.Call (.Name "all" p) [.GeneratorExp elt [⟨tg, iter, [], 0⟩] scope gpos] [] pos) (eAsk true (own.map (·.2)) pi pg pe) :=
  ⟨_, pe_allG hr hc hN hgl hm TB hcode ok (genC_of gc).1 (genC_of gc).2.1 (genC_of gc).2.2 hi.pi (fun s H Ca code fp pn => (hg s H Ca code fp pn).pg) (fun s H Ca code fp pn => (he s H Ca code fp pn (room_gen hr _)).pe) hs hst, re_ask hP ri_tP rg hj re_tP⟩
theorem e_any (hr : Room (k + 1) C.A) (hi : I C tg iter pi) (hg : ∀ (s : Shared) (H : Hp) (Ca : Addr) (code : Value) (fp : List Addr) (pn : List (Addr × Obj)), G (genCx C s H (genE C scope Ca code) fp pn) tg js g pg)
    (he : ∀ (s : Shared) (H : Hp) (Ca : Addr) (code : Value) (fp : List Addr) (pn : List (Addr × Obj)), Room k (genCx C s H (genE C scope Ca code) fp pn).A → E .b (genCx C s H (genE C scope Ca code) fp pn) elt pe) (hc : C.calm = true) (hN : C.N.Nodup)
    (hgl : Gl C "any") (hm : C.mg "any" = none) (TB : TabB C.base C.mg c P) (hP : P ∈ Tbs.tb) (hcode : C.env.code = .ref c) (ok : BlkOk C.N C.env.scope scope own) (gc : genC scope = true) (hj : ∀ i ∈ js, i ∈ own.map (·.2)) (rg : RG js g pg) (hs : ∀ v, genFold iter C.env v = pure v := by intro _; rfl)
    (hst : starEach [.GeneratorExp elt [⟨tg, iter, [], 0⟩] scope gpos] C.env = (false, eval (.GeneratorExp elt [⟨tg, iter, [], 0⟩] scope gpos) C.env) :: starEach [] C.env := by rfl) :
    E .e C (.Call (.Name "any" p) [.GeneratorExp elt [⟨tg, iter, [], 0⟩] scope gpos] [] pos) (eAsk false (own.map (·.2)) pi pg pe) :=
  ⟨_, pe_anyG hr hc hN hgl hm TB hcode ok (genC_of gc).1 (genC_of gc).2.1 (genC_of gc).2.2 hi.pi (fun s H Ca code fp pn => (hg s H Ca code fp pn).pg) (fun s H Ca code fp pn => (he s H Ca code fp pn (room_gen hr _)).pe) hs hst, re_ask hP ri_tP rg hj re_tP⟩
end
/-! // by a great divisor -/
abbrev dDivW := dII CDivW fun i j => .int (i / j)
theorem opd_divW : OpD .b .e (rI CDivW fun i j => .int (i / j)) dDivW := opd_II fun i j _ _ _ => .int _
theorem dDivW_i {i j : Int} {k : D → Prop} (h0 : 0 < j) (h1 : j < 18446744073709551616) (h : k (.int (i / j))) : dDivW (.int i) (.int j) k := dII_i (wide_div (b := 64) h0 (by omega) (by decide) (by decide)) h
/-! ### a def that holds a generator expression -/
section
variable {P : Program} {w : World} {K : PySem.W.Frag} {mg : Str → Option Value} {base : Heap}
theorem fn_okT {x qual : Str} {st : Stmt} {f c : Addr} {fd : FuncData} {N ps : List Str} {k : Nat} {fr : Bool} {p : PSt} (F : Fun K x qual st f fd) (hc : fd.code = .ref c) (S : FnScope N ps (defScope st))
    (hb : ∀ (A : Around) (outer : List Env) (s : Shared) (H : Hp) (E : XK), Room k (A.deeper (envOfC qual (defScope st) s.heap.objs.size f (.ref c))) → B fr (cxOf CX0 P w K mg base N qual (defScope st) f (.ref c) A outer s H E).nox (defBody st) p) :
    FnOk P w K mg base CX0 (k + 1) f fd ps (Sf fr ps.length (wpOf fr N.length p)) := by
  obtain ⟨oc, od, kV, doc, pm, an, cdv, ct, osl, rfl, lk, hcd⟩ := F.ex
  obtain rfl : cdv = .ref c := hc
  refine fn_of lk hcd S (fun vs H Q E h => ?_) fun A outer s H vs Q E hr h => ?_
  · obtain ⟨z, X, ds, kk, hl, _⟩ := h
    exact hl
  · obtain ⟨z, X, ds, kk, hl, hz, hx, hA, hw, c⟩ := h
    obtain ⟨t, b1, b2⟩ := hb A outer s H E hr
    refine ⟨t, b1.nox, b2 z X H H (L2.start N vs) _ _ { nx := fun _ => fr = false ∧ kk .non, rt := kk } (start_ok hz hx hA) ⟨fun env' σ' H' o' f' hk => ?_, fun d v H' e r fq hk => ?_, fun _ _ _ _ _ hk => hk.elim, fun _ _ _ _ _ hk => hk.elim, fun _ _ _ _ _ _ _ h => h.elim⟩ hw⟩
    · exact c .non .non H' o'.evo .non (fun q => by rw [hk.1] at q; cases q) hk.2
    · exact c d v H' e r fq hk
end
/-! ### readings -/
theorem eAsk_i {fin : Bool} {vs : List Nat} {pi : PIt} {pg : PGt} {pe : PX} {env : List SV} {k : D → Prop} (h : pi env fun ds => noOwn env vs ∧ askP fin pg pe (wipeE env vs) ds k) : eAsk fin vs pi pg pe env k := h
/-- each element's truth is known -/
theorem askP_i {fin : Bool} {pg : PGt} {pe : PX} {env : List SV} {k : D → Prop} {α : Type} (f : α → D) (b : α → Bool) : ∀ (l : List α), (∀ x ∈ l, ∀ k' : D → Prop, k' (.bl (b x)) → pg (f x) env fun env1 => pe env1 k') → k (.bl (if fin = true then l.all b else l.any b)) → askP fin pg pe env (l.map f) k
  | [], _, h => by cases fin <;> exact h
  | x :: l, hs, h => by
    refine hs x List.mem_cons_self _ ?_
    show (if b x = fin then askP fin pg pe env (l.map f) k else k (.bl (b x)))
    by_cases e : b x = fin
    · rw [if_pos e]
      refine askP_i f b l (fun y hy => hs y (List.mem_cons_of_mem _ hy)) ?_
      cases fin
      · rw [if_neg Bool.false_ne_true] at h ⊢
        rw [List.any_cons, e, Bool.false_or] at h
        exact h
      · rw [if_pos rfl] at h ⊢
        rw [List.all_cons, e, Bool.true_and] at h
        exact h
    · rw [if_neg e]
      cases fin
      · rw [if_neg Bool.false_ne_true, List.any_cons] at h
        have : b x = true := by cases q : b x <;> simp_all
        rw [this] at h ⊢
        exact h
      · rw [if_pos rfl, List.all_cons] at h
        have : b x = false := by cases q : b x <;> simp_all
        rw [this] at h ⊢
        exact h
/-! ### the law's end, with tables -/
omit [Tbs] in
theorem tabIn_mk {K : PySem.W.Frag} {x : Str} {f q p : Addr} {oc ec : Value} {od ed : Option Addr} {fd : FuncData} {sl es : Array (Option Value)} {ev : Array Value} (a : PySem.W.nsIn K mainGlobals x = some (some (.ref f))) (l : K.lookup f = some ⟨oc, od, .func fd, sl⟩) (hc : fd.code = .ref q)
    (u : K.lookup q = some ⟨ec, ed, .fields ev, es⟩) (w : ev[11]? = some (.ref p)) : PySem.W.tabIn K x = some (q, p) := by
  unfold PySem.W.tabIn
  simp only [a, l, hc, u, w]
omit [Tbs] in
theorem walkT {l : PySem.W.OpenLaw} {q : Program} {loose : List Str} {XP : (Str → Option Value) → Heap → Prop} {YP : World → Heap → Prop} {d : DefRec} {K : Params → PySem.W.Frag} {k : Nat} (hn : l.most = some 63) (hdf : d.params.defaults = []) (hr : Room k callerA)
    (hY : ∀ (w : World) (h : Heap), YP w h → (K w.params).In h) (names : List Str) (hrec : (names.all fun x => ((recsOf q).find? fun e => e.name == x).isSome) = true)
    (F : ∀ (w : World) (mg : Str → Option Value) (fa : Addr) (h : Heap), (K w.params).In h → h.Ns mainGlobals mg → mg d.name = some (.ref fa) →
      ∃ (fd : FuncData) (cs : List (Addr × Addr)), (∀ p ∈ cs, ∃ x ∈ names, PySem.W.tabIn (K w.params) x = some p) ∧ (∀ p ∈ cs, (K w.params).lookup p.2 = none) ∧ (∀ (s : Shared) (u : Value), BindsTo s fd ⟨[u], []⟩ [("_law_script", u)]) ∧
        ∀ base : Heap, (K w.params).In base → base.Ns mainGlobals mg → (∀ p ∈ cs, TabB base mg p.1 p.2) → FnOk l.prog w (K w.params) mg base CX0 k fa fd ["_law_script"] (sp_lawT (K w.params) (cs.map (·.2)))) :
    PySem.W.WalkO q loose XP YP l.row.toRowW d [] (fun f vs => PySem.call f vs) := by
  refine Att.attach_call hn hdf fun w s₀ s₁ mg mb fa o pm cd doc a vs ns G Y _ _ _ hmg hobj hints hlen hg => ?_
  have KX := hY w _ Y
  obtain ⟨fd, cs, hx, nT, hb, hF⟩ := F w mg fa _ KX G.T.g hmg
  have hT : ∀ p ∈ cs, PySem.W.CodeHd s₁.heap p.1 p.2 ∧ s₁.heap.get? p.2 = some (PySem.W.tabObj #[]) := fun p hp => by
    obtain ⟨x, hxn, e⟩ := hx p hp
    obtain ⟨d', hd'⟩ := Option.isSome_iff_exists.mp (List.all_eq_true.mp hrec x hxn)
    exact PySem.W.tab_of G.T KX hd' e
  refine LamX.law_callTs (CX := CX0) KX G.T.g G.T.b G.T.builtins G.T.nolimit hg (fun p hp => (hT p hp).2) nT (fun p hp => (hT p hp).1) G.T.bmain hobj hints (Nat.le_trans hlen (by decide)) hr (fun base b1 b2 TB => hF base b1 b2 fun p hp => ⟨(TB p hp).1, (TB p hp).2, (TB p hp).3⟩) hb (fun H hH hS => ⟨a, ns, rfl, hS, hlen, fun P hP => ?_, fun _ => rfl⟩) fun H e s' z => z
  obtain ⟨p, hp, rfl⟩ := List.mem_map.mp hP
  exact ⟨#[], hH p hp, by first | trivial | exact .nil | (simp [TriplesOk])⟩
end Pu

/-! == and != with an empty list or tuple, whatever the other one holds -/
namespace Pu
open PySem PySem.Spec PyProof.Rows L2
variable [Tbs]
section
variable {X : Cx}
def rEmp (neg : Bool) (K : PySem.W.Frag) : R2 := fun x y H Q => ∃ (a b : Addr) (xs : List V), x = .ref a ∧ y = .ref b ∧ ((SqL K H a xs ∧ SqL K H b []) ∨ (SqT K H a xs ∧ SqT K H b [])) ∧ Q (.bl (neg ^^ xs.isEmpty)) H
theorem emp_len {xs : List V} {its : List Value} (h : Vals xs its) : xs.isEmpty = its.isEmpty := by
  cases h <;> rfl
omit [Tbs] in
theorem op_eqE (hu : X.A.units + 64 < cLine) : OpR X (compareOp .Eq) (rEmp false X.K) := by
  intro pins s σ H x y v u Q I rx ry h
  obtain ⟨a, b, xs, rfl, rfl, h, q⟩ := h
  cases rx
  cases ry
  rcases h with ⟨ha, hb⟩ | ⟨ha, hb⟩
  · obtain ⟨its, rv, ⟨o, n, ho, hc, _, hd⟩, _⟩ := I.list ha
    obtain ⟨its2, rv2, ⟨o2, n2, ho2, hc2, _, hd2⟩, _⟩ := I.list hb
    cases rv2
    have hl : s.heap.IsList a its.toArray := ⟨o, ho, hc, n, hd⟩
    have hl2 : s.heap.IsList b #[] := ⟨o2, ho2, hc2, n2, hd2⟩
    cases rv with
    | nil => exact (SeqAt.RcAt.lists (e := fun _ => true) hl hl2 rfl (by omega) (fun j h1 => absurd h1 (Nat.not_lt_zero j))) X.prog X.w _ _ ⟨.bl _, H, I, rfl, q⟩
    | cons r1 r2 => exact (SeqAt.RcAt.lists_lengths hl hl2 (by simp) (by omega)) X.prog X.w _ _ ⟨.bl _, H, I, rfl, q⟩
  · obtain ⟨its, rv, ⟨o, ho, hc, n, hd⟩, _⟩ := I.tuple ha
    obtain ⟨its2, rv2, ⟨o2, ho2, hc2, n2, hd2⟩, _⟩ := I.tuple hb
    cases rv2
    have hl : s.heap.IsTuple a its.toArray := ⟨o, ho, hc, n, hd⟩
    have hl2 : s.heap.IsTuple b #[] := ⟨o2, ho2, hc2, n2, hd2⟩
    refine (SeqAt.RcAt.tuples (e := fun _ => true) hl hl2 (by omega) (fun j h1 h2 => absurd h2 (Nat.not_lt_zero j))) X.prog X.w _ _ ⟨.bl _, H, I, ?_, q⟩
    cases rv <;> rfl
omit [Tbs] in
theorem op_neE (hu : X.A.units + 64 < cLine) : OpR X (compareOp .NotEq) (rEmp true X.K) := by
  intro pins s σ H x y v u Q I rx ry h
  obtain ⟨a, b, xs, rfl, rfl, h, q⟩ := h
  cases rx
  cases ry
  rcases h with ⟨ha, hb⟩ | ⟨ha, hb⟩
  · obtain ⟨its, rv, ⟨o, n, ho, hc, _, hd⟩, _⟩ := I.list ha
    obtain ⟨its2, rv2, ⟨o2, n2, ho2, hc2, _, hd2⟩, _⟩ := I.list hb
    cases rv2
    have hl : s.heap.IsList a its.toArray := ⟨o, ho, hc, n, hd⟩
    have hl2 : s.heap.IsList b #[] := ⟨o2, ho2, hc2, n2, hd2⟩
    cases rv with
    | nil => exact (SeqAt.RcNeAt.lists (e := fun _ => true) hl hl2 rfl (by omega) (fun j h1 => absurd h1 (Nat.not_lt_zero j))) X.prog X.w _ _ ⟨.bl _, H, I, rfl, q⟩
    | cons r1 r2 => exact (SeqAt.RcNeAt.lists_lengths hl hl2 (by simp) (by omega)) X.prog X.w _ _ ⟨.bl _, H, I, rfl, q⟩
  · obtain ⟨its, rv, ⟨o, ho, hc, n, hd⟩, _⟩ := I.tuple ha
    obtain ⟨its2, rv2, ⟨o2, ho2, hc2, n2, hd2⟩, _⟩ := I.tuple hb
    cases rv2
    have hl : s.heap.IsTuple a its.toArray := ⟨o, ho, hc, n, hd⟩
    have hl2 : s.heap.IsTuple b #[] := ⟨o2, ho2, hc2, n2, hd2⟩
    refine (SeqAt.RcNeAt.tuples (e := fun _ => true) hl hl2 (by omega) (fun j h1 h2 => absurd h2 (Nat.not_lt_zero j))) X.prog X.w _ _ ⟨.bl _, H, I, ?_, q⟩
    cases rv <;> rfl
end
def dEmp (neg : Bool) : D → D → (D → Prop) → Prop := fun x y k => match x, y with
  | .lst xs, .lst [] => k (.bl (neg ^^ xs.isEmpty))
  | .tup xs, .tup [] => k (.bl (neg ^^ xs.isEmpty))
  | _, _ => False
theorem IsA.empty {z : Zn} {M : AP} {H : Hp} {vs : List V} {ds : List D} (h : IsA z M H vs ds) : vs.isEmpty = ds.isEmpty := by
  cases h <;> rfl
theorem opd_emp {neg : Bool} {K : PySem.W.Frag} : OpD .b .e (rEmp neg K) (dEmp neg) := fun z X H0 H σ env v u x y Q k o r1 r2 c hp => by
  unfold dEmp at hp
  split at hp
  · cases (show Is z (Zx z X) H v _ from r1) with
    | lst e n h =>
      cases (show Is z (Zx z X) H u _ from r2) with
      | lst e2 n2 h2 =>
        cases h2
        exact ⟨_, _, _, rfl, rfl, .inl ⟨SqL.of e, SqL.of e2⟩, c _ _ H (Evo.refl _ _) (Is.bl _) (by rw [h.empty]; exact hp)⟩
  · cases (show Is z (Zx z X) H v _ from r1) with
    | tup e n h =>
      cases (show Is z (Zx z X) H u _ from r2) with
      | tup e2 n2 h2 =>
        cases h2
        exact ⟨_, _, _, rfl, rfl, .inr ⟨SqT.of e, SqT.of e2⟩, c _ _ H (Evo.refl _ _) (Is.bl _) (by rw [h.empty]; exact hp)⟩
  · exact hp.elim
theorem dEmp_l {neg : Bool} {xs : List D} {k : D → Prop} (h : k (.bl (neg ^^ xs.isEmpty))) : dEmp neg (.lst xs) (.lst []) k := h
theorem dEmp_t {neg : Bool} {xs : List D} {k : D → Prop} (h : k (.bl (neg ^^ xs.isEmpty))) : dEmp neg (.tup xs) (.tup []) k := h
end Pu

/-! sets of whole numbers of a def's own: set(), in, add -/
namespace Pu
open PySem PySem.Spec PyProof.Rows L2
variable [Tbs]
section
variable {C : Cx} {e : Expr} {pe : PX} {pos pp : Pos} {fr : Bool}
def eSet0 : PX := fun _ k => k (.st [])
theorem memB_nil : memB [] = fun _ => false := by
  funext j
  simp [memB]
theorem e_set0 (hw : C.w = Tbs.wd) (hg : Gl C "set") (hm : C.mg "set" = none) : E .f C (.Call (.Name "set" pp) [] [] pos) eSet0 :=
  ⟨_, pe_callTy0 cr_set0 hg hm (by decide +kernel), fun z X H0 H σ env Q k o c hp => ⟨rfl, fun q hq => c (.st []) (.ref q) _ ((Evo.refl _ _).new hq) ⟨q, rfl, hq, 0, by rw [upd_same, hw, memB_nil], Nat.le_refl _⟩ hp⟩⟩
theorem or_sinW (hw : C.w = Tbs.wd) : OpR C (compareOp .In) (rSIn Tbs.wd) := by rw [← hw]; exact or_sin
def dSin : D → D → (D → Prop) → Prop := fun x y k => match x, y with
  | .int i, .st ns => k (.bl (decide (i ∈ ns)))
  | _, _ => False
theorem st_of {z : Zn} {X : AP} {H H' : Hp} {σ : Sl} {env : List SV} {u : V} {ns : List Int} (h : Rel .c z X H H' σ env u (.st ns)) : ∃ a n, u = .ref a ∧ H' a = some (SetO Tbs.wd a (memB ns) n) := by
  rcases h with h | ⟨a, rfl, ⟨n, e, l⟩, _⟩
  · cases h with
    | st e l n => exact ⟨_, _, rfl, e⟩
  · exact ⟨a, n, rfl, e⟩
theorem opd_sin : OpD .c .e (rSIn Tbs.wd) dSin := fun z X H0 H σ env v u x y Q k o r1 r2 c hp => by
  unfold dSin at hp
  split at hp
  · rename_i i ns
    obtain ⟨a, n, rfl, e⟩ := st_of r2
    rcases r1 with h | ⟨a', _, hc, _⟩
    · cases h
      exact ⟨i, a, memB ns, n, rfl, rfl, e, c (.bl _) (.bl _) H (Evo.refl _ _) (Is.bl _) hp⟩
    · exact (show False from hc).elim
  · exact hp.elim
def sSAdd (i : Nat) (p : PX) : PSt := fun env k => match env[i]? with
  | some (.own (.st ns)) => p env fun d => inK d fun x => ns.length ≤ 4000 ∧ k.nx (env.set i (.own (.st (ns ++ [x]))))
  | _ => False
theorem memB_app (ns : List Int) (x : Int) : (fun j => memB ns j || decide (j = x)) = memB (ns ++ [x]) := by
  funext j
  simp [memB]
theorem s_sadd (i : Nat) {x : Str} {apos cpos : Pos} (hw : C.w = Tbs.wd) (h : E .b C e pe) (hN : C.N[i]? = some x := by rfl) (hv : Vis C.env.scope x := by first | exact Or.inl rfl | exact Or.inr (Or.inl rfl) | exact Or.inr (Or.inr rfl)) (hd : (x == ("__debug__" : Str)) = false := by decide)
    (hcd : (x == ("__classdict__" : Str)) = false := by decide)
    (hb : ∀ to te, PE C (.Name x pp) to → PE C e te → PE C (.Call (.Attribute (.Name x pp) "add" apos) [e] [] cpos) (tSAdd C.w to (tCons te tNil)))
    (hs : swapsWith (.Call (.Attribute (.Name x pp) "add" apos) [e] [] cpos) none pos.line C.env = pure false := by rfl) :
    S fr C (.Expr (.Call (.Attribute (.Name x pp) "add" apos) [e] [] cpos) pos) (sSAdd i pe) := by
  obtain ⟨t, h1, h2⟩ := h
  refine ⟨_, ps_expr (hb _ _ (pe_var hN hv hd hcd) h1) hs, fun z X H0 H σ env G k o s hp => ?_⟩
  unfold sSAdd at hp
  split at hp
  · rename_i ns he
    obtain ⟨a, q1, q2, q3, q4⟩ := o.own i _ he
    obtain ⟨n, q5, q6⟩ := q2
    refine ⟨_, q1, ⟨a, _, _, rfl, by rw [hw]; exact q5⟩, h2 z X H0 H σ env _ _ o (fun d v H1 e1 r1 hx => ?_) hp⟩
    cases d with
    | int w =>
      cases (show Is z (Zx z X) H1 v (.int w) from r1)
      have o1 := o.go e1
      have q5' := e1.old a _ q5 q3
      obtain ⟨hx1, hx2⟩ := (show ns.length ≤ 4000 ∧ _ from hx)
      refine ⟨a, w, memB ns, n, rfl, rfl, by rw [hw]; exact q5', Nat.lt_of_le_of_lt (Nat.succ_le_succ (Nat.le_trans q6 hx1)) (by decide), ?_⟩
      rw [memB_app, hw]
      obtain ⟨o2, f2⟩ := o1.mut (o := SetO Tbs.wd a (memB (ns ++ [w])) (if memB ns w = true then n else n + 1)) he q1 (d' := .st (ns ++ [w])) ⟨_, upd_same, by rw [List.length_append]; split <;> simp <;> omega⟩
      exact s.nx _ _ _ o2 ((o.fr e1).trans f2) hx2
    | _ => exact (show False from hx).elim
  · exact hp.elim
theorem eSet0_i {env : List SV} {k : D → Prop} (h : k (.st [])) : eSet0 env k := h
theorem eO_s {i : Nat} {env : List SV} {ns : List Int} {k : D → Prop} (e : env[i]? = some (.own (.st ns))) (h : k (.st ns)) : eO i env k := by
  unfold eO
  rw [e]
  exact h
theorem dSin_i {x : Int} {ns : List Int} {k : D → Prop} (h : k (.bl (decide (x ∈ ns)))) : dSin (.int x) (.st ns) k := h
theorem sSAdd_i {i : Nat} {p : PX} {env : List SV} {ns : List Int} {K : PK'} (e : env[i]? = some (.own (.st ns))) (h : p env fun d => inK d fun x => ns.length ≤ 4000 ∧ K.nx (env.set i (.own (.st (ns ++ [x]))))) : sSAdd i p env K := by
  unfold sSAdd
  rw [e]
  exact h
end
end Pu

/-! x.extend(a tuple), range(i, j, -1) -/
namespace Pu
open PySem PySem.Spec PyProof.Rows L2
variable [Tbs]
section
omit [Tbs] in
theorem ext_tup (l b : Addr) (us ws : Array Value) (n m : Nat) (dd : Option Addr) (sl : Array (Option Value)) (h0 : ¬(!us.isEmpty && Builtin.List.listTooLong (us.size + ws.size)) = true) (h1 : us.size ≤ sizeLine) (h2 : us.size + ws.size ≤ sizeLine + 1) :
    Meets (Builtin.«list.extend» ⟨[.ref l, .ref b], []⟩) (fun _ R s => s.heap.get? l = some { cls := .type "list", dict := none, data := .seq us n, slots := #[] } ∧ s.heap.get? b = some { cls := .type "tuple", dict := dd, data := .seq ws m, slots := sl } ∧
      R (.ok (.ret Value.none)) { s with heap := s.heap.update l (Obj.mapSeq fun x => x ++ ws), toks := s.toks }) :=
  .of_wp fun prog w A R s h => by
    obtain ⟨hp, g, d, tk, os⟩ := s
    obtain ⟨hl, hb, h⟩ := h
    have g1 := AutoSeq1.idx_int
    have g2 := AutoSeq1.sub_tuple_tuple
    have g3 := AutoSeq1.sub_list_list
    have g4 := AutoSeq1.sub_tuple_list
    have g5 := AutoSeq1.sub_list_tuple
    have hz : (us ++ ws).size ≤ sizeLine + 1 := by rw [Array.size_append]; exact h2
    wp_walk using (wpAny_updateSeq hl rfl (hz := h1) (_hz' := hz)), AutoSeq1.wpAny_loadPart' hl, AutoSeq1.wpAny_loadPart' hb
    exact ⟨_, rfl, h⟩
def rExtT (K : PySem.W.Frag) : V → List V → Hp → VK → Prop := fun x vs H Q => ∃ l b xs zs, x = .ref l ∧ vs = [.ref b] ∧ H l = some (.lst xs) ∧ SqT K H b zs ∧ xs.length + zs.length ≤ sizeLine ∧ Q .non (upd H l (.lst (xs ++ zs)))
omit [Tbs] in
theorem mt_extT {X : Cx} : MtM X "list.extend" (rExtT X.K) := by
  intro pins s σ H x vs v us Q I rx rv h
  obtain ⟨l, b, xs, zs, rfl, rfl, hH, hB, hz, q⟩ := h
  cases rx
  obtain ⟨u, rfl, ru⟩ := rv.one
  cases ru
  obtain ⟨z, its, n, r, hl, e⟩ := I.lstM hH
  obtain ⟨its2, r2, ⟨o, ho, hc, m, hd⟩, z2⟩ := I.tuple hB
  obtain ⟨oc, od, oda, os⟩ := o
  cases hc
  cases hd
  have hl2 := r2.length
  have hsz : its.toArray.size + its2.toArray.size ≤ sizeLine := by rw [List.size_toArray, List.size_toArray]; omega
  have hlong : ¬ (!its.toArray.isEmpty && Builtin.List.listTooLong (its.toArray.size + its2.toArray.size)) = true := by
    rw [notLongL hsz, Bool.and_false]
    exact Bool.false_ne_true
  refine call_meets F.slot_list_extend ⟨_, e, rfl⟩ F.entry_list_extend (F.args_list_extend_2 _ _)
    (ext_tup l b its.toArray its2.toArray n m od os hlong (by rw [List.size_toArray]; omega) (by omega)) ⟨e, ho, ?_⟩
  refine ⟨.non, _, I.lset (its' := its ++ its2) hH e (by simp) (r.append r2) ?_, rfl, q⟩
  rw [List.length_append]
  omega
end
section
variable {C : Cx} {e : Expr} {pe : PX} {pos pp : Pos} {fr : Bool}
def tpK (d : D) (k : List D → Prop) : Prop := match d with
  | .tup ys => k ys
  | _ => False
def sExtend (i : Nat) (p : PX) : PSt := fun env k => match env[i]? with
  | some (.own (.lst xs)) => p env fun d => tpK d fun ys => xs.length + ys.length ≤ 100000 ∧ k.nx (env.set i (.own (.lst (xs ++ ys))))
  | _ => False
theorem s_extend (i : Nat) {x : Str} {apos cpos : Pos} (h : E .e C e pe) (hN : C.N[i]? = some x := by rfl) (hv : Vis C.env.scope x := by first | exact Or.inl rfl | exact Or.inr (Or.inl rfl) | exact Or.inr (Or.inr rfl)) (hd : (x == ("__debug__" : Str)) = false := by decide)
    (hcd : (x == ("__classdict__" : Str)) = false := by decide)
    (hb : ∀ to te, PE C (.Name x pp) to → PE C e te → PE C (.Call (.Attribute (.Name x pp) "extend" apos) [e] [] cpos) (tBM C.K "list" (rExtT C.K) to (tCons te tNil)))
    (hs : swapsWith (.Call (.Attribute (.Name x pp) "extend" apos) [e] [] cpos) none pos.line C.env = pure false := by rfl) :
    S fr C (.Expr (.Call (.Attribute (.Name x pp) "extend" apos) [e] [] cpos) pos) (sExtend i pe) := by
  obtain ⟨t, h1, h2⟩ := h
  refine ⟨_, ps_expr (hb _ _ (pe_var hN hv hd hcd) h1) hs, fun z X H0 H σ env G k o s hp => ?_⟩
  unfold sExtend at hp
  split at hp
  · rename_i xs he
    obtain ⟨a, q1, q2, q3, q4⟩ := o.own i _ he
    obtain ⟨vs, q5, q6⟩ := q2
    refine ⟨_, q1, .inl ⟨rfl, vs, SqL.of q5⟩, h2 z X H0 H σ env _ _ o (fun d v H1 e1 r1 hx => ?_) hp⟩
    cases d with
    | tup ys =>
      obtain ⟨hx1, hx2⟩ := (show xs.length + ys.length ≤ 100000 ∧ _ from hx)
      cases (show Is z (Ms z X σ env) H1 v (.tup ys) from r1) with
      | @tup b ws _ eb nb rb =>
        have o1 := o.go e1
        have q5' := e1.old a _ q5 q3
        refine ⟨a, b, vs, ws, rfl, rfl, q5', SqT.of eb, by rw [q6.length, rb.length]; exact Nat.le_of_lt (szl hx1), ?_⟩
        have ia : Ms z X σ env a := .inr (.inr ⟨i, _, he, q1⟩)
        have old : ∀ b u, H1 b = some u → ¬ Ms z X σ env b → upd H1 a (.lst (vs ++ ws)) b = some u ∧ ¬ Ms z X σ env b := fun b u hb n => ⟨by rw [upd_ne (fun e => n (by rw [e]; exact ia))]; exact hb, n⟩
        obtain ⟨o2, f2⟩ := o1.mut (o := .lst (vs ++ ws)) he q1 (d' := .lst (xs ++ ys)) ⟨vs ++ ws, upd_same, ((IsA.evo (fun _ q => .inl q) e1 q6).append rb).gen old fun b hb => ok_mut q3 hb⟩
        exact s.nx _ _ _ o2 ((o.fr e1).trans f2) hx2
    | _ => exact (show False from hx).elim
  · exact hp.elim
theorem sExtend_i {i : Nat} {p : PX} {env : List SV} {xs : List D} {K : PK'} (e : env[i]? = some (.own (.lst xs))) (h : p env fun d => tpK d fun ys => xs.length + ys.length ≤ 100000 ∧ K.nx (env.set i (.own (.lst (xs ++ ys))))) : sExtend i p env K := by
  unfold sExtend
  rw [e]
  exact h
theorem tpK_i {ys : List D} {k : List D → Prop} (h : k ys) : tpK (.tup ys) k := h
end
/-! range(i, j, -1) -/
def downD (hi : Int) (n : Nat) : List D := (List.range n).map fun i => .int (hi - (i : Nat))
theorem yl_dn {z : Zn} {X : AP} {M : AP} {H : Hp} {hi : Int} {n : Nat} : Yields z X M H (Itc hi (-1) n) (downD hi n) := fun M' H' f => by
  refine ⟨(by show n ≤ (downD hi n).length; simp [downD]), fun i d hd => ?_⟩
  have hi' : i < n := by
    have := (List.getElem?_eq_some_iff.mp hd).1
    simpa [downD] using this
  refine ⟨hi', fun x H2 y => ?_⟩
  obtain ⟨rfl, rfl⟩ := y
  refine ⟨Evo.refl _ _, fun _ _ => ?_⟩
  have e : d = .int (hi - (i : Nat)) := by simpa [downD, hi', List.getElem?_map, List.getElem?_range] using hd.symm
  rw [e, show hi + (i : Nat) * (-1) = hi - (i : Nat) by omega]
  exact Is.int _
def rgK3 (ds : List D) (k : List D → Prop) : Prop := match ds with
  | [.int i, .int j, .int c] => c = -1 ∧ (-100000 < i ∧ i < 100000 ∧ -100000 < j ∧ j < 100000) ∧ k (downD i (i - j).toNat)
  | _ => False
def iRange3 (p : PAs) : PIt := fun env k => p env fun ds => rgK3 ds k
theorem i_range3 {C : Cx} {tg a b c : Expr} {p : PAs} {l : Bool} {pp pos : Pos} (ha : A l C [a, b, c] p) (hg : Gl C "range") (hm : C.mg "range" = none) (hs : starEach [a, b, c] C.env = (false, eval a C.env) :: starEach [b, c] C.env := by rfl) (hpl : (backTo pos (starEach [b, c] C.env)).any (·.1) = false := by rfl) : I C tg (.Call (.Name "range" pp) [a, b, c] [] pos) (iRange3 p) := by
  obtain ⟨t, h1, h2⟩ := ha
  refine ⟨_, pi_range3 hg hm h1 hs hpl, fun z X H0 H σ env R k o c hp => h2 z X H0 H σ env _ _ o (fun ds vs H1 e1 r1 hx => ?_) hp⟩
  unfold rgK3 at hx
  split at hx
  · rename_i i j w
    obtain ⟨rfl, hb, hk⟩ := hx
    cases IsA.ints (ns := [_, _, _]) r1
    exact ⟨i, j, -1, (i - j).toNat, rfl, RgC.neg (by omega) (by omega) (by omega) (by omega), c _ _ H1 e1 yl_dn hk⟩
  · exact hx.elim
theorem iRange3_i {p : PAs} {env : List SV} {k : List D → Prop} (h : p env fun ds => rgK3 ds k) : iRange3 p env k := h
theorem rgK3_i {i j : Int} {k : List D → Prop} (h1 : -100000 < i ∧ i < 100000 ∧ -100000 < j ∧ j < 100000) (h : k (downD i (i - j).toNat)) : rgK3 [.int i, .int j, .int (-1)] k := ⟨rfl, h1, h⟩
end Pu

namespace Pu
open PySem PySem.Spec PyProof.Rows L2
variable [Tbs]
/-! ### a list that a def borrows and changes in place -/
def mask (H : Hp) (a : Addr) : Hp := fun b => if b = a then none else H b
def zb (z : Zn) (o : Option Addr) : Zn := { z with bo := o }
section
variable {z : Zn} {X : AP} {M : AP} {H0 H H' : Hp} {σ : Sl} {env : List SV} {a : Addr} {w : Option Addr}
theorem mask_self : mask H a a = none := by unfold mask; rw [if_pos rfl]
theorem mask_ne {b : Addr} (h : b ≠ a) : mask H a b = H b := by unfold mask; rw [if_neg h]
theorem mask_old {b : Addr} {o : HO} (h : mask H a b = some o) : b ≠ a ∧ H b = some o := by
  unfold mask at h
  split at h
  · cases h
  · exact ⟨by assumption, h⟩
mutual
theorem Is.zb : ∀ {v : V} {d : D}, Is z M H v d → Is (zb z w) M H v d
  | _, _, .non => .non
  | _, _, .bl b => .bl b
  | _, _, .int i => .int i
  | _, _, .str s => .str s
  | _, _, .ty n => .ty n
  | _, _, .tup e n r => .tup e n (IsA.zb r)
  | _, _, .lst e n r => .lst e n (IsA.zb r)
  | _, _, .dic e n r => .dic e n (IsK.zb r)
  | _, _, .deck e => Is.deck (z := Pu.zb z w) e
  | _, _, .dpr e n => .dpr e n
  | _, _, .dfz e n => .dfz e n
  | _, _, .st e l n => .st e l n
  | _, _, .bor e n r => .bor e n (IsA.zb r)
  | _, _, .opq v => .opq v
theorem IsA.zb : ∀ {v : List V} {d : List D}, IsA z M H v d → IsA (zb z w) M H v d
  | _, _, .nil => .nil
  | _, _, .cons h t => .cons (Is.zb h) (IsA.zb t)
theorem IsK.zb : ∀ {v : List (Key × V)} {d : List (Key × D)}, IsK z M H v d → IsK (zb z w) M H v d
  | _, _, .nil => .nil
  | _, _, .cons h t => .cons (Is.zb h) (IsK.zb t)
end
theorem Is.unzb {v : V} {d : D} (h : Is (Pu.zb z w) M H v d) : Is z M H v d := Is.zb (z := Pu.zb z w) (w := z.bo) h
theorem IsA.unzb {v : List V} {d : List D} (h : IsA (Pu.zb z w) M H v d) : IsA z M H v d := IsA.zb (z := Pu.zb z w) (w := z.bo) h
theorem Evo.unzb (h : Evo (Pu.zb z w) H H') : Evo z H H' := ⟨h.old, h.al, h.dk, h.tab⟩
theorem evo_mask (ha : ¬ z.Z a) : Evo (Pu.zb z w) (mask H a) H :=
  ⟨fun b o h _ => (mask_old h).2, fun b h => by
    by_cases e : b = a
    · rw [e, mask_self] at h; exact absurd rfl h
    · rw [mask_ne e] at h; exact h,
   fun b h => (Pu.zb z w).keep _ _ _ h fun c o _ q => (mask_old q).2,
   fun h P hP => by
    obtain ⟨ps, e, t⟩ := h P hP
    exact ⟨ps, (mask_old e).2, t⟩⟩
theorem ok_mask (ha : ¬ z.Z a) {b : Addr} (h : z.ok H b) : z.ok (mask H a) b :=
  z.keep _ _ _ h fun c o zc q => by rw [mask_ne (fun (e : c = a) => ha (by rw [← e]; exact zc))]; exact q
theorem tab_mask (ha : ¬ z.Z a) (h : Tabs H) : Tabs (mask H a) := fun P hP => by
  obtain ⟨ps, e, t⟩ := h P hP
  exact ⟨ps, by rw [mask_ne (fun (q : P = a) => ha (.inr (by rw [← q]; exact hP)))]; exact e, t⟩
/-- what a slot owns was lent and comes back -/
theorem Ok.lend (k : Ok z X H0 H σ env) {i : Nat} {d d' : D} (hi : env[i]? = some (.own d)) (hs : σ[i]? = some (some (V.ref a))) (ev : Evo z (mask H a) H') (hc : Con z (Ms z X σ env) H' a d') :
    Ok z X H0 H' σ (env.set i (.own d')) ∧ Fr z X (Ms z X σ env) H (Ms z X σ (env.set i (.own d'))) H' := by
  have hl : i < env.length := (List.getElem?_eq_some_iff.mp hi).1
  obtain ⟨a', hs', hc0, hz, hx, h0⟩ := k.own i d hi
  have ea : a' = a := by rw [hs] at hs'; cases hs'; rfl
  subst ea
  have ms : ∀ b, Ms z X σ (env.set i (.own d')) b → Ms z X σ env b := by
    rintro b (h | h | ⟨j, f, h1, h2⟩)
    · exact .inl h
    · exact .inr (.inl h)
    · by_cases hj : i = j
      · subst hj
        exact .inr (.inr ⟨i, d, hi, h2⟩)
      · rw [List.getElem?_set_ne hj] at h1
        exact .inr (.inr ⟨j, f, h1, h2⟩)
  have ain : Ms z X σ env a' := .inr (.inr ⟨i, d, hi, hs⟩)
  have same : ∀ b u, H b = some u → b ≠ a' → ¬ z.Z b → H' b = some u := fun b u q n m => ev.old b u (by rw [mask_ne n]; exact q) m
  have old : ∀ b u, H b = some u → ¬ Ms z X σ env b → H' b = some u ∧ ¬ Ms z X σ (env.set i (.own d')) b := fun b u q n =>
    ⟨same b u q (fun e => n (by rw [e]; exact ain)) fun y => n (.inl y), fun x => n (ms b x)⟩
  have dk : ∀ b, z.ok H b → z.ok H' b := fun b h => ev.dk b (ok_mask hz h)
  have al : ∀ b, H b ≠ none → H' b ≠ none := fun b h => by
    by_cases e : b = a'
    · obtain ⟨o, ho⟩ := hc.some
      rw [e, ho]; intro q; cases q
    · exact ev.al b (by rw [mask_ne e]; exact h)
  have ne0 : ∀ b u, H0 b = some u → b ≠ a' := fun b u q e => by rw [e, h0] at q; cases q
  refine ⟨⟨by simp [k.len], ⟨fun b u q n => same b u (k.evo.old b u q n) (ne0 b u q) n, fun b h => al b (k.evo.al b h), fun b h => dk b (k.evo.dk b h), fun h => ev.tab (tab_mask hz (k.evo.tab h))⟩, fun b h => al b (k.zal b h), fun b h => ⟨al b (k.xal b h).1, (k.xal b h).2⟩, fun j f h => ?_, fun j f h => ?_, fun j l b f g h1 h2 h3 h4 => ?_, ev.tab (tab_mask hz k.tab)⟩, ⟨old, dk, al⟩⟩
  · by_cases hj : i = j
    · subst hj
      rw [List.getElem?_set_self hl] at h
      cases h
    · rw [List.getElem?_set_ne hj] at h
      obtain ⟨u, h1, h2⟩ := k.val j f h
      exact ⟨u, h1, h2.gen old dk⟩
  · by_cases hj : i = j
    · subst hj
      rw [List.getElem?_set_self hl] at h
      cases h
      exact ⟨a', hs, hc.gen (fun _ q => q) (fun b o q n => ⟨q, fun x => n (ms b x)⟩) fun _ h => h, hz, hx, h0⟩
    · rw [List.getElem?_set_ne hj] at h
      obtain ⟨b, h1, h2, h3, h4⟩ := k.own j f h
      have nb : b ≠ a' := fun e => hj (k.inj i j a' d f hi h hs (e ▸ h1))
      exact ⟨b, h1, h2.gen (fun o q => same b o q nb h3) old dk, h3, h4⟩
  · have un : ∀ (j : Nat) (f : D), (env.set i (.own d'))[j]? = some (.own f) → ∃ f', env[j]? = some (.own f') := fun j f h => by
      by_cases hj : i = j
      · subst hj; exact ⟨d, hi⟩
      · rw [List.getElem?_set_ne hj] at h; exact ⟨f, h⟩
    obtain ⟨f', q1⟩ := un j f h1
    obtain ⟨g', q2⟩ := un l g h2
    exact k.inj j l b f' g' q1 q2 h3 h4
end
/-- the promise of a def that borrows its last argument, a list -/
def SfB (n : Nat) (wp : List D → List D → (D → List D → Prop) → Prop) : Sp := fun vs H Q _ => ∃ (z : Zn) (X : AP) (a : Addr) (us : List V) (ds cs : List D) (k : D → List D → Prop), vs = us ++ [.ref a] ∧ us.length = n ∧ ((∀ b, z.Z b → H b ≠ none) ∧ Tabs H) ∧ (∀ b, X b → H b ≠ none ∧ ¬ z.Z b) ∧ ¬ z.Z a ∧ ¬ X a ∧
  IsA z (Zx z (X.or a)) H us ds ∧ Con z (Zx z (X.or a)) H a (.lst cs) ∧ wp ds cs k ∧
  ∀ d v H' cs', Evo z (mask H a) H' → Is z (Zx z (X.or a)) H' v d → Con z (Zx z (X.or a)) H' a (.lst cs') → k d cs' → Q v H'
def envB (n : Nat) (ds cs : List D) : List SV := ds.map SV.val ++ SV.own (.bor cs) :: List.replicate (n - (ds.length + 1)) SV.no
def wpB (n : Nat) (p : PSt) : List D → List D → (D → List D → Prop) → Prop := fun ds cs k => p (envB n ds cs) { nx := fun _ => False, rt := fun _ => False, re := fun env d => match env[ds.length]? with
  | some (.own (.bor cs')) => k d cs'
  | _ => False }
def sRetB (p : PX) : PSt := fun env k => p env fun d => k.re env d
section
variable {C : Cx} {fr : Bool} {e : Expr} {es : List Expr} {pe : PX} {ga : PAs} {pos pp : Pos}
theorem s_retB (h : E .e C e pe) : S fr C (.Return (some e) pos) (sRetB pe) := by
  obtain ⟨t, h1, h2⟩ := h
  exact ⟨_, ps_ret h1, fun z X H0 H σ env G k o s hp => h2 z X H0 H σ env _ _ o (fun d v H1 e1 r1 hx => s.re env σ H1 d v (o.go e1) r1 hx) hp⟩
theorem start_okB {z : Zn} {X : AP} {H : Hp} {N : List Str} {us : List V} {ds cs : List D} {a : Addr} (hz : (∀ a, z.Z a → H a ≠ none) ∧ Tabs H) (hx : ∀ a, X a → H a ≠ none ∧ ¬ z.Z a) (za : ¬ z.Z a) (xa : ¬ X a)
    (hA : IsA z (Zx z (X.or a)) H us ds) (hc : Con z (Zx z (X.or a)) H a (.lst cs)) (hN : ds.length < N.length) :
    Ok (zb z (some a)) X (mask H a) H (L2.start N (us ++ [V.ref a])) (envB N.length ds cs) := by
  have hl := hA.length
  have el : ∀ i, i < ds.length → (envB N.length ds cs)[i]? = (ds[i]?).map SV.val := fun i hi => by
    unfold envB; rw [List.getElem?_append_left (by simpa using hi), List.getElem?_map]
  have em : (envB N.length ds cs)[ds.length]? = some (.own (.bor cs)) := by
    unfold envB; rw [List.getElem?_append_right (by simp)]; simp
  have er : ∀ (i : Nat) (v : SV), ds.length < i → (envB N.length ds cs)[i]? = some v → v = .no := fun i v hi h => by
    unfold envB at h
    rw [List.getElem?_append_right (by simp; omega)] at h
    obtain ⟨m, hm⟩ : ∃ m, i - (ds.map SV.val).length = m + 1 := ⟨i - ds.length - 1, by simp; omega⟩
    rw [hm, List.getElem?_cons_succ, List.getElem?_replicate] at h
    split at h <;> cases h
    rfl
  have on : ∀ (i : Nat) (d : D), (envB N.length ds cs)[i]? = some (.own d) → i = ds.length ∧ d = .bor cs := fun i d h => by
    rcases Nat.lt_trichotomy i ds.length with q | q | q
    · rw [el i q, List.getElem?_eq_getElem q] at h; cases h
    · rw [q, em] at h; cases h; exact ⟨q, rfl⟩
    · have := er i _ q h; cases this
  have sl : ∀ i, i < us.length → (L2.start N (us ++ [V.ref a]))[i]? = (us[i]?).map some := fun i hi => by
    unfold L2.start
    rw [List.getElem?_append_left (by simp; omega), List.getElem?_map, List.getElem?_append_left hi]
  have sm : (L2.start N (us ++ [V.ref a]))[ds.length]? = some (some (.ref a)) := by
    unfold L2.start
    rw [← hl, List.getElem?_append_left (by simp), List.getElem?_map, List.getElem?_append_right (Nat.le_refl _)]
    simp
  have ms : ∀ b, Ms (zb z (some a)) X (L2.start N (us ++ [V.ref a])) (envB N.length ds cs) b → Zx z (X.or a) b := by
    rintro b (h | h | ⟨i, d, h1, h2⟩)
    · exact .inl h
    · exact .inr (.inl h)
    · obtain ⟨rfl, _⟩ := on i d h1
      rw [sm] at h2
      cases h2
      exact .inr (.inr rfl)
  refine ⟨by unfold L2.start envB; simp; omega, evo_mask za, hz.1, hx, fun i d h => ?_, fun i d h => ?_, fun i j b d e h1 h2 _ _ => (on i d h1).1.trans (on j e h2).1.symm, hz.2⟩
  · rcases Nat.lt_trichotomy i ds.length with q | q | q
    · rw [el i q] at h
      cases q2 : ds[i]? with
      | none => rw [q2] at h; cases h
      | some x =>
        rw [q2] at h
        cases h
        obtain ⟨v, h1, h2⟩ := hA.get q2
        exact ⟨v, by rw [sl i (by omega), h1]; rfl, (h2.weak ms).zb⟩
    · rw [q, em] at h; cases h
    · have := er i _ q h; cases this
  · obtain ⟨rfl, rfl⟩ := on i d h
    obtain ⟨vs, q1, q2⟩ := hc
    exact ⟨a, sm, ⟨rfl, vs, q1, (q2.weak ms).zb⟩, za, xa, mask_self⟩
end
section
variable {P : Program} {w : World} {K : PySem.W.Frag} {mg : Str → Option Value} {base : Heap}
theorem fn_okB {x qual : Str} {st : Stmt} {f : Addr} {fd : FuncData} {N ps : List Str} {k n : Nat} {p : PSt} (F : Fun K x qual st f fd) (S : FnScope N ps (defScope st)) (hn : ps.length = n + 1) (hN : n < N.length)
    (hb : ∀ (cdv : Value) (A : Around) (outer : List Env) (s : Shared) (H : Hp) (E : XK), Room k (A.deeper (envOfC qual (defScope st) s.heap.objs.size f cdv)) → B false (cxOf CX0 P w K mg base N qual (defScope st) f cdv A outer s H E).nox (defBody st) p) :
    FnOk P w K mg base CX0 (k + 1) f fd ps (SfB n (fun ds cs k => ds.length = n ∧ wpB N.length p ds cs k)) := by
  refine F.ok S (fun vs H Q E h => ?_) (fun cdv A outer s H vs Q E hr h => ?_)
  · obtain ⟨z, X, a, us, ds, cs, kk, hv, hl, _⟩ := h
    rw [hv, hn, List.length_append, hl]; rfl
  · obtain ⟨z, X, a, us, ds, cs, kk, rfl, hl, hz, hx, za, xa, hA, hc, ⟨hd, hw⟩, c⟩ := h
    obtain ⟨t, b1, b2⟩ := hb cdv A outer s H E hr
    refine ⟨t, b1, b2 (zb z (some a)) X (mask H a) H (L2.start N (us ++ [V.ref a])) _ _ { nx := fun _ => False, rt := fun _ => False, re := fun env d => match env[ds.length]? with
  | some (.own (.bor cs')) => kk d cs'
  | _ => False } (start_okB hz hx za xa hA hc (by omega)) ⟨fun _ _ _ _ _ hk => hk.elim, fun _ _ _ _ _ _ hk => hk.elim, fun _ _ _ _ _ hk => hk.elim, fun _ _ _ _ _ hk => hk.elim, fun env' σ' H' d v o' r hk => ?_⟩ hw⟩
    simp only at hk
    split at hk
    · rename_i cs' he
      obtain ⟨b, h1, ⟨h2, vs, h3, h4⟩, h5, h6, h7⟩ := o'.own _ _ he
      cases h2
      have sub : ∀ y, Zx z (X.or a) y → Ms (zb z (some a)) X σ' env' y := by
        rintro y (q | q | q)
        · exact .inl q
        · exact .inr (.inl q)
        · exact .inr (.inr ⟨_, _, he, by rw [q]; exact h1⟩)
      exact c d v H' cs' o'.evo.unzb (r.weak sub).unzb ⟨vs, h3, (h4.weak sub).unzb⟩ hk
    · exact hk.elim
end
/-! ### calls that lend a list -/
def RAB (r : Nat) (t : TA) (p : PAs) : Prop := ∀ (z : Zn) (X : AP) (H0 H : Hp) (σ : Sl) (env : List SV) (Q : List V → Hp → Prop) (k : List D → Prop) (a : Addr), Ok z X H0 H σ env → σ[r]? = some (some (.ref a)) →
  (∀ ds vs H', Evo z H H' → IsA z (Ms z X σ env) H' vs ds → k ds → Q (vs ++ [.ref a]) H') → p env k → t σ H Q
structure AB (r : Nat) (C : Cx) (es : List Expr) (p : PAs) : Prop where
  ex : ∃ t, PA C es t ∧ RAB r t p
section
variable {C : Cx} {fr : Bool} {e : Expr} {es : List Expr} {pe p : PX} {ga : PAs} {pos pp : Pos} {r : Nat} {x : Str}
theorem ab_one (r : Nat) (hN : C.N[r]? = some x := by rfl) (hv : Vis C.env.scope x := by first | exact Or.inl rfl | exact Or.inr (Or.inl rfl) | exact Or.inr (Or.inr rfl)) (hd : (x == ("__debug__" : Str)) = false := by decide)
    (hcd : (x == ("__classdict__" : Str)) = false := by decide) (hs : starEach [.Name x pp] C.env = (false, eval (.Name x pp) C.env) :: starEach [] C.env := by rfl) : AB r C [.Name x pp] aNil :=
  ⟨_, pa_cons (pe_var hN hv hd hcd) pa_nil hs, fun z X H0 H σ env Q k a o h c hp => ⟨_, h, c [] [] H (Evo.refl _ _) .nil hp⟩⟩
theorem ab_cons (h : E .e C e p) (hr : AB r C es ga) (hs : starEach (e :: es) C.env = (false, eval e C.env) :: starEach es C.env := by rfl) : AB r C (e :: es) (aCons p ga) := by
  obtain ⟨t, h1, h2⟩ := h
  obtain ⟨u, g1, g2⟩ := hr
  refine ⟨_, pa_cons h1 g1 hs, fun z X H0 H σ env Q k a o h c hp => h2 z X H0 H σ env _ _ o (fun d v H1 e1 r1 hx => ?_) hp⟩
  exact g2 z X H0 H1 σ env _ _ a (o.go e1) h (fun ds vs H2 e2 r2 hy => c (d :: ds) (v :: vs) H2 (e1.trans e2) (.cons (Is.evo (fun _ q => .inl q) e2 r1) r2) hy) hx
/-- the list of slot r is lent to a def: its answer, and what became of the list -/
def lendP (r : Nat) (wp : List D → List D → (D → List D → Prop) → Prop) (g : PAs) : List SV → (D → List SV → Prop) → Prop := fun env k => match env[r]? with
  | some (.own (.lst cs)) => g env fun ds => wp ds cs fun d cs' => k d (env.set r (.own (.lst cs')))
  | some (.own (.bor cs)) => g env fun ds => wp ds cs fun d cs' => k d (env.set r (.own (.bor cs')))
  | _ => False
theorem lend_i {t : TA} {n : Nat} {wp : List D → List D → (D → List D → Prop) → Prop} (h : RAB r t ga) (hn : ∀ ds cs k, wp ds cs k → ds.length = n) {z : Zn} {X : AP} {H0 H : Hp} {σ : Sl} {env : List SV} {Q : VK} {k : D → List SV → Prop}
    (o : Ok z X H0 H σ env) (c : ∀ d v H' env', Ok z X H0 H' σ env' → Fr z X (Ms z X σ env) H (Ms z X σ env') H' → Is z (Ms z X σ env') H' v d → k d env' → Q v H') (hp : lendP r wp ga env k) : tCall (SfB n wp) [] E0 t σ H Q := by
  have main : ∀ (c0 : D) (cs : List D) (mk : List D → D), env[r]? = some (.own c0) → (∀ (M : AP) (H : Hp) (a : Addr), Con z M H a c0 → Con z M H a (.lst cs) ∧ ∀ M' H' cs', Con z M' H' a (.lst cs') → Con z M' H' a (mk cs')) →
      (ga env fun ds => wp ds cs fun d cs' => k d (env.set r (.own (mk cs')))) → tCall (SfB n wp) [] E0 t σ H Q := fun c0 cs mk he hk hg => by
    obtain ⟨a, q1, q2, q3, q4, q5⟩ := o.own r _ he
    refine h z X H0 H σ env _ _ a o q1 (fun ds vs H1 e1 r1 hx => ?_) hg
    have o1 := o.go e1
    obtain ⟨a', q1', q2', _⟩ := o1.own r _ he
    have ea : a' = a := by rw [q1] at q1'; cases q1'; rfl
    subst ea
    obtain ⟨m1, m2⟩ := hk _ _ _ q2'
    let Y : AP := fun b => X b ∨ ∃ (i : Nat) (d : D), i ≠ r ∧ env[i]? = some (.own d) ∧ σ[i]? = some (some (V.ref b))
    have zy : ∀ b, Zx z (Y.or a') b ↔ Ms z X σ env b := fun b => by
      constructor
      · rintro (y | (y | ⟨i, d, _, y1, y2⟩) | y)
        · exact .inl y
        · exact .inr (.inl y)
        · exact .inr (.inr ⟨i, d, y1, y2⟩)
        · exact .inr (.inr ⟨r, _, he, by rw [y]; exact q1⟩)
      · rintro (y | y | ⟨i, d, y1, y2⟩)
        · exact .inl y
        · exact .inr (.inl (.inl y))
        · by_cases hi : i = r
          · rw [hi, q1] at y2; cases y2; exact .inr (.inr rfl)
          · exact .inr (.inl (.inr ⟨i, d, hi, y1, y2⟩))
    rw [List.append_nil]
    refine ⟨z, Y, a', vs, ds, cs, _, rfl, by rw [r1.length]; exact hn _ _ _ hx, ⟨o1.zal, o1.tab⟩, fun b y => o1.ox (y.elim .inl fun ⟨i, d, _, y1, y2⟩ => .inr ⟨i, d, y1, y2⟩), q3, fun y => y.elim q4 fun ⟨i, d, hi, y1, y2⟩ => hi (o.inj i r a' d _ y1 he y2 q1),
      r1.weak fun b y => (zy b).mp y, ?_, hx, fun d v H2 cs' e2 r2 hc kd => ?_⟩
    · exact m1.gen (fun _ q => q) (fun b u q n => ⟨q, fun y => n ((zy b).mp y)⟩) fun _ h => h
    · have hc' : Con z (Ms z X σ env) H2 a' (.lst cs') := hc.gen (fun _ q => q) (fun b u q n => ⟨q, fun y => n ((zy b).mpr y)⟩) fun _ h => h
      obtain ⟨o2, f2⟩ := o1.lend he q1 e2 (m2 _ _ _ hc')
      refine c d v H2 _ o2 ((o.fr e1).trans f2) (r2.weak fun b y => ?_) kd
      rcases y with y | y | ⟨j, f, y1, y2⟩
      · exact .inl y
      · exact .inr (.inl (.inl y))
      · by_cases hj : r = j
        · rw [← hj, q1] at y2; cases y2; exact .inr (.inr rfl)
        · rw [List.getElem?_set_ne hj] at y1
          exact (zy b).mpr (.inr (.inr ⟨j, f, y1, y2⟩))
  unfold lendP at hp
  split at hp
  · rename_i cs he
    exact main _ cs D.lst he (fun M H a hc => ⟨hc, fun _ _ _ h => h⟩) hp
  · rename_i cs he
    exact main _ cs D.bor he (fun M H a hc => ⟨hc.2, fun _ _ _ h => ⟨hc.1, h⟩⟩) hp
  · exact hp.elim
variable {k n i : Nat} {f : Addr} {fd : FuncData} {ps : List Str} {wp : List D → List D → (D → List D → Prop) → Prop} {y : Str}
def sLend (r : Nat) (wp : List D → List D → (D → List D → Prop) → Prop) (g : PAs) : PSt := fun env k => lendP r wp g env fun _ env' => k.nx env'
def sLendS (i r : Nat) (wp : List D → List D → (D → List D → Prop) → Prop) (g : PAs) : PSt := fun env k => lendP r wp g env fun d env' => k.nx (env'.set i (.val d))
theorem s_lend {cpos : Pos} (F : FnOk C.prog C.w C.K C.mg C.base CX0 k f fd ps (SfB n wp)) (hn : ∀ ds cs k, wp ds cs k → ds.length = n) (hr : Room k C.A) (hg : Gl C x) (hm : C.mg x = some (.ref f)) (hk : PySem.W.keepIn C.K (.ref f) = true) (hb : Binds C.K fd ps [])
    (ha : AB r C (e :: es) ga) (hdb : (x == ("__debug__" : Str)) = false := by decide) (he : starEach (e :: es) C.env = (false, eval e C.env) :: starEach es C.env := by rfl) (hpl : (backTo cpos (starEach es C.env)).any (·.1) = false := by rfl)
    (hs : swapsWith (.Call (.Name x pp) (e :: es) [] cpos) none pos.line C.env = pure false := by rfl) : S fr C (.Expr (.Call (.Name x pp) (e :: es) [] cpos) pos) (sLend r wp ga) := by
  obtain ⟨t, h1, h2⟩ := ha
  exact ⟨_, ps_expr (pe_call F hr hg hm hk hb .nil pass0 h1 hdb he hpl) hs, fun z X H0 H σ env G k o s hp => lend_i h2 hn o (fun d v H' env' o' f' _ hx => s.nx env' σ H' o' f' hx) hp⟩
theorem s_lendS {cpos yp : Pos} (F : FnOk C.prog C.w C.K C.mg C.base CX0 k f fd ps (SfB n wp)) (hn : ∀ ds cs k, wp ds cs k → ds.length = n) (hr : Room k C.A) (hg : Gl C x) (hm : C.mg x = some (.ref f)) (hk : PySem.W.keepIn C.K (.ref f) = true) (hb : Binds C.K fd ps [])
    (ha : AB r C (e :: es) ga) (hN : C.N.Nodup) (hi : C.N[i]? = some y) (hy : Loc C.env.scope y) (hdb : (x == ("__debug__" : Str)) = false := by decide) (he : starEach (e :: es) C.env = (false, eval e C.env) :: starEach es C.env := by rfl) (hpl : (backTo cpos (starEach es C.env)).any (·.1) = false := by rfl)
    (hs : swapsWith (.Call (.Name x pp) (e :: es) [] cpos) (some (.Name y yp)) pos.line C.env = pure false := by rfl) (hf : C.fn y = true ∨ C.env.scope.names.lookup y = some .local := by first | exact .inl rfl | exact .inr rfl | assumption) :
    S fr C (.Assign [.Name y yp] (.Call (.Name x pp) (e :: es) [] cpos) pos) (sLendS i r wp ga) := by
  obtain ⟨t, h1, h2⟩ := ha
  refine ⟨_, ps_set hN hi hy (pe_call F hr hg hm hk hb .nil pass0 h1 hdb he hpl) hs hf, fun z X H0 H σ env G k o s hp => lend_i h2 hn o (fun d v H' env' o' f' r' hx => ?_) hp⟩
  obtain ⟨o2, f2⟩ := o'.set (i := i) r'
  exact s.nx _ _ H' o2 (f'.trans f2) hx
/-! ### recursion, by fuel -/
variable {P : Program} {w : World} {K : PySem.W.Frag} {mg : Str → Option Value} {base : Heap}
theorem fn_bot {sp : Sp} (h : ∀ vs H Q E, ¬ sp vs H Q E) : FnOk P w K mg base CX0 k f fd ps sp := ⟨fun vs H Q E q => (h vs H Q E q).elim, fun A outer s H args us vs Q E _ _ _ _ q => (h vs H Q E q).elim⟩
theorem fn_rec (sp : Nat → Sp) (k : Nat) (h0 : ∀ vs H Q E, ¬ sp 0 vs H Q E) (hs : ∀ m, FnOk P w K mg base CX0 (k + m) f fd ps (sp m) → FnOk P w K mg base CX0 (k + m + 1) f fd ps (sp (m + 1))) (m : Nat) : FnOk P w K mg base CX0 (k + m) f fd ps (sp m) := by
  induction m with
  | zero => exact fn_bot h0
  | succ m ih => exact hs m ih
end
end Pu

namespace Pu
open PySem PySem.Spec PyProof.Rows L2
variable [Tbs]
/-! ### sorted(xs), xs a list of tuples of whole numbers -/
def lexI : List Int → List Int → Bool
  | [], [] => false
  | [], _ :: _ => true
  | _ :: _, [] => false
  | x :: r, y :: t => decide (x < y) || (!decide (y < x) && lexI r t)
theorem lexI_eq : ∀ (xs ys : List Int), PyProof.Rows.lexLt PyProof.Rows.itemOrd (xs.map Sum.inl) (ys.map Sum.inl) = lexI xs ys
  | [], [] => rfl
  | [], _ :: _ => rfl
  | _ :: _, [] => rfl
  | x :: r, y :: t => by
    show (decide (x < y) || (!decide (y < x) && PyProof.Rows.lexLt PyProof.Rows.itemOrd (r.map Sum.inl) (t.map Sum.inl))) = _
    rw [lexI_eq r t]; rfl
theorem perm_lift {α β : Type} (f : α → β) {a b : List β} (h : a.Perm b) : ∀ (ks : List α), ks.map f = b → ∃ L : List α, L.Perm ks ∧ L.map f = a := by
  induction h with
  | nil => intro ks e; exact ⟨ks, .refl _, e⟩
  | cons x p ih =>
    intro ks e
    cases ks with
    | nil => cases e
    | cons y r =>
      rw [List.map_cons] at e
      injection e with e1 e2
      obtain ⟨L, h1, h2⟩ := ih r e2
      exact ⟨y :: L, h1.cons y, by rw [List.map_cons, e1, h2]⟩
  | swap x y l =>
    intro ks e
    match ks, e with
    | u :: v :: r, e =>
      rw [List.map_cons, List.map_cons] at e
      injection e with e1 e2
      injection e2 with e2 e3
      exact ⟨v :: u :: r, List.Perm.swap u v r, by rw [List.map_cons, List.map_cons, e1, e2, e3]⟩
  | trans p q ih1 ih2 =>
    intro ks e
    obtain ⟨L, h1, h2⟩ := ih2 ks e
    obtain ⟨L2, h3, h4⟩ := ih1 L h2
    exact ⟨L2, h3.trans h1, h4⟩
abbrev rf (p : Addr × List Int) : V := V.ref p.1
abbrev rfv (p : Addr × List Int) : Value := Value.ref p.1
theorem refs_in : ∀ {ks : List (Addr × List Int)} {us : List Value}, Vals (ks.map rf) us → us = ks.map rfv
  | [], _, .nil => rfl
  | p :: ks, _, .cons r t => by
    cases r
    rw [refs_in t] <;> rfl
theorem refs_out : ∀ (ks : List (Addr × List Int)), Vals (ks.map rf) (ks.map rfv)
  | [] => .nil
  | p :: ks => .cons rfl (refs_out ks)
def shI : Nat → Bool := fun _ => false
theorem items_in : ∀ {ns : List Int} {us : List Value} (i : Nat), Vals (ns.map V.int) us → PyProof.Rows.tupItems shI i us = some (ns.map Sum.inl)
  | [], _, _, .nil => rfl
  | n :: ns, _, i, .cons r t => by
    obtain ⟨tk, rfl⟩ := r
    show (if shI i = true then none else (PyProof.Rows.tupItems shI (i + 1) _).map (Sum.inl n :: ·)) = _
    rw [items_in (i + 1) t]; rfl
def rSortedN (K : PySem.W.Frag) : List V → Hp → VK → Prop := fun vs H Q => ∃ (a : Addr) (ks : List (Addr × List Int)), vs = [V.ref a] ∧ SqL K H a (ks.map rf) ∧ (∀ p ∈ ks, SqT K H p.1 (p.2.map V.int) ∧ p.2 ≠ []) ∧
  ∀ (L : List (Addr × List Int)) (p : Addr), L.Perm ks → L.Pairwise (fun q r => lexI r.2 q.2 = false) → H p = none → Q (.ref p) (upd H p (.lst (L.map rf)))
theorem cr_sortedN {X : Cx} : CallR X (.builtin "sorted") (rSortedN X.K) := by
  intro pins s σ H vs us Q I r h
  obtain ⟨a, ks, rfl, hs, hk, q⟩ := h
  obtain ⟨its, rv, hl, hz⟩ := I.list hs
  rw [Vals.ref1 r]
  cases refs_in rv
  have key : ∀ p ∈ ks, PyProof.Rows.G.tupKeyC s.heap shI (rfv p) = some (p.2.map Sum.inl) ∧ ∃ f, PyProof.Rows.TupOf s.heap shI (rfv p) f := fun p hp => by
    obtain ⟨h1, h2⟩ := hk p hp
    obtain ⟨us, ru, ⟨o, ho, hc, n, hd⟩, _⟩ := I.tuple h1
    have hi : PyProof.Rows.tupItems shI 0 us.toArray.toList = some (p.2.map Sum.inl) := by simpa using items_in 0 ru
    refine ⟨?_, ?_⟩
    · unfold PyProof.Rows.G.tupKeyC
      have e1 : PyProof.Rows.G.isTupObj s.heap (rfv p) = true := by simp [PyProof.Rows.G.isTupObj, ho, hc]
      rw [if_pos e1]
      simp only [PyProof.Rows.tupKey, ho, hd]
      exact hi
    · obtain ⟨p1, p2⟩ := p
      cases p2 with
      | nil => exact absurd rfl h2
      | cons m ms =>
        cases ru with
        | cons r0 rt =>
          obtain ⟨tk, rfl⟩ := r0
          exact ⟨_, p1, o, _, n, rfl, ho, hc, hd, rfl, fun _ => ⟨m, tk, rfl⟩, fun w => Bool.noConfusion w⟩
  have tups : ∀ ks : List (Addr × List Int), (∀ p ∈ ks, ∃ f, PyProof.Rows.TupOf s.heap shI (rfv p) f) → ∃ fs, PyProof.Rows.TupsOf s.heap shI (ks.map rfv) fs := fun ks => by
    induction ks with
    | nil => intro _; exact ⟨[], .nil⟩
    | cons p ks ih =>
      intro h
      obtain ⟨f, hf⟩ := h p List.mem_cons_self
      obtain ⟨fs, hfs⟩ := ih fun u hu => h u (List.mem_cons_of_mem _ hu)
      exact ⟨f :: fs, .cons hf hfs⟩
  obtain ⟨fs, hfs⟩ := tups ks fun p hp => (key p hp).2
  refine PyProof.Rows.G.sorted_tups (shape := shI) hl.isList hfs (fun v hv => ?_) (by simpa using hz) fun st' hp hs' _ => ?_
  · obtain ⟨p, hp, rfl⟩ := List.mem_map.mp hv
    exact ⟨_, (key p hp).1⟩
  · have hpl : (arrOf st').toList.Perm ((ks.map rfv).zip (ks.map rfv)) := by
      have e := Array.perm_iff_toList_perm.mp hp
      rw [pairsOf_toList] at e
      exact e
    have ho : ((arrOf st').toList.map (·.2)).Perm (ks.map rfv) := by
      have e := hpl.map (·.2)
      rw [List.map_snd_zip (Nat.le_refl _)] at e
      exact e
    obtain ⟨L, l1, l2⟩ := perm_lift rfv ho ks rfl
    have hlen : L.length = (arrOf st').toList.length := by have e := congrArg List.length l2; simpa using e
    have kk : ∀ (i : Nat) (hi : i < L.length), KK (PyProof.Rows.G.tupKindC s.heap shI) (arrOf st') i = L[i].2.map Sum.inl := fun i hi => by
      have hi' : i < (arrOf st').toList.length := by omega
      have e1 : (arrOf st')[i]? = some (arrOf st').toList[i] := by rw [← Array.getElem?_toList]; exact List.getElem?_eq_getElem hi'
      have e2 : (arrOf st').toList[i].2 = rfv L[i] := by
        have e := congrArg (fun l => l[i]?) l2
        simp only [List.getElem?_map, List.getElem?_eq_getElem hi, List.getElem?_eq_getElem hi', Option.map_some] at e
        exact (Option.some.inj e).symm
      have e3 := (mem_zip_self (hpl.mem_iff.mp (List.getElem_mem hi'))).1
      have e4 : L[i] ∈ ks := l1.mem_iff.mp (List.getElem_mem hi)
      unfold KK
      rw [e1]
      show (PyProof.Rows.G.tupKeyC s.heap shI (arrOf st').toList[i].1).getD [] = _
      rw [e3, e2, (key _ e4).1]; rfl
    have pw : L.Pairwise (fun q r => lexI r.2 q.2 = false) := by
      rw [List.pairwise_iff_getElem]
      intro i j hi hj hij
      have e := hs' i j (Nat.le_of_lt hij) (by rw [pairsOf_size, List.length_map, ← l1.length_eq]; exact hj)
      rw [kk i hi, kk j hj] at e
      rw [← lexI_eq]
      exact e
    obtain ⟨ep, he'⟩ := sortedAll_at s.heap (ks.map rfv) ((arrOf st').map (·.2))
    have len : (L.map rf).length ≤ sizeLine := by
      rw [List.length_map, l1.length_eq]; simpa using hz
    have hv : Vals (L.map rf) ((arrOf st').map (·.2)).toList := by rw [Array.toList_map, ← l2]; exact refs_out L
    exact ⟨.ref _, upd H (s.heap.objs.size + 1) (.lst (L.map rf)), I.laid (t' := s.toks) (fun _ _ => sortedAll_old) (Nat.le_succ _) ⟨len, _, ep, hv, he'⟩, rfl, q L _ l1 pw (I.hok.fresh (Nat.le_succ _))⟩
def tupI (ns : List Int) : D := .tup (ns.map D.int)
def gSortedN : List D → (D → Prop) → Prop := fun ds k => ∃ xs : List (List Int), ds = [.lst (xs.map tupI)] ∧ (∀ x ∈ xs, x ≠ []) ∧ ∀ ys : List (List Int), ys.Perm xs → ys.Pairwise (fun q r => lexI r q = false) → k (.lst (ys.map tupI))
theorem tups_of {z : Zn} {M : AP} {H : Hp} : ∀ {xs : List (List Int)} {vs : List V}, IsA z M H vs (xs.map tupI) → ∃ ks : List (Addr × List Int), vs = ks.map rf ∧ ks.map (·.2) = xs ∧ ∀ p ∈ ks, H p.1 = some (.tup (p.2.map V.int)) ∧ ¬ M p.1
  | [], _, .nil => ⟨[], rfl, rfl, fun _ h => nomatch h⟩
  | x :: xs, _, .cons q t => by
    obtain ⟨ks, h1, h2, h3⟩ := tups_of t
    cases (show Is z M H _ (.tup (x.map D.int)) from q) with
    | tup e n r =>
      refine ⟨(_, x) :: ks, by rw [List.map_cons, h1], by rw [List.map_cons, h2], fun p hp => ?_⟩
      rcases List.mem_cons.mp hp with rfl | hp
      · exact ⟨by rw [e, r.ints], n⟩
      · exact h3 p hp
theorem tups_to {z : Zn} {M : AP} {H : Hp} : ∀ {ks : List (Addr × List Int)}, (∀ p ∈ ks, H p.1 = some (.tup (p.2.map V.int)) ∧ ¬ M p.1) → IsA z M H (ks.map rf) ((ks.map (·.2)).map tupI)
  | [], _ => .nil
  | p :: ks, h => .cons (.tup (h p List.mem_cons_self).1 (h p List.mem_cons_self).2 (IsA.ofInts _)) (tups_to fun u hu => h u (List.mem_cons_of_mem _ hu))
theorem cd_sortedN {K : PySem.W.Frag} : CallD true .f (rSortedN K) gSortedN := fun z X H0 H σ env vs ds Q k o h c hp => by
  obtain ⟨xs, rfl, hne, hk⟩ := hp
  obtain ⟨v, rfl, hv⟩ := h.one
  cases hv with
  | lst e n r =>
    obtain ⟨ks, rfl, h2, h3⟩ := tups_of r
    refine ⟨_, ks, rfl, SqL.of e, fun p hp => ⟨SqT.of (h3 p hp).1, hne _ (by rw [← h2]; exact List.mem_map.mpr ⟨p, hp, rfl⟩)⟩, fun L p l1 l2 hq => ?_⟩
    have e2 : (L.map (·.2)).Perm xs := by rw [← h2]; exact l1.map _
    refine c _ _ _ ((Evo.refl _ _).new hq) (Rel.newL hq hq ?_) (hk (L.map (·.2)) e2 (List.pairwise_map.mpr l2))
    rw [if_pos rfl] at h3
    exact tups_to fun u hu => h3 u (l1.mem_iff.mp hu)
theorem gSortedN_i {xs : List (List Int)} {k : D → Prop} (h1 : ∀ x ∈ xs, x ≠ []) (h2 : ∀ ys : List (List Int), ys.Perm xs → ys.Pairwise (fun q r => lexI r q = false) → k (.lst (ys.map tupI))) : gSortedN [.lst (xs.map tupI)] k := ⟨xs, rfl, h1, h2⟩
end Pu

namespace Pu
open PySem PySem.Spec PyProof.Rows L2
variable [Tbs]
/-! ### statements that raise: p env says that they do -/
abbrev XS := List SV → Prop
/-- what is wished at the raise -/
abbrev WD := L2.St → Hp → Prop
def RX (W : WD) (t : TS) (p : XS) : Prop := ∀ (z : Zn) (X : AP) (H0 H : Hp) (σ : Sl) (env : List SV) (D : Ends), Ok z X H0 H σ env → (∀ σ' H', Evo z H0 H' → W σ' H') → p env → t D σ H
def RXE (W : WD) (t : TE) (p : XS) : Prop := ∀ (z : Zn) (X : AP) (H0 H : Hp) (σ : Sl) (env : List SV) (Q : VK), Ok z X H0 H σ env → (∀ H', Evo z H H' → W σ H') → p env → t σ H Q
structure EX (W : WD) (C : Cx) (e : Expr) (p : XS) : Prop where
  ex : ∃ t, PE C e t ∧ RXE W t p
structure SX (W : WD) (C : Cx) (st : Stmt) (p : XS) : Prop where
  ex : ∃ t, PS C st t ∧ RX W t p
structure BX (W : WD) (C : Cx) (st : List Stmt) (p : XS) : Prop where
  ex : ∃ t, PSs C st t ∧ RX W t p
section
variable {W : WD} {C : Cx} {fr : Bool} {st : Stmt} {rest : List Stmt} {e a b : Expr} {es : List Expr} {p : PSt} {pe : PX} {q px : XS} {m : Mode} {pos pp : Pos} {x : Str}
theorem pss_never : PSs C rest (fun _ _ _ => False) := ⟨fun _ _ _ _ _ _ h => h.elim⟩
theorem bx_first (h : SX W C st q) : BX W C (st :: rest) q := by
  obtain ⟨t, h1, h2⟩ := h
  exact ⟨_, pss_cons h1 pss_never, fun z X H0 H σ env D o w hp => h2 z X H0 H σ env _ o w hp⟩
/-- the first runs, then the rest raises -/
def xSeq (p : PSt) (q : XS) : XS := fun env => p env { nx := q, rt := fun _ => False, bk := fun _ => False, ct := fun _ => False, re := fun _ _ => False }
theorem bx_cons (h : S fr C st p) (g : BX W C rest q) : BX W C (st :: rest) (xSeq p q) := by
  obtain ⟨t, h1, h2⟩ := h
  obtain ⟨u, g1, g2⟩ := g
  exact ⟨_, pss_cons h1 g1, fun z X H0 H σ env D o w hp => h2 z X H0 H σ env _ { nx := q, rt := fun _ => False, bk := fun _ => False, ct := fun _ => False, re := fun _ _ => False } o ⟨fun env' σ' H' o' f' hx => g2 z X H0 H' σ' env' _ o' w hx, fun _ _ _ _ _ _ h => h.elim, fun _ _ _ _ _ h => h.elim, fun _ _ _ _ _ h => h.elim, fun _ _ _ _ _ _ _ h => h.elim⟩ hp⟩
/-- a test holds, and its branch raises -/
def xIf (c : PTs') (q : XS) : XS := fun env => c env fun b => b = true ∧ q env
theorem sx_if {c : Expr} {ss els : List Stmt} {tc : PTs'} (h : T C c tc) (ha : BX W C ss q) : SX W C (.If c ss els pos) (xIf tc q) := by
  obtain ⟨t, h1, h2⟩ := h
  obtain ⟨ta, a1, a2⟩ := ha
  refine ⟨_, ps_if h1 a1 pss_never, fun z X H0 H σ env D o w hp => h2 z X H0 H σ env _ _ o (fun y H1 e1 hx => ?_) hp⟩
  obtain ⟨rfl, hx⟩ := hx
  exact a2 z X H0 H1 σ env _ (o.go e1) w hx
/-- raise X('..') -/
theorem sx_raise {W0 : WX} {A : Addr} {bmB : List Value} {Bn newId initId : String} {ms : Str} {j : Nat} {p2 cpos : Pos} (hc : C.calm = true) (tk : Takes C W0) (F : ExcBaseFacts Bn newId initId bmB) (xq : PySem.W.excIn C.K A bmB newId = true) (gC : C.mg x = some (.ref A)) (kC : PySem.W.keepIn C.K (.ref A) = true) (r : Raises C (.ref A)) (hg : Gl C x)
    (hdb : (x == ("__debug__" : Str)) = false := by decide) : SX (fun σ H => W0 (.ref A) none σ H) C (.Raise (some (.Call (.Name x pp) [.Constant (.str ms) j p2] [] cpos)) none pos) (fun _ => True) :=
  ⟨_, ps_raise hc tk (pmk_own F xq gC kC r hg hdb), fun z X H0 H σ env D o w _ => w σ H o.evo⟩
/-! ### expressions that raise: a call among other things -/
def xCall (wpx : List D → Prop) (g : PAs) : XS := fun env => g env fun ds => wpx ds
/-- the promise of a def that raises an exception of the class cls -/
def SfX (cls : Value) (n : Nat) (wpx : List D → Prop) : Sp := fun vs H _ E => ∃ (z : Zn) (X : AP) (ds : List D), vs.length = n ∧ ((∀ a, z.Z a → H a ≠ none) ∧ Tabs H) ∧ (∀ a, X a → H a ≠ none ∧ ¬ z.Z a) ∧ IsA z (Zx z X) H vs ds ∧ wpx ds ∧ ∀ H', Evo z H H' → E cls none H'
theorem rxe_call {W0 : WX} {cls : Value} {n : Nat} {wpx : List D → Prop} {t : TA} {ga : PAs} (h : RA true t ga) : RXE (fun σ H => W0 cls none σ H) (tCallS (SfX cls n wpx) (WE W0) t) (xCall (fun ds => ds.length = n ∧ wpx ds) ga) := fun z X H0 H σ env Q o w hp => by
  refine h z X H0 H σ env _ _ o (fun ds vs H1 e1 r1 hx => ?_) hp
  have o1 := o.go e1
  rw [if_pos rfl] at r1
  exact ⟨z, Ox X σ env, ds, by rw [r1.length]; exact hx.1, ⟨o1.zal, o1.tab⟩, fun a => o1.ox, r1.weak fun a q => zx_ox.mp q, hx.2, fun H2 e2 => w H2 (e1.trans e2)⟩
theorem ex_call {W0 : WX} {cls : Value} {k n : Nat} {f : Addr} {fd : FuncData} {ps : List Str} {wpx : List D → Prop} {ga : PAs} (F : FnOk C.prog C.w C.K C.mg C.base (L2.CX C.prog C.w) k f fd ps (SfX cls n wpx)) (hr : Room k C.A) (hg : Gl C x) (hm : C.mg x = some (.ref f)) (hk : PySem.W.keepIn C.K (.ref f) = true) (hb : Binds C.K fd ps []) (tk : Takes C W0)
    (ha : A true C (e :: es) ga) (hdb : (x == ("__debug__" : Str)) = false := by decide) (he : starEach (e :: es) C.env = (false, eval e C.env) :: starEach es C.env := by rfl) (hpl : (backTo pos (starEach es C.env)).any (·.1) = false := by rfl) :
    EX (fun σ H => W0 cls none σ H) C (.Call (.Name x pp) (e :: es) [] pos) (xCall (fun ds => ds.length = n ∧ wpx ds) ga) := by
  obtain ⟨t, h1, h2⟩ := ha
  exact ⟨_, pe_callS F hr hg hm hk hb (fun σ => passAt tk σ) h1 hdb he hpl, rxe_call h2⟩
theorem ex_lst (h : EX W C e q) (hs : starEach (e :: []) C.env = (false, eval e C.env) :: starEach [] C.env := by rfl) : EX W C (.List [e] pos) q := by
  obtain ⟨t, h1, h2⟩ := h
  exact ⟨_, pe_lst (pa_cons h1 pa_nil hs), fun z X H0 H σ env Q o w hp => h2 z X H0 H σ env _ o w hp⟩
theorem ex_opL {op : Operator} {r : R2} (hr : OpR C (binaryOp op) r) (h : EX W C a q) (hb : E m C b pe) : EX W C (.BinOp a op b pos) q := by
  obtain ⟨t, h1, h2⟩ := h
  obtain ⟨u, g1, g2⟩ := hb
  exact ⟨_, pe_op hr h1 g1, fun z X H0 H σ env Q o w hp => h2 z X H0 H σ env _ o w hp⟩
theorem sx_set {i : Nat} (h : EX W C e q) (hN : C.N.Nodup) (hi : C.N[i]? = some x) (hx : Loc C.env.scope x) (hs : swapsWith e (some (.Name x pp)) pos.line C.env = pure false := by rfl) (hf : C.fn x = true ∨ C.env.scope.names.lookup x = some .local := by first | exact .inl rfl | exact .inr rfl | assumption) :
    SX W C (.Assign [.Name x pp] e pos) q := by
  obtain ⟨t, h1, h2⟩ := h
  exact ⟨_, ps_set hN hi hx h1 hs hf, fun z X H0 H σ env D o w hp => h2 z X H0 H σ env _ o (fun H' ev => w σ H' (o.evo.trans ev)) hp⟩
theorem sx_ret (h : EX W C e q) : SX W C (.Return (some e) pos) q := by
  obtain ⟨t, h1, h2⟩ := h
  exact ⟨_, ps_ret h1, fun z X H0 H σ env D o w hp => h2 z X H0 H σ env _ o (fun H' ev => w σ H' (o.evo.trans ev)) hp⟩
end
/-! ### a def that raises -/
def wpXOf (n : Nat) (p : XS) : List D → Prop := fun ds => p (ds.map SV.val ++ List.replicate (n - ds.length) SV.no)
section
variable {P : Program} {w : World} {K : PySem.W.Frag} {mg : Str → Option Value} {base : Heap}
theorem fn_okX {x qual : Str} {st : Stmt} {f : Addr} {fd : FuncData} {N ps : List Str} {k : Nat} {cls : Value} {p : XS} (F : Fun K x qual st f fd) (S : FnScope N ps (defScope st))
    (hb : ∀ (cdv : Value) (A : Around) (outer : List Env) (s : Shared) (H : Hp) (E : XK), Room k (A.deeper (envOfC qual (defScope st) s.heap.objs.size f cdv)) → Takes (cxOf (L2.CX P w) P w K mg base N qual (defScope st) f cdv A outer s H E) (fun cls d _ H => E cls d H) →
      BX (fun _ H => E cls none H) (cxOf (L2.CX P w) P w K mg base N qual (defScope st) f cdv A outer s H E) (defBody st) p) :
    FnOk P w K mg base (L2.CX P w) (k + 1) f fd ps (SfX cls ps.length (wpXOf N.length p)) := by
  refine F.okX S (fun vs H Q E h => ?_) (fun cdv A outer s H vs Q E hr h => ?_)
  · obtain ⟨z, X, ds, hl, _⟩ := h
    exact hl
  · obtain ⟨z, X, ds, hl, hz, hx, hA, hw, c⟩ := h
    obtain ⟨t, b1, b2⟩ := hb cdv A outer s H E hr (takes_of rfl rfl rfl rfl)
    exact ⟨t, b1, b2 z X H H (L2.start N vs) _ _ (start_ok hz hx hA) (fun σ' H' ev => c H' ev) hw⟩
end
/-! ### isinstance of what an except clause holds, a tuple of classes -/
section
variable {C : Cx} {a D : Addr} {oe : Obj} {pn : List (Addr × Obj)}
def rIsET (K : PySem.W.Frag) (D a : Addr) : List V → Hp → VK → Prop := fun xs H Q => ∃ (tp : Addr) (cs : List V) (us : List Value) (b : Bool), xs = [.ref a, .ref tp] ∧ H tp = some (.tup cs) ∧ Paired ClsV cs us ∧ PySem.W.kitAny K (.ref D) us = some b ∧ Q (.bl b) H
theorem call_isET (T : ExcC C.K D) (hz : Zc (.ref D) none oe) (hf : ∃ vs, oe.data = .fields vs) : CallR (C.suite a ((a, oe) :: pn)) (.builtin "isinstance") (rIsET C.K D a) := by
  intro pins s σ H xs us Q I r h
  obtain ⟨tp, cs, ws, b, rfl, hT, k, e, q⟩ := h
  obtain ⟨u1, u2, rfl, r1, r2⟩ := vals2 r
  cases (show u1 = Value.ref a from r1)
  cases (show u2 = Value.ref tp from r2)
  obtain ⟨hget, _⟩ := I.pin (a, oe) (List.mem_append.mpr (.inl List.mem_cons_self))
  obtain ⟨vs, hv⟩ := hf
  have J : PySem.W.InstAt s.heap a oe D none := by
    obtain ⟨oc, od, oda, osl⟩ := oe
    obtain ⟨h1, h2⟩ := hz
    dsimp only at h1 h2 hv
    subst h1 h2 hv
    exact ⟨hget, rfl, rfl, trivial⟩
  obtain ⟨_, its, rv, o, h1, h2, n, h3⟩ := (show ObjOk C.prog C.w H s.heap tp (.tup cs) from I.hok tp _ hT)
  have e3 := ClsV.all k rv
  subst e3
  obtain ⟨oc, od, dt, sl⟩ := o
  simp only at h2 h3
  subst h2 h3
  exact PySem.W.kia_tup (PySem.W.handS_kitx_exc T.hg T.hk T.hs T.hd T.ha T.hn T.ht T.hm) I.kIn J h1 e (fun z => nomatch z) fun tk => ⟨.bl b, H, I.tok tk, rfl, q⟩
end
end Pu
namespace Pu
open PySem PySem.Spec PyProof.Rows L2
variable [Tbs]
section
variable {C : Cx} {z : Zn} {X : AP} {H0 H H' : Hp} {σ : Sl} {env : List SV}
theorem ra_nil {l : Bool} : RA l tNil aNil := fun z X H0 H σ env Q k o c hp => c [] [] H (Evo.refl _ _) .nil hp
theorem ra_v (i : Nat) {u : TA} {g : PAs} (hr : RA true u g) : RA true (tCons (tVar i) u) (aCons (eV i) g) := fun z X H0 H σ env Q k o c hp => by
  refine re_v i z X H0 H σ env _ _ o (fun d v H1 e1 r1 hx => ?_) hp
  refine hr z X H0 H1 σ env _ _ (o.go e1) (fun ds vs H2 e2 r2 hy => c (d :: ds) (v :: vs) H2 (e1.trans e2) (.cons ?_ r2) hy) hx
  exact Is.evo (fun _ q => .inl q) e2 r1
/-- a slot of nothing is stored to -/
theorem Ok.setNo (k : Ok z X H0 H σ env) {i : Nat} (u : Option V) (he : env[i]? = some .no) : Ok z X H0 H (σ.set i u) env ∧ Fr z X (Ms z X σ env) H (Ms z X (σ.set i u) env) H := by
  have ne : ∀ (j : Nat) (s : SV), env[j]? = some s → s ≠ .no → (σ.set i u)[j]? = σ[j]? := fun j s h q => by
    by_cases e : i = j
    · subst e; rw [he] at h; cases h; exact absurd rfl q
    · exact List.getElem?_set_ne e
  have sub : ∀ a, Ms z X (σ.set i u) env a → Ms z X σ env a := by
    rintro a (h | h | ⟨j, d, h1, h2⟩)
    · exact .inl h
    · exact .inr (.inl h)
    · rw [ne j _ h1 (fun q => nomatch q)] at h2
      exact .inr (.inr ⟨j, d, h1, h2⟩)
  refine ⟨⟨by simp [k.len], k.evo, k.zal, k.xal, fun j d h => ?_, fun j d h => ?_, fun j l a d e h1 h2 h3 h4 => ?_, k.tab⟩, ⟨fun a o q n => ⟨q, fun x => n (sub a x)⟩, fun _ h => h, fun _ h => h⟩⟩
  · obtain ⟨v, h1, h2⟩ := k.val j d h
    exact ⟨v, by rw [ne j _ h (fun q => nomatch q)]; exact h1, h2.weak sub⟩
  · obtain ⟨a, h1, h2, h3, h4⟩ := k.own j d h
    exact ⟨a, by rw [ne j _ h (fun q => nomatch q)]; exact h1, h2.gen (fun _ q => q) (fun b o q n => ⟨q, fun x => n (sub b x)⟩) fun _ h => h, h3, h4⟩
  · rw [ne j _ h1 (fun q => nomatch q)] at h3
    rw [ne l _ h2 (fun q => nomatch q)] at h4
    exact k.inj j l a d e h1 h2 h3 h4
/-- a try whose body raises, its suite stores a truth in the slot j -/
def sTry (i j : Nat) (px : XS) (b : Bool) : PSt := fun env k => (env[i]? = some .no ∧ i ≠ j ∧ j < env.length) ∧ px env ∧ k.nx (env.set j (.val (.bl b)))
theorem pss_of {st : List Stmt} {p : Prop} {t : TS} (h : p → PSs C st t) : PSs C st (fun D σ H => p ∧ t D σ H) := ⟨fun pins s σ H D I q => (h q.1).run pins s σ H D I q.2⟩
theorem s_try {fr : Bool} {i j : Nat} {n x : Str} {c cls : Value} {b : Bool} {body suite : List Stmt} {b₀ : Stmt} {np pos pos' : Pos} {tb : WX → TS} {ts : Addr → TS} {px : XS}
    (hs : C.stack = C.env :: C.outer) (hf : C.env.frame = some C.env.locals) (hN : C.N.Nodup) (hi : C.N[i]? = some n) (hln : C.env.kindOf n = some .local) (hc : Names C x c)
    (hb : ∀ (W : WX) (pn : List (Addr × Obj)) (xe : Value → Shared → Prop), Takes (C.tr pn xe) W → PassesOwn (model C.prog C.w) C.A C.env xe → PSs (C.tr pn xe) body (tb W))
    (hbx : ∀ (W : WX) (z : Zn) (X : AP) (H0 H : Hp) (σ : Sl) (env : List SV) (D : Ends), Ok z X H0 H σ env → (∀ H', Evo z H H' → W cls none σ H') → px env → tb W D σ H)
    (hm : PySem.W.exmOne C.K cls c = some true)
    (hsu : ∀ (a : Addr) (oe : Obj) (pn : List (Addr × Obj)), Zc cls none oe → (∃ vs, oe.data = .fields vs) → PSs (C.suite a ((a, oe) :: pn)) (b₀ :: suite) (ts a))
    (hts : ∀ (z : Zn) (a : Addr) (σ : Sl) (H : Hp) (D : Ends), i ≠ j → j < σ.length → σ[i]? = some (some (.ref a)) → (∀ H', Evo z H H' → D.nx (σ.set j (some (.bl b))) H') → ts a D σ H) :
    S fr C (.Try body [.ExceptHandler (some (.Name x np)) (some n) (b₀ :: suite) pos'] [] [] pos) (sTry i j px b) := by
  refine ⟨_, ps_try_as hs hf hN hi hln hc takes0 hb (fun a oe cls' d pn hz hv => pss_of (p := cls' = cls ∧ d = none) (t := ts a) fun e => by obtain ⟨rfl, rfl⟩ := e; exact hsu a oe pn hz hv), fun z X H0 H σ env G k o s hp => ?_⟩
  obtain ⟨⟨he, hij, hjl⟩, hp, hk⟩ := hp
  have hil : i < σ.length := by rw [o.len]; exact (List.getElem?_eq_some_iff.mp he).1
  refine hbx _ z X H0 H σ env G o (fun H1 e1 => ?_) hp
  refine ⟨true, hm, fun _ a ha => ⟨⟨rfl, rfl⟩, ?_⟩, fun q => Bool.noConfusion q⟩
  have hj : j < σ.length := by rw [o.len]; exact hjl
  · refine hts z a _ H1 _ hij (by simpa using hj) (by rw [List.getElem?_set_self hil]) (fun H2 e2 => ?_)
    show G.nx (((σ.set i (some (.ref a))).set j (some (.bl b))).set i none) H2
    rw [List.set_comm _ _ hij, List.set_set]
    have o2 := (o.go e1).go e2
    obtain ⟨o3, f3⟩ := o2.set (i := j) (v := .bl b) (d := .bl b) (.bl b)
    obtain ⟨o4, f4⟩ := o3.setNo (i := i) none (by rw [List.getElem?_set_ne (Ne.symm hij)]; exact he)
    exact s.nx _ _ H2 o4 (((o.fr e1).trans ((o.go e1).fr e2)).trans (f3.trans f4)) hk
/-! ### isinstance(e, ..), e what the clause holds, at a -/
def TB (p : Sl → Prop) (t : TE) (b : Bool) : Prop := ∀ (z : Zn) (σ : Sl) (H : Hp) (Q : VK), p σ → (∀ H', Evo z H H' → Q (.bl b) H') → t σ H Q
theorem TB.and {p : Sl → Prop} {t u : TE} {x y : Bool} (h : TB p t x) (g : TB p u y) : TB p (tAndV t u) (x && y) := fun z σ H Q hp c => by
  refine h z σ H _ hp fun H1 e1 => ⟨x, rfl, ?_⟩
  cases x with
  | true => exact g z σ H1 Q hp fun H2 e2 => c H2 (e1.trans e2)
  | false => exact c H1 e1
theorem TB.not {p : Sl → Prop} {t : TE} {x : Bool} (h : TB p t x) : TB p (tNotV t) (!x) := fun z σ H Q hp c => h z σ H _ hp fun H1 e1 => ⟨x, rfl, c H1 e1⟩
theorem TB.var {j : Nat} {b : Bool} : TB (fun σ => σ[j]? = some (some (.bl b))) (tVar j) b := fun z σ H Q hp c => ⟨_, hp, c H (Evo.refl _ _)⟩
theorem TB.imp {p q : Sl → Prop} {t : TE} {b : Bool} (h : TB p t b) (i : ∀ σ, q σ → p σ) : TB q t b := fun z σ H Q hp c => h z σ H Q (i σ hp) c
theorem TB.fst {p q : Sl → Prop} {t : TE} {b : Bool} (h : TB p t b) : TB (fun σ => p σ ∧ q σ) t b := fun z σ H Q hp c => h z σ H Q hp.1 c
theorem TB.snd {p q : Sl → Prop} {t : TE} {b : Bool} (h : TB q t b) : TB (fun σ => p σ ∧ q σ) t b := fun z σ H Q hp c => h z σ H Q hp.2 c
theorem TB.isE {K : PySem.W.Frag} {D a : Addr} {i : Nat} {c : V} {cv : Value} {b : Bool} (hc : ∀ u, RelV c u → u = cv) (e : PySem.W.kitOne K (.ref D) cv = some b) : TB (fun σ => σ[i]? = some (some (.ref a))) (tCB (rIsE K D a) (tCons (tVar i) (tCons (tC c) tNil))) b :=
  fun z σ H Q hp k => ⟨_, hp, c, cv, b, rfl, hc, e, k H (Evo.refl _ _)⟩
/-- names of own classes -/
def tcs : List Addr → TA
  | [] => tNil
  | A :: r => tCons (tC (.ref A)) (tcs r)
theorem tcs_go : ∀ (l : List Addr) (σ : Sl) (H : Hp) (Q : List V → Hp → Prop), Q (l.map V.ref) H → tcs l σ H Q
  | [], _, _, _, h => h
  | _ :: r, σ, H, Q, h => tcs_go r σ H _ h
theorem paired_cls : ∀ l : List Addr, Paired ClsV (l.map V.ref) (l.map Value.ref)
  | [] => .nil
  | A :: r => .cons (.own A) (paired_cls r)
theorem TB.isET {K : PySem.W.Frag} {D a : Addr} {i : Nat} {l : List Addr} {b : Bool} (hl : l.length ≤ sizeLine) (e : PySem.W.kitAny K (.ref D) (l.map Value.ref) = some b) : TB (fun σ => σ[i]? = some (some (.ref a))) (tCB (rIsET K D a) (tCons (tVar i) (tCons (tTup (tcs l)) tNil))) b :=
  fun z σ H Q hp k => ⟨_, hp, tcs_go l σ H _ ⟨by rw [List.length_map]; exact hl, fun q hq => ⟨q, l.map V.ref, l.map Value.ref, b, rfl, upd_same, paired_cls l, e, k _ ((Evo.refl _ _).new hq)⟩⟩⟩
end
end Pu
namespace Pu
open PySem PySem.Spec PyProof.Rows L2
variable [Tbs]
section
variable {P : Program} {w : World} {K : PySem.W.Frag} {mg : Str → Option Value} {base : Heap}
theorem fn_okXD {x qual : Str} {st : Stmt} {f : Addr} {fd : FuncData} {N ps : List Str} {k : Nat} {cls : Value} {p : XS} (F : FunN K x qual st f fd) (S : FnScope N ps (defScope st))
    (hb : ∀ (cdv : Value) (A : Around) (outer : List Env) (s : Shared) (H : Hp) (E : XK), Room k (A.deeper (envOfC qual (defScope st) s.heap.objs.size f cdv)) → Takes (cxOf (L2.CX P w) P w K mg base N qual (defScope st) f cdv A outer s H E) (fun cls d _ H => E cls d H) →
      BX (fun _ H => E cls none H) (cxOf (L2.CX P w) P w K mg base N qual (defScope st) f cdv A outer s H E) (defBody st) p) :
    FnOk P w K mg base (L2.CX P w) (k + 1) f fd ps (SfX cls ps.length (wpXOf N.length p)) := by
  refine F.ok S (fun vs H Q E h => ?_) (fun cdv A outer s H vs Q E hr h => ?_)
  · obtain ⟨z, X, ds, hl, _⟩ := h
    exact hl
  · obtain ⟨z, X, ds, hl, hz, hx, hA, hw, c⟩ := h
    obtain ⟨t, b1, b2⟩ := hb cdv A outer s H E hr (takes_of rfl rfl rfl rfl)
    exact ⟨t, b1, b2 z X H H (L2.start N vs) _ _ (start_ok hz hx hA) (fun σ' H' ev => c H' ev) hw⟩
end
section
/-- a suite of two stores of truths to one slot -/
theorem hts2 {i j : Nat} {t1 t2 : Addr → TE} {b1 b2 : Bool} (h1 : ∀ a, TB (fun σ => σ[i]? = some (some (.ref a))) (t1 a) b1) (h2 : ∀ a, TB (fun σ => σ[i]? = some (some (.ref a)) ∧ σ[j]? = some (some (.bl b1))) (t2 a) b2) :
    ∀ (z : Zn) (a : Addr) (σ : Sl) (H : Hp) (D : Ends), i ≠ j → j < σ.length → σ[i]? = some (some (.ref a)) → (∀ H', Evo z H H' → D.nx (σ.set j (some (.bl b2))) H') → tSeq (tAsg (t1 a) (gName j)) (tSeq (tAsg (t2 a) (gName j)) tNext) D σ H :=
  fun z a σ H D hij hj hi k => h1 a z σ H _ hi fun H1 e1 => h2 a z (σ.set j (some (.bl b1))) H1 _ ⟨by rw [List.getElem?_set_ne (Ne.symm hij)]; exact hi, by rw [List.getElem?_set_self hj]⟩ fun H2 e2 => by
    have q := k H2 (e1.trans e2)
    show D.nx ((σ.set j (some (.bl b1))).set j (some (.bl b2))) H2
    rw [List.set_set]
    exact q
/-- the body of a try: a call as a statement, its arguments names -/
def tbC (cls : Value) (n : Nat) (wpx : List D → Prop) (ta : TA) : WX → TS := fun W => tDrop (tCallS (SfX cls n wpx) (WE W) ta)
theorem hb_call {C : Cx} {cls : Value} {k n : Nat} {f : Addr} {fd : FuncData} {ps : List Str} {wpx : List D → Prop} {ta : TA} {x : Str} {e : Expr} {es : List Expr} {pp pos pos2 : Pos} (F : FnOk C.prog C.w C.K C.mg C.base (L2.CX C.prog C.w) k f fd ps (SfX cls n wpx)) (hr : Room k C.A) (hg : Gl C x) (hm : C.mg x = some (.ref f)) (hk : PySem.W.keepIn C.K (.ref f) = true) (hb : Binds C.K fd ps [])
    (ha : ∀ (pn : List (Addr × Obj)) (xe : Value → Shared → Prop), PA (C.tr pn xe) (e :: es) ta) (hdb : (x == ("__debug__" : Str)) = false := by decide) (he : starEach (e :: es) C.env = (false, eval e C.env) :: starEach es C.env := by rfl) (hpl : (backTo pos (starEach es C.env)).any (·.1) = false := by rfl)
    (hs : swapsWith (.Call (.Name x pp) (e :: es) [] pos) none pos2.line C.env = pure false := by rfl) :
    ∀ (W : WX) (pn : List (Addr × Obj)) (xe : Value → Shared → Prop), Takes (C.tr pn xe) W → PassesOwn (model C.prog C.w) C.A C.env xe → PSs (C.tr pn xe) [.Expr (.Call (.Name x pp) (e :: es) [] pos) pos2] (tbC cls n wpx ta W) :=
  fun W pn xe tk _ => pss_one (ps_expr (pe_callS (X := C.tr pn xe) F hr hg hm hk hb (fun σ => passAt tk σ) (ha pn xe) hdb he hpl) hs)
theorem hbx_call {cls : Value} {n : Nat} {wpx : List D → Prop} {ta : TA} {ga : PAs} (h : RA true ta ga) : ∀ (W : WX) (z : Zn) (X : AP) (H0 H : Hp) (σ : Sl) (env : List SV) (D : Ends), Ok z X H0 H σ env → (∀ H', Evo z H H' → W cls none σ H') → xCall (fun ds => ds.length = n ∧ wpx ds) ga env → tbC cls n wpx ta W D σ H :=
  fun W z X H0 H σ env D o w hp => rxe_call (W0 := W) h z X H0 H σ env _ o w hp
end
end Pu

namespace Pu
open PySem PySem.Spec PyProof.Rows L2
variable [Tbs]
/-! ### draws that are counted: a reading's cost n says how many draws it makes at most; the zone says how many there were -/
def lim : Nat := 4611686018427387904
def Zn.at (z : Zn) (c : Nat) : Zn := { z with ct := c }
/-- the deck stands, with its count -/
def Zn.live (z : Zn) (H : Hp) : Prop := z.ok H z.dk
structure EvoC (z : Zn) (c : Nat) (H H' : Hp) : Prop where
  old : ∀ a o, H a = some o → ¬ z.Z a → H' a = some o
  al : ∀ a, H a ≠ none → H' a ≠ none
  tab : Tabs H → Tabs H'
  live : (z.at c).live H'
section
variable {z : Zn} {c c' : Nat} {X : AP} {H0 H H1 H2 H' : Hp} {σ σ' : Sl} {env env' : List SV} {M M' : AP} {m : Mode} {v : V} {d : D}
theorem Evo.toC (e : Evo z H H') (l : z.live H) : EvoC z z.ct H H' := ⟨e.old, e.al, e.tab, e.dk _ l⟩
theorem EvoC.trans (a : EvoC z c H H1) (b : EvoC (z.at c) c' H1 H2) : EvoC z c' H H2 := ⟨fun x o h n => b.old x o (a.old x o h n) n, fun x h => b.al x (a.al x h), fun h => b.tab (a.tab h), b.live⟩
theorem EvoC.evo (a : EvoC z c H H') : Evo (z.at c) H H' := ⟨a.old, a.al, fun b h => by obtain rfl : b = (z.at c).dk := h.1; exact a.live, a.tab⟩
theorem EvoC.ok (a : EvoC z c H H') : ∀ b, z.ok H b → (z.at c).ok H' b := fun b h => by obtain rfl : b = (z.at c).dk := h.1; exact a.live
theorem EvoC.fresh (a : EvoC z c H H1) {p : Addr} (h : H1 p = none) : H p = none := a.evo.fresh h
mutual
theorem Is.at (h1 : ∀ a o, H a = some o → ¬ M a → H' a = some o ∧ ¬ M' a) (h2 : ∀ a, z.ok H a → (z.at c).ok H' a) : ∀ {v : V} {d : D}, Is z M H v d → Is (z.at c) M' H' v d
  | _, _, .non => .non
  | _, _, .bl b => .bl b
  | _, _, .int i => .int i
  | _, _, .str s => .str s
  | _, _, .ty n => .ty n
  | _, _, .tup e n r => .tup (h1 _ _ e n).1 (h1 _ _ e n).2 (IsA.at h1 h2 r)
  | _, _, .lst e n r => .lst (h1 _ _ e n).1 (h1 _ _ e n).2 (IsA.at h1 h2 r)
  | _, _, .dic e n r => .dic (h1 _ _ e n).1 (h1 _ _ e n).2 (IsK.at h1 h2 r)
  | _, _, .deck e => .deck (z := z.at c) (h2 _ e)
  | _, _, .dpr e n => .dpr (h1 _ _ e n).1 (h1 _ _ e n).2
  | _, _, .dfz e n => .dfz (h1 _ _ e n).1 (h1 _ _ e n).2
  | _, _, .st e l n => .st (h1 _ _ e n).1 l (h1 _ _ e n).2
  | _, _, .bor e n r => .bor (h1 _ _ e n).1 (h1 _ _ e n).2 (IsA.at h1 h2 r)
  | _, _, .opq v => .opq v
theorem IsA.at (h1 : ∀ a o, H a = some o → ¬ M a → H' a = some o ∧ ¬ M' a) (h2 : ∀ a, z.ok H a → (z.at c).ok H' a) : ∀ {v : List V} {d : List D}, IsA z M H v d → IsA (z.at c) M' H' v d
  | _, _, .nil => .nil
  | _, _, .cons h t => .cons (Is.at h1 h2 h) (IsA.at h1 h2 t)
theorem IsK.at (h1 : ∀ a o, H a = some o → ¬ M a → H' a = some o ∧ ¬ M' a) (h2 : ∀ a, z.ok H a → (z.at c).ok H' a) : ∀ {v : List (Key × V)} {d : List (Key × D)}, IsK z M H v d → IsK (z.at c) M' H' v d
  | _, _, .nil => .nil
  | _, _, .cons h t => .cons (Is.at h1 h2 h) (IsK.at h1 h2 t)
end
theorem Con.at {a : Addr} (ha : ∀ o, H a = Option.some o → H' a = Option.some o) (h1 : ∀ a o, H a = Option.some o → ¬ M a → H' a = Option.some o ∧ ¬ M' a) (h2 : ∀ a, z.ok H a → (z.at c).ok H' a) (h : Con z M H a d) : Con (z.at c) M' H' a d := by
  cases d with
  | tup ds => obtain ⟨vs, e, r⟩ := h; exact ⟨vs, ha _ e, r.at h1 h2⟩
  | lst ds => obtain ⟨vs, e, r⟩ := h; exact ⟨vs, ha _ e, r.at h1 h2⟩
  | dic ds => obtain ⟨vs, e, r⟩ := h; exact ⟨vs, ha _ e, r.at h1 h2⟩
  | dpr ds => exact ha _ h
  | st ns => obtain ⟨n, e, l⟩ := h; exact ⟨n, ha _ e, l⟩
  | bor ds => obtain ⟨w, vs, e, r⟩ := h; exact ⟨w, vs, ha _ e, r.at h1 h2⟩
  | _ => exact h.elim
theorem Is.goC (hM : ∀ a, z.Z a → M a) (e : EvoC z c H H') (h : Is z M H v d) : Is (z.at c) M H' v d := h.at (fun a o q n => ⟨e.old a o q fun x => n (hM a x), n⟩) e.ok
theorem IsA.goC {vs : List V} {ds : List D} (hM : ∀ a, z.Z a → M a) (e : EvoC z c H H') (h : IsA z M H vs ds) : IsA (z.at c) M H' vs ds := h.at (fun a o q n => ⟨e.old a o q fun x => n (hM a x), n⟩) e.ok
theorem Ok.goC (k : Ok z X H0 H σ env) (e : EvoC z c H H') : Ok (z.at c) X H0 H' σ env :=
  ⟨k.len, ⟨fun a o h n => e.old a o (k.evo.old a o h n) n, fun a h => e.al a (k.evo.al a h), fun b h => by obtain rfl : b = (z.at c).dk := h.1; exact e.live, fun h => e.tab (k.evo.tab h)⟩, fun a h => e.al a (k.zal a h), fun a h => ⟨e.al a (k.xal a h).1, (k.xal a h).2⟩,
   fun i d h => let ⟨v, h1, h2⟩ := k.val i d h; ⟨v, h1, h2.goC (fun _ h => .inl h) e⟩,
   fun i d h => let ⟨a, h1, h2, h3, h4⟩ := k.own i d h; ⟨a, h1, h2.at (fun o q => e.old a o q h3) (fun b o q n => ⟨e.old b o q fun x => n (.inl x), n⟩) e.ok, h3, h4⟩, k.inj, e.tab k.tab⟩
theorem Rel.goC (k : ∀ a, z.Z a → H a ≠ none) (e : EvoC z c H1 H') (h : Rel m z X H H1 σ env v d) : Rel m (z.at c) X H H' σ env v d := by
  cases m with
  | f =>
    obtain ⟨a, rfl, hn, hc⟩ := h
    exact ⟨a, rfl, hn, hc.at (fun o q => e.old a o q fun x => k a x hn) (fun b o q n => ⟨e.old b o q fun x => n (.inl x), n⟩) e.ok⟩
  | e => exact Is.goC (fun _ q => .inl q) e h
  | c =>
    rcases h with h | ⟨a, rfl, hc, n, md⟩
    · exact .inl (Is.goC (fun _ q => .inl q) e h)
    · exact .inr ⟨a, rfl, hc.at (fun o q => e.old a o q fun x => n (.inl x)) (fun b o q n => ⟨e.old b o q fun x => n (.inl x), n⟩) e.ok, n, md⟩
  | b => exact Is.goC (fun _ q => .inl q) e h
end
/-! ### expressions -/
def REc (n : Nat) (m : Mode) (t : TE) (p : PX) : Prop := ∀ (z : Zn) (X : AP) (H0 H : Hp) (σ : Sl) (env : List SV) (Q : VK) (k : D → Prop), Ok z X H0 H σ env → z.live H → z.ct + n ≤ lim →
  (∀ c d v H', c ≤ z.ct + n → EvoC z c H H' → Rel m (z.at c) X H H' σ env v d → k d → Q v H') → p env k → t σ H Q
def RTc (n : Nat) (t : TT) (p : PTs') : Prop := ∀ (z : Zn) (X : AP) (H0 H : Hp) (σ : Sl) (env : List SV) (Q : Bool → Hp → Prop) (k : Bool → Prop), Ok z X H0 H σ env → z.live H → z.ct + n ≤ lim →
  (∀ c b H', c ≤ z.ct + n → EvoC z c H H' → k b → Q b H') → p env k → t σ H Q
def RAc (n : Nat) (l : Bool) (t : TA) (p : PAs) : Prop := ∀ (z : Zn) (X : AP) (H0 H : Hp) (σ : Sl) (env : List SV) (Q : List V → Hp → Prop) (k : List D → Prop), Ok z X H0 H σ env → z.live H → z.ct + n ≤ lim →
  (∀ c ds vs H', c ≤ z.ct + n → EvoC z c H H' → IsA (z.at c) (if l = true then Ms z X σ env else Zx z X) H' vs ds → k ds → Q vs H') → p env k → t σ H Q
structure Ec (n : Nat) (m : Mode) (C : Cx) (e : Expr) (p : PX) : Prop where
  ex : ∃ t, PE C e t ∧ REc n m t p
structure Tc (n : Nat) (C : Cx) (e : Expr) (p : PTs') : Prop where
  ex : ∃ t, PT C e t ∧ RTc n t p
structure Wc (n : Nat) (C : Cx) (e : Expr) (p : PTs') : Prop where
  ex : ∃ t, PW C e t ∧ RTc n t p
structure Ac (n : Nat) (l : Bool) (C : Cx) (es : List Expr) (p : PAs) : Prop where
  ex : ∃ t, PA C es t ∧ RAc n l t p
section
variable {C : Cx} {e a b : Expr} {es : List Expr} {p q : PX} {g : PAs} {m m' : Mode} {pos pp : Pos} {n na nb : Nat} {x : Str}
theorem RE.toC {t : TE} (h : RE m t p) : REc 0 m t p := fun z X H0 H σ env Q k o l _ c hp => h z X H0 H σ env Q k o (fun d v H' ev r kd => c z.ct d v H' (Nat.le_refl _) (ev.toC l) r kd) hp
theorem RT.toC {t : TT} {p : PTs'} (h : RT t p) : RTc 0 t p := fun z X H0 H σ env Q k o l _ c hp => h z X H0 H σ env Q k o (fun b H' ev kd => c z.ct b H' (Nat.le_refl _) (ev.toC l) kd) hp
theorem RA.toC {l : Bool} {t : TA} {p : PAs} (h : RA l t p) : RAc 0 l t p := fun z X H0 H σ env Q k o lv _ c hp => h z X H0 H σ env Q k o (fun ds vs H' ev r kd => c z.ct ds vs H' (Nat.le_refl _) (ev.toC lv) r kd) hp
theorem E.cd (h : E m C e p) : Ec 0 m C e p := let ⟨t, h1, h2⟩ := h; ⟨t, h1, h2.toC⟩
theorem T.cd {p : PTs'} (h : T C e p) : Tc 0 C e p := let ⟨t, h1, h2⟩ := h; ⟨t, h1, h2.toC⟩
theorem Rel.toBC {z : Zn} {c : Nat} {X : AP} {H0 H H' : Hp} {σ : Sl} {env : List SV} {v : V} {d : D} (k : Ok z X H0 H σ env) (h : Rel m (z.at c) X H H' σ env v d) : Rel .b (z.at c) X H H' σ env v d := by
  cases m with
  | f =>
    obtain ⟨a, rfl, hn, hc⟩ := h
    exact Rel.eb ((hc.gen (fun _ q => q) (fun b o q n => ⟨q, fun x => n x.orL⟩) fun _ h => h).is (k.notMs hn))
  | e => exact h.eb
  | c => exact h.cb
  | b => exact h
theorem Ec.toB (h : Ec n m C e p) : Ec n .b C e p := by
  obtain ⟨t, h1, h2⟩ := h
  exact ⟨t, h1, fun z X H0 H σ env Q k o l w c hp => h2 z X H0 H σ env Q k o l w (fun c' d v H' hc ev r kd => c c' d v H' hc ev (r.toBC o) kd) hp⟩
theorem Rel.feC {z : Zn} {c : Nat} {X : AP} {H0 H H' : Hp} {σ : Sl} {env : List SV} {v : V} {d : D} (k : Ok z X H0 H σ env) (h : Rel .f (z.at c) X H H' σ env v d) : Rel .e (z.at c) X H H' σ env v d := by
  obtain ⟨a, rfl, hn, hc⟩ := h
  exact (hc.gen (fun _ q => q) (fun b o q n => ⟨q, fun x => n x.orL⟩) fun _ h => h).is (k.notMs hn)
theorem Ec.fe (h : Ec n .f C e p) : Ec n .e C e p := by
  obtain ⟨t, h1, h2⟩ := h
  exact ⟨t, h1, fun z X H0 H σ env Q k o l w c hp => h2 z X H0 H σ env Q k o l w (fun c' d v H' hc ev r kd => c c' d v H' hc ev (r.feC o) kd) hp⟩
theorem Ec.ec (h : Ec n .e C e p) : Ec n .c C e p := by
  obtain ⟨t, h1, h2⟩ := h
  exact ⟨t, h1, fun z X H0 H σ env Q k o l w c hp => h2 z X H0 H σ env Q k o l w (fun c' d v H' hc ev r kd => c c' d v H' hc ev r.ec kd) hp⟩
theorem Rel.earlyC {z z' : Zn} {X : AP} {H H1 H' : Hp} {σ : Sl} {env : List SV} {v : V} {d : D} (e : ∀ p, H1 p = none → H p = none) (h : Rel m z X H1 H' σ env v d) : Rel m z X H H' σ env v d := by
  cases m with
  | f => obtain ⟨a, rfl, hn, hc⟩ := h; exact ⟨a, rfl, e _ hn, hc⟩
  | e => exact h
  | c => exact h
  | b => exact h
theorem REc.op {mi mo : Mode} {r : R2} {g : D → D → (D → Prop) → Prop} {ta tb : TE} (hm : mi ≠ .f) (ho : OpD mi mo r g) (ha : REc na mi ta p) (hb : REc nb mi tb q) : REc (na + nb) mo (tOp r ta tb) (eOp g p q) := fun z X H0 H σ env Q k o l w c hp => by
  refine ha z X H0 H σ env _ _ o l (by omega) (fun c1 x v H1 hc1 e1 r1 hp1 => ?_) hp
  have o1 := o.goC e1
  have w1 : (z.at c1).ct = c1 := rfl
  refine hb (z.at c1) X H0 H1 σ env _ _ o1 e1.live (by omega) (fun c2 y u H2 hc2 e2 r2 hp2 => ?_) hp1
  have o2 := o1.goC e2
  refine ho (z.at c2) X H0 H2 σ env v u x y Q k o2 ((Rel.goC (z := z.at c1) o.zal e2 r1).later hm) (r2.later hm) (fun d w' H3 e3 r3 kd => ?_) hp2
  have e13 := (e1.trans e2).trans (e3.toC (z := z.at c2) e2.live)
  exact c c2 d w' H3 (by omega) e13 (r3.earlyC (z' := z) fun p hn => e1.fresh (e2.fresh hn)) kd
theorem ec_op {mi mo : Mode} {op : Operator} {r : R2} {g : D → D → (D → Prop) → Prop} (hr : OpR C (binaryOp op) r) (ho : OpD mi mo r g) (ha : Ec na mi C a p) (hb : Ec nb mi C b q) (hm : mi ≠ .f := by decide) : Ec (na + nb) mo C (.BinOp a op b pos) (eOp g p q) := by
  obtain ⟨ta, a1, a2⟩ := ha
  obtain ⟨tb, b1, b2⟩ := hb
  exact ⟨_, pe_op hr a1 b1, REc.op hm ho a2 b2⟩
theorem ec_cmp {mi mo : Mode} {op : CmpOp} {r : R2} {g : D → D → (D → Prop) → Prop} (hr : OpR C (compareOp op) r) (ho : OpD mi mo r g) (ha : Ec na mi C a p) (hb : Ec nb mi C b q) (hk : behindInMarks op b = false) (hm : mi ≠ .f := by decide) : Ec (na + nb) mo C (.Compare a [op] [b] pos) (eOp g p q) := by
  obtain ⟨ta, a1, a2⟩ := ha
  obtain ⟨tb, b1, b2⟩ := hb
  exact ⟨_, pe_cmpR hr a1 b1 hk, REc.op hm ho a2 b2⟩
end
end Pu

namespace Pu
open PySem PySem.Spec PyProof.Rows L2
variable [Tbs]
section
variable {C : Cx} {e a b : Expr} {es : List Expr} {p q pe : PX} {g : PAs} {m mo : Mode} {pos pp : Pos} {n na nb cost k : Nat} {x : Str} {l : Bool}
theorem Ms.eqZ {z : Zn} {c : Nat} {X : AP} {σ : Sl} {env : List SV} : Ms (z.at c) X σ env = Ms z X σ env := rfl
/-! ### arguments, displays -/
theorem ac_of (h : A l C es g) : Ac 0 l C es g := let ⟨t, h1, h2⟩ := h; ⟨t, h1, h2.toC⟩
theorem ac_nil : Ac 0 l C [] aNil := ac_of a_nil
theorem ac_cons (h : Ec na (lm l) C e p) (hr : Ac nb l C es g) (hs : starEach (e :: es) C.env = (false, eval e C.env) :: starEach es C.env := by rfl) : Ac (na + nb) l C (e :: es) (aCons p g) := by
  obtain ⟨t, h1, h2⟩ := h
  obtain ⟨u, g1, g2⟩ := hr
  refine ⟨_, pa_cons h1 g1 hs, fun z X H0 H σ env Q k o lv w c hp => h2 z X H0 H σ env _ _ o lv (by omega) (fun c1 d v H1 hc1 e1 r1 hx => ?_) hp⟩
  have w1 : (z.at c1).ct = c1 := rfl
  refine g2 (z.at c1) X H0 H1 σ env _ _ (o.goC e1) e1.live (by omega) (fun c2 ds vs H2 hc2 e2 r2 hy => c c2 (d :: ds) (v :: vs) H2 (by omega) (e1.trans e2) (.cons ?_ r2) hy) hx
  cases l with
  | true => exact Is.goC (z := z.at c1) (c := c2) (fun _ q => .inl q) e2 r1
  | false => exact Is.goC (z := z.at c1) (c := c2) (fun _ q => .inl q) e2 r1
theorem ec_tup {x1} (h : Ac n true C es g) : Ec n .e C (.Tuple es x1 pos) (eTup g) := by
  obtain ⟨t, h1, h2⟩ := h
  refine ⟨_, pe_tup h1, fun z X H0 H σ env Q k o lv w c hp => h2 z X H0 H σ env _ _ o lv w (fun c1 ds vs H1 hc1 e1 r1 hx => ⟨by rw [r1.length]; exact sz hx.1, fun q hq => ?_⟩) hp⟩
  have e2 := e1.trans (c' := c1) (((Evo.refl (z.at c1) H1).new (o := .tup vs) hq).toC e1.live)
  exact c c1 _ _ _ hc1 e2 (Rel.feC o (Rel.newT (e1.fresh hq) hq r1)) hx.2
theorem ec_lst (h : Ac n true C es g) : Ec n .f C (.List es pos) (eLst g) := by
  obtain ⟨t, h1, h2⟩ := h
  refine ⟨_, pe_lst h1, fun z X H0 H σ env Q k o lv w c hp => h2 z X H0 H σ env _ _ o lv w (fun c1 ds vs H1 hc1 e1 r1 hx => ⟨by rw [r1.length]; exact sz hx.1, fun q hq => ?_⟩) hp⟩
  have e2 := e1.trans (c' := c1) (((Evo.refl (z.at c1) H1).new (o := .lst vs) hq).toC e1.live)
  exact c c1 _ _ _ hc1 e2 (Rel.newL (e1.fresh hq) hq r1) hx.2
theorem ec_ix (ha : Ec na .c C a p) (hb : Ec nb .c C b q) (hs : PlainIx b := by exact fun _ _ => rfl) : Ec (na + nb) .e C (.Subscript a b pos) (eOp dIx p q) := by
  obtain ⟨ta, a1, a2⟩ := ha
  obtain ⟨tb, b1, b2⟩ := hb
  exact ⟨_, pe_ix (r := rIx C.K) ix_seq a1 b1 hs, REc.op (by decide) opd_ix a2 b2⟩
/-! ### calls -/
/-- a plain def or a drawing one: its promise, with its cost -/
def Sfc (fr : Bool) (n cost : Nat) (wp : List D → (D → Prop) → Prop) : Sp := fun vs H Q _ => ∃ (z : Zn) (X : AP) (ds : List D) (k : D → Prop), vs.length = n ∧ ((∀ a, z.Z a → H a ≠ none) ∧ Tabs H) ∧ (∀ a, X a → H a ≠ none ∧ ¬ z.Z a) ∧ IsA z (Zx z X) H vs ds ∧ (z.live H ∧ z.ct + cost ≤ lim) ∧ wp ds k ∧
  ∀ c d v H', c ≤ z.ct + cost → EvoC z c H H' → Is (z.at c) (Zx z X) H' v d → (fr = true → ∃ a, v = .ref a ∧ H a = none ∧ Con (z.at c) (Zx z (X.or a)) H' a d) → k d → Q v H'
theorem rec_call {fr : Bool} {wp : List D → (D → Prop) → Prop} {t : TA} {ga : PAs} (h : RAc na true t ga) (E' : XK) (hm : mo = .e ∨ (mo = .f ∧ fr = true)) : REc (na + cost) mo (tCall (Sfc fr n cost wp) [] E' t) (eCall (fun ds k => ds.length = n ∧ wp ds k) ga) := fun z X H0 H σ env Q k o lv w c hp => by
  refine h z X H0 H σ env _ _ o lv (by omega) (fun c1 ds vs H1 hc1 e1 r1 hx => ?_) hp
  have o1 := o.goC e1
  have w1 : (z.at c1).ct = c1 := rfl
  rw [if_pos rfl] at r1
  refine ⟨z.at c1, Ox X σ env, ds, k, by rw [List.append_nil, r1.length]; exact hx.1, ⟨o1.zal, o1.tab⟩, fun a => o1.ox, by rw [List.append_nil]; exact r1.weak fun a q => (zx_ox (z := z)).mp q, ⟨e1.live, by omega⟩, hx.2, fun c2 d v H2 hc2 e2 r2 fq kd => ?_⟩
  refine c c2 d v H2 (by omega) (e1.trans e2) ?_ kd
  rcases hm with rfl | ⟨rfl, hf⟩
  · exact Is.weak (fun a q => (zx_ox (z := z)).mpr q) r2
  · obtain ⟨a, ev, ha, hc⟩ := fq hf
    refine ⟨a, ev, e1.fresh ha, hc.gen (fun _ q => q) (fun b u q n => ⟨q, fun y => n ?_⟩) fun _ h => h⟩
    rcases y with y | (y | y) | y
    · exact .inl y
    · exact .inr (.inl (.inl y))
    · exact .inr (.inr y)
    · exact .inr (.inl (.inr y))
theorem ec_calld {fr : Bool} {f : Addr} {fd : FuncData} {ps : List Str} {wp : List D → (D → Prop) → Prop} {ga : PAs} (F : FnOk C.prog C.w C.K C.mg C.base CX0 k f fd ps (Sfc fr n cost wp)) (hr : Room k C.A) (hg : Gl C x) (hm : C.mg x = some (.ref f)) (hk : PySem.W.keepIn C.K (.ref f) = true) (hb : Binds C.K fd ps [])
    (ha : Ac na true C (e :: es) ga) (hmo : mo = .e ∨ (mo = .f ∧ fr = true)) (hdb : (x == ("__debug__" : Str)) = false := by decide) (he : starEach (e :: es) C.env = (false, eval e C.env) :: starEach es C.env := by rfl) (hpl : (backTo pos (starEach es C.env)).any (·.1) = false := by rfl) :
    Ec (na + cost) mo C (.Call (.Name x pp) (e :: es) [] pos) (eCall (fun ds k => ds.length = n ∧ wp ds k) ga) := by
  obtain ⟨t, h1, h2⟩ := ha
  exact ⟨_, pe_call F hr hg hm hk hb .nil pass0 h1 hdb he hpl, rec_call h2 E0 hmo⟩
/-- a plain def, its arguments may draw -/
theorem rec_callP {fr : Bool} {wp : List D → (D → Prop) → Prop} {t : TA} {ga : PAs} (h : RAc na true t ga) (E' : XK) (hm : mo = .e ∨ (mo = .f ∧ fr = true)) : REc na mo (tCall (Sf fr n wp) [] E' t) (eCall (fun ds k => ds.length = n ∧ wp ds k) ga) := fun z X H0 H σ env Q k o lv w c hp => by
  refine h z X H0 H σ env _ _ o lv w (fun c1 ds vs H1 hc1 e1 r1 hx => ?_) hp
  have o1 := o.goC e1
  rw [if_pos rfl] at r1
  refine ⟨z.at c1, Ox X σ env, ds, k, by rw [List.append_nil, r1.length]; exact hx.1, ⟨o1.zal, o1.tab⟩, fun a => o1.ox, by rw [List.append_nil]; exact r1.weak fun a q => (zx_ox (z := z)).mp q, hx.2, fun d v H2 e2 r2 fq kd => ?_⟩
  refine c c1 d v H2 hc1 (e1.trans (c' := c1) (e2.toC e1.live)) ?_ kd
  rcases hm with rfl | ⟨rfl, hf⟩
  · exact Is.weak (fun a q => (zx_ox (z := z)).mpr q) r2
  · obtain ⟨a, ev, ha, hc⟩ := fq hf
    refine ⟨a, ev, e1.fresh ha, hc.gen (fun _ q => q) (fun b u q n => ⟨q, fun y => n ?_⟩) fun _ h => h⟩
    rcases y with y | (y | y) | y
    · exact .inl y
    · exact .inr (.inl (.inl y))
    · exact .inr (.inr y)
    · exact .inr (.inl (.inr y))
theorem ec_callP {fr : Bool} {f : Addr} {fd : FuncData} {ps : List Str} {wp : List D → (D → Prop) → Prop} {ga : PAs} (F : FnOk C.prog C.w C.K C.mg C.base CX0 k f fd ps (Sf fr n wp)) (hr : Room k C.A) (hg : Gl C x) (hm : C.mg x = some (.ref f)) (hk : PySem.W.keepIn C.K (.ref f) = true) (hb : Binds C.K fd ps [])
    (ha : Ac na true C (e :: es) ga) (hmo : mo = .e ∨ (mo = .f ∧ fr = true)) (hdb : (x == ("__debug__" : Str)) = false := by decide) (he : starEach (e :: es) C.env = (false, eval e C.env) :: starEach es C.env := by rfl) (hpl : (backTo pos (starEach es C.env)).any (·.1) = false := by rfl) :
    Ec na mo C (.Call (.Name x pp) (e :: es) [] pos) (eCall (fun ds k => ds.length = n ∧ wp ds k) ga) := by
  obtain ⟨t, h1, h2⟩ := ha
  exact ⟨_, pe_call F hr hg hm hk hb .nil pass0 h1 hdb he hpl, rec_callP h2 E0 hmo⟩
/-! ### tests -/
theorem RTc.of {t : TE} (h : REc n .b t p) : RTc n (tTest t) (tOf p) := fun z X H0 H σ env Q k o lv w c hp => by
  refine h z X H0 H σ env _ _ o lv w (fun c1 d v H' hc e r hd => ?_) hp
  cases d with
  | bl b =>
    cases (show Is (z.at c1) _ H' v (.bl b) from r)
    exact ⟨b, rfl, c c1 b H' hc e hd⟩
  | _ => exact (show False from hd).elim
theorem tc_cmp {mi : Mode} {op : CmpOp} {r : R2} {g : D → D → (D → Prop) → Prop} (hr : OpR C (compareOp op) r) (ho : OpD mi .b r g) (ha : Ec na mi C a p) (hb : Ec nb mi C b q) (hk : behindInMarks op b = false) (hm : mi ≠ .f := by decide) : Tc (na + nb) C (.Compare a [op] [b] pos) (tOf (eOp g p q)) := by
  obtain ⟨ta, a1, a2⟩ := ha
  obtain ⟨tb, b1, b2⟩ := hb
  exact ⟨_, pt_cmpR hr a1 b1 hk, RTc.of (REc.op hm ho a2 b2)⟩
variable {rest : List Expr} {tp tq : PTs'}
theorem wc_and1 (h : Tc n C a tp) : Wc n C (.BoolOp .And [a] pos) tp := by
  obtain ⟨t, h1, h2⟩ := h
  exact ⟨t, pw_and1 h1, h2⟩
theorem wc_and (h : Tc na C a tp) (g : Wc nb C (.BoolOp .And (b :: rest) pos) tq) : Wc (na + nb) C (.BoolOp .And (a :: b :: rest) pos) (tAndP tp tq) := by
  obtain ⟨t, h1, h2⟩ := h
  obtain ⟨u, g1, g2⟩ := g
  refine ⟨_, pw_and h1 g1, fun z X H0 H σ env Q k o lv w c hp => h2 z X H0 H σ env _ _ o lv (by omega) (fun c1 x H1 hc1 e1 hx => ?_) hp⟩
  have w1 : (z.at c1).ct = c1 := rfl
  cases x with
  | true => exact g2 (z.at c1) X H0 H1 σ env Q k (o.goC e1) e1.live (by omega) (fun c2 y H2 hc2 e2 hy => c c2 y H2 (by omega) (e1.trans e2) hy) hx
  | false => exact c c1 false H1 (by omega) e1 hx
theorem wc_t (h : Wc n C e tp) : Tc n C e tp := let ⟨t, h1, h2⟩ := h; ⟨t, h1.pt, h2⟩
theorem tc_val (h : Ec n .b C e p) (hh : ∀ t, PE C e t → PT C e (tTest t)) : Tc n C e (tOf p) := by
  obtain ⟨t, h1, h2⟩ := h
  exact ⟨_, hh _ h1, RTc.of h2⟩
end
/-! ### statements -/
structure FrC (z : Zn) (c : Nat) (X : AP) (M : AP) (H : Hp) (M' : AP) (H' : Hp) : Prop where
  old : ∀ a o, H a = some o → ¬ M a → H' a = some o ∧ ¬ M' a
  al : ∀ a, H a ≠ none → H' a ≠ none
  live : (z.at c).live H'
section
variable {z : Zn} {c c' : Nat} {X : AP} {H0 H H' H1 H2 : Hp} {σ σ' : Sl} {env env' : List SV} {M M1 M2 M' : AP} {v : V} {d : D}
theorem FrC.ok (f : FrC z c X M H M' H') : ∀ a, z.ok H a → (z.at c).ok H' a := fun b h => by obtain rfl : b = (z.at c).dk := h.1; exact f.live
theorem FrC.is (f : FrC z c X M H M' H') (h : Is z M H v d) : Is (z.at c) M' H' v d := h.at f.old f.ok
theorem FrC.isA {vs : List V} {ds : List D} (f : FrC z c X M H M' H') (h : IsA z M H vs ds) : IsA (z.at c) M' H' vs ds := h.at f.old f.ok
theorem FrC.trans (a : FrC z c X M H M1 H1) (b : FrC (z.at c) c' X M1 H1 M2 H2) : FrC z c' X M H M2 H2 := ⟨fun x o h n => b.old x o (a.old x o h n).1 (a.old x o h n).2, fun x h => b.al x (a.al x h), b.live⟩
theorem Fr.toC (f : Fr z X M H M' H') (l : z.live H) : FrC z z.ct X M H M' H' := ⟨f.old, f.al, f.dk _ l⟩
theorem Ok.frC (k : Ok z X H0 H σ env) (e : EvoC z c H H') : FrC z c X (Ms z X σ env) H (Ms z X σ env) H' := ⟨fun a o h n => ⟨e.old a o h fun x => n (.inl x), n⟩, e.al, e.live⟩
end
section
variable {z : Zn} {c : Nat} {X : AP} {H0 H H' H1 H2 : Hp} {σ σ' : Sl} {env env' : List SV} {M : AP}
/-- a store of a new thing that the slot owns -/
theorem Ok.takeC (k : Ok z X H0 H σ env) {i : Nat} {a : Addr} {d : D} (hl : i < env.length) (e : EvoC z c H H') (hn : H a = none) (hc : Con (z.at c) (Ms z (X.or a) σ env) H' a d) :
    Ok (z.at c) X H0 H' (σ.set i (some (V.ref a))) (env.set i (.own d)) ∧ FrC z c X (Ms z X σ env) H (Ms z X (σ.set i (some (V.ref a))) (env.set i (.own d))) H' := by
  have hz : ¬ z.Z a := fun q => k.zal a q hn
  have hx : ¬ X a := fun q => (k.xal a q).1 hn
  have ms : ∀ b, Ms z X (σ.set i (some (V.ref a))) (env.set i (.own d)) b → Ms z (X.or a) σ env b := by
    rintro b (h | h | ⟨j, f, h1, h2⟩)
    · exact .inl h
    · exact .inr (.inl (.inl h))
    · by_cases hj : i = j
      · subst hj
        rw [List.getElem?_set_self (by rw [k.len]; exact hl)] at h2
        cases h2
        exact .inr (.inl (.inr rfl))
      · rw [List.getElem?_set_ne hj] at h1 h2
        exact .inr (.inr ⟨j, f, h1, h2⟩)
  have ms2 : ∀ b, Ms z (X.or a) σ env b → Ms z X σ env b ∨ b = a := by
    rintro b (h | (h | h) | h)
    · exact .inl (.inl h)
    · exact .inl (.inr (.inl h))
    · exact .inr h
    · exact .inl (.inr (.inr h))
  have old : ∀ b o, H b = some o → ¬ Ms z X σ env b → H' b = some o ∧ ¬ Ms z X (σ.set i (some (V.ref a))) (env.set i (.own d)) b := fun b o q n =>
    ⟨e.old b o q fun x => n (.inl x), fun x => (ms2 b (ms b x)).elim n fun y => by rw [y, hn] at q; cases q⟩
  refine ⟨⟨by simp [k.len], (k.goC e).evo, fun b h => e.al b (k.zal b h), fun b h => ⟨e.al b (k.xal b h).1, (k.xal b h).2⟩, fun j f h => ?_, fun j f h => ?_, fun j l b f g h1 h2 h3 h4 => ?_, e.tab k.tab⟩, ⟨old, e.al, e.live⟩⟩
  · by_cases hj : i = j
    · subst hj
      rw [List.getElem?_set_self hl] at h
      cases h
    · rw [List.getElem?_set_ne hj] at h ⊢
      obtain ⟨u, h1, h2⟩ := k.val j f h
      exact ⟨u, h1, h2.at old e.ok⟩
  · by_cases hj : i = j
    · subst hj
      rw [List.getElem?_set_self hl] at h
      cases h
      exact ⟨a, by rw [List.getElem?_set_self (by rw [k.len]; exact hl)], hc.gen (fun _ q => q) (fun b o q n => ⟨q, fun x => n (ms b x)⟩) fun _ h => h, hz, hx, k.evo.fresh hn⟩
    · rw [List.getElem?_set_ne hj] at h ⊢
      obtain ⟨b, h1, h2, h3, h4⟩ := k.own j f h
      exact ⟨b, h1, h2.at (fun o q => e.old b o q h3) old e.ok, h3, h4⟩
  · have own' : ∀ (j : Nat) (f : D), (env.set i (.own d))[j]? = some (.own f) → j ≠ i → env[j]? = some (.own f) := fun j f h hj => by rw [List.getElem?_set_ne (Ne.symm hj)] at h; exact h
    have no : ∀ (j : Nat) (f : D), env[j]? = some (.own f) → σ[j]? = some (some (V.ref a)) → False := fun j f h1 h2 => by
      obtain ⟨b, h3, h4, _⟩ := k.own j f h1
      rw [h2] at h3
      cases h3
      obtain ⟨o, h5⟩ := h4.some
      rw [hn] at h5
      cases h5
    by_cases hj : j = i
    · by_cases hl2 : l = i
      · rw [hj, hl2]
      · rw [hj, List.getElem?_set_self (by rw [k.len]; exact hl)] at h3
        cases h3
        rw [List.getElem?_set_ne (Ne.symm hl2)] at h4
        exact (no l g (own' l g h2 hl2) h4).elim
    · by_cases hl2 : l = i
      · rw [hl2, List.getElem?_set_self (by rw [k.len]; exact hl)] at h4
        cases h4
        rw [List.getElem?_set_ne (Ne.symm hj)] at h3
        exact (no j f (own' j f h1 hj) h3).elim
      · rw [List.getElem?_set_ne (Ne.symm hj)] at h3
        rw [List.getElem?_set_ne (Ne.symm hl2)] at h4
        exact k.inj j l b f g (own' j f h1 hj) (own' l g h2 hl2) h3 h4
end
structure SimC (A B : Nat) (fr : Bool) (z : Zn) (X : AP) (H0 : Hp) (M : AP) (H : Hp) (G : Ends) (k : PK') : Prop where
  nx : ∀ c env' σ' H', c ≤ A → Ok (z.at c) X H0 H' σ' env' → FrC z c X M H (Ms z X σ' env') H' → k.nx env' → G.nx σ' H'
  rt : ∀ c d v H', c ≤ B → Evo (z.at c) H0 H' → (z.at c).live H' → Is (z.at c) (Zx z X) H' v d → (fr = true → ∃ a, v = .ref a ∧ H0 a = none ∧ Con (z.at c) (Zx z (X.or a)) H' a d) → k.rt d → G.rt v H'
  bk : ∀ c env' σ' H', c ≤ B → Ok (z.at c) X H0 H' σ' env' → FrC z c X M H (Ms z X σ' env') H' → k.bk env' → G.bk σ' H'
  ct : ∀ c env' σ' H', c ≤ B → Ok (z.at c) X H0 H' σ' env' → FrC z c X M H (Ms z X σ' env') H' → k.ct env' → G.ct σ' H'
theorem SimC.go {A B : Nat} {fr : Bool} {z : Zn} {c : Nat} {X : AP} {H0 : Hp} {M M1 : AP} {H H1 : Hp} {G : Ends} {k : PK'} (s : SimC A B fr z X H0 M H G k) (f : FrC z c X M H M1 H1) : SimC A B fr (z.at c) X H0 M1 H1 G k :=
  ⟨fun c' e σ H' h o g hk => s.nx c' e σ H' h o (f.trans g) hk, s.rt, fun c' e σ H' h o g hk => s.bk c' e σ H' h o (f.trans g) hk, fun c' e σ H' h o g hk => s.ct c' e σ H' h o (f.trans g) hk⟩
theorem SimC.le {A A' B : Nat} {fr : Bool} {z : Zn} {X : AP} {H0 : Hp} {M : AP} {H : Hp} {G : Ends} {k : PK'} (s : SimC A B fr z X H0 M H G k) (h : A' ≤ A) : SimC A' B fr z X H0 M H G k :=
  ⟨fun c e σ H' hc o g hk => s.nx c e σ H' (Nat.le_trans hc h) o g hk, s.rt, s.bk, s.ct⟩
def RSc (n : Nat) (fr : Bool) (t : TS) (p : PSt) : Prop := ∀ (z : Zn) (X : AP) (H0 H : Hp) (σ : Sl) (env : List SV) (G : Ends) (k : PK') (B : Nat), Ok z X H0 H σ env → z.live H → z.ct + n ≤ B → B ≤ lim → SimC (z.ct + n) B fr z X H0 (Ms z X σ env) H G k → p env k → t G σ H
structure Sc (n : Nat) (fr : Bool) (C : Cx) (st : Stmt) (p : PSt) : Prop where
  ex : ∃ t, PS C st t ∧ RSc n fr t p
structure Bc (n : Nat) (fr : Bool) (C : Cx) (st : List Stmt) (p : PSt) : Prop where
  ex : ∃ t, PSs C st t ∧ RSc n fr t p
section
variable {C : Cx} {fr : Bool} {st : Stmt} {rest : List Stmt} {p q : PSt} {e : Expr} {pe : PX} {m : Mode} {pos pp : Pos} {n na nb : Nat} {x : Str}
/-- a plain statement that only goes on -/
theorem S.cd (h : S fr C st p) (hn : ∀ env k, p env k → p env { nx := k.nx, rt := fun _ => False, bk := fun _ => False, ct := fun _ => False, re := fun _ _ => False } := by exact fun _ _ h => h) : Sc 0 fr C st p := by
  obtain ⟨t, h1, h2⟩ := h
  refine ⟨t, h1, fun z X H0 H σ env G k B o lv w wl s hp => h2 z X H0 H σ env G { nx := k.nx, rt := fun _ => False, bk := fun _ => False, ct := fun _ => False, re := fun _ _ => False } o ⟨fun env' σ' H' o' f' hk => s.nx z.ct env' σ' H' (Nat.le_refl _) o' (f'.toC lv) hk, fun _ _ _ _ _ _ h => h.elim, fun _ _ _ _ _ h => h.elim, fun _ _ _ _ _ h => h.elim, fun _ _ _ _ _ _ _ h => h.elim⟩ (hn _ _ hp)⟩
theorem bc_nil : Bc 0 fr C [] sNext := ⟨_, pss_nil, fun z X H0 H σ env G k B o lv w wl s h => s.nx z.ct env σ H (Nat.le_refl _) o (Fr.refl.toC lv) h⟩
theorem bc_cons (h : Sc na fr C st p) (g : Bc nb fr C rest q) : Bc (na + nb) fr C (st :: rest) (sSeq p q) := by
  obtain ⟨t, h1, h2⟩ := h
  obtain ⟨u, g1, g2⟩ := g
  refine ⟨_, pss_cons h1 g1, fun z X H0 H σ env G k B o lv w wl s hp => h2 z X H0 H σ env _ { k with nx := fun env' => q env' k } B o lv (by omega) wl ⟨fun c env' σ' H' hc o' f' hx => ?_, s.rt, s.bk, s.ct⟩ hp⟩
  have w1 : (z.at c).ct = c := rfl
  exact g2 (z.at c) X H0 H' σ' env' G k B o' f'.live (by omega) wl ((s.go f').le (by omega)) hx
theorem bc_one (h : Sc n fr C st p) : Bc n fr C [st] p := let ⟨t, h1, h2⟩ := h; ⟨t, pss_one h1, h2⟩
theorem bc_le (h : Bc na fr C rest p) (hl : na ≤ nb) : Bc nb fr C rest p := by
  obtain ⟨t, h1, h2⟩ := h
  exact ⟨t, h1, fun z X H0 H σ env G k B o lv w wl s hp => h2 z X H0 H σ env G k B o lv (by omega) wl (s.le (by omega)) hp⟩
theorem bc_frz (i : Nat) {sts : List Stmt} (h : Bc n fr C sts p) : Bc n fr C sts (sFrz i p) := by
  obtain ⟨t, h1, h2⟩ := h
  refine ⟨t, h1, fun z X H0 H σ env G k B o lv w wl s hp => ?_⟩
  obtain ⟨o2, f2⟩ := o.frz i
  exact h2 z X H0 H σ _ G k B o2 lv w wl (s.go (c := z.ct) (f2.toC lv)) hp
theorem sc_set {i : Nat} (h : Ec n .e C e pe) (hN : C.N.Nodup) (hi : C.N[i]? = some x) (hx : Loc C.env.scope x) (hs : swapsWith e (some (.Name x pp)) pos.line C.env = pure false := by rfl) (hf : C.fn x = true ∨ C.env.scope.names.lookup x = some .local := by first | exact .inl rfl | exact .inr rfl | assumption) :
    Sc n fr C (.Assign [.Name x pp] e pos) (sSet i pe) := by
  obtain ⟨t, h1, h2⟩ := h
  refine ⟨_, ps_set hN hi hx h1 hs hf, fun z X H0 H σ env G k B o lv w wl s hp => h2 z X H0 H σ env _ _ o lv (by omega) (fun c d v H1 hc e1 r1 hx => ?_) hp⟩
  obtain ⟨o2, f2⟩ := (o.goC e1).set (i := i) (show Is (z.at c) _ H1 v d from r1)
  exact s.nx c _ _ H1 hc o2 ((o.frC e1).trans (f2.toC (z := z.at c) e1.live)) hx
theorem sc_own {i : Nat} (h : Ec n .f C e pe) (hN : C.N.Nodup) (hi : C.N[i]? = some x) (hx : Loc C.env.scope x) (hs : swapsWith e (some (.Name x pp)) pos.line C.env = pure false := by rfl) (hf : C.fn x = true ∨ C.env.scope.names.lookup x = some .local := by first | exact .inl rfl | exact .inr rfl | assumption) :
    Sc n fr C (.Assign [.Name x pp] e pos) (sOwn i pe) := by
  obtain ⟨t, h1, h2⟩ := h
  refine ⟨_, ps_set hN hi hx h1 hs hf, fun z X H0 H σ env G k B o lv w wl s hp => h2 z X H0 H σ env _ _ o lv (by omega) (fun c d v H1 hc e1 r1 hx => ?_) hp⟩
  obtain ⟨a, rfl, ha, hcn⟩ := r1
  obtain ⟨o2, f2⟩ := o.takeC hx.1 e1 ha hcn
  exact s.nx c _ _ H1 hc o2 f2 hx.2
theorem sc_asg {tg : Expr} {js : List Nat} {g : TG} {pg : PGt} (h : Ec n .e C e pe) (hg : G C tg js g pg) (hs : swapsWithSole [tg] e pos.line C.env = pure false := by rfl) (hw : swappedStores [tg] e C.env = pure none := by rfl)
    (h1 : (assignEach [tg] C.env).map (·.2) = [assign tg C.env] := by rfl) : Sc n fr C (.Assign [tg] e pos) (sAsg pe pg) := by
  obtain ⟨t, a1, a2⟩ := h
  refine ⟨_, ps_asg a1 hg.pg hs hw h1, fun z X H0 H σ env G k B o lv w wl s hp => a2 z X H0 H σ env _ _ o lv (by omega) (fun c d v H1 hc e1 r1 hx => ?_) hp⟩
  exact hg.rg (z.at c) X H0 H1 σ env v d _ _ (o.goC e1) r1 (fun env' σ' o' f' _ hy => s.nx c env' σ' H1 hc o' ((o.frC e1).trans (f'.toC (z := z.at c) e1.live)) hy) hx
theorem sc_ret (h : Ec n m C e pe) : Sc n false C (.Return (some e) pos) (sRet pe) := by
  obtain ⟨t, h1, h2⟩ := h.toB
  exact ⟨_, ps_ret h1, fun z X H0 H σ env G k B o lv w wl s hp => h2 z X H0 H σ env _ _ o lv (by omega) (fun c d v H1 hc e1 r1 hx => s.rt c d v H1 (by omega) ((o.goC e1).evo) e1.live r1 (fun q => Bool.noConfusion q) hx) hp⟩
theorem sc_if {c : Expr} {a b : List Stmt} {tc : PTs'} {nc : Nat} (h : Tc nc C c tc) (ha : Bc na fr C a p) (hb : Bc nb fr C b q) : Sc (nc + (na + nb)) fr C (.If c a b pos) (sIf tc p q) := by
  obtain ⟨t, h1, h2⟩ := h
  obtain ⟨ta, a1, a2⟩ := ha
  obtain ⟨tb, b1, b2⟩ := hb
  refine ⟨_, ps_if h1 a1 b1, fun z X H0 H σ env G k B o lv w wl s hp => h2 z X H0 H σ env _ _ o lv (by omega) (fun c1 x H1 hc e1 hx => ?_) hp⟩
  have w1 : (z.at c1).ct = c1 := rfl
  cases x with
  | true => exact a2 (z.at c1) X H0 H1 σ env G k B (o.goC e1) e1.live (by omega) wl ((s.go (o.frC e1)).le (by omega)) hx
  | false => exact b2 (z.at c1) X H0 H1 σ env G k B (o.goC e1) e1.live (by omega) wl ((s.go (o.frC e1)).le (by omega)) hx
end
end Pu

namespace Pu
open PySem PySem.Spec PyProof.Rows L2
variable [Tbs]
section
variable {C : Cx} {fr : Bool} {st : Stmt} {rest : List Stmt} {p q : PSt} {e : Expr} {pe pi : PX} {m : Mode} {pos pp : Pos} {n na nb : Nat} {x : Str}
theorem sc_retO (i : Nat) (hN : C.N[i]? = some x := by rfl) (hv : Vis C.env.scope x := by first | exact Or.inl rfl | exact Or.inr (Or.inl rfl) | exact Or.inr (Or.inr rfl)) (hd : (x == ("__debug__" : Str)) = false := by decide)
    (hcd : (x == ("__classdict__" : Str)) = false := by decide) : Sc 0 fr C (.Return (some (.Name x pp)) pos) (sRetO i) := by
  refine ⟨_, ps_ret (pe_var hN hv hd hcd), fun z X H0 H σ env G k B o lv w wl s hp => ?_⟩
  unfold sRetO at hp
  split at hp
  · rename_i d he
    obtain ⟨a, h1, h2, h3, h4, h5⟩ := o.own i d he
    refine ⟨_, h1, s.rt z.ct d _ H (by omega) o.evo lv ((h2.gen (fun _ q => q) (fun b u q n => ⟨q, fun y => n y.ms⟩) fun _ h => h).is fun q => q.elim h3 h4) (fun _ => ⟨a, rfl, h5, h2.gen (fun _ q => q) (fun b u q n => ⟨q, fun y => n ?_⟩) fun _ h => h⟩) hp⟩
    rcases y with y | y | y
    · exact .inl y
    · exact .inr (.inl y)
    · exact .inr (.inr ⟨i, d, he, by rw [y]; exact h1⟩)
  · exact hp.elim
theorem sc_retF (h : Ec n .f C e pe) : Sc n true C (.Return (some e) pos) (sRet pe) := by
  obtain ⟨t, h1, h2⟩ := h
  refine ⟨_, ps_ret h1, fun z X H0 H σ env G k B o lv w wl s hp => h2 z X H0 H σ env _ _ o lv (by omega) (fun c d v H1 hc e1 r1 hx => s.rt c d v H1 (by omega) (o.goC e1).evo e1.live (r1.feC o).eb (fun _ => ?_) hx) hp⟩
  obtain ⟨a, ev, ha, hcn⟩ := r1
  refine ⟨a, ev, o.evo.fresh ha, hcn.gen (fun _ q => q) (fun b u q n => ⟨q, fun y => n ?_⟩) fun _ h => h⟩
  rcases y with y | y
  · exact .inl y
  · exact .inr (.inl y)
theorem sc_append (i : Nat) {apos cpos : Pos} (h : Ec n .e C e pe) (hN : C.N[i]? = some x := by rfl) (hv : Vis C.env.scope x := by first | exact Or.inl rfl | exact Or.inr (Or.inl rfl) | exact Or.inr (Or.inr rfl)) (hd : (x == ("__debug__" : Str)) = false := by decide)
    (hcd : (x == ("__classdict__" : Str)) = false := by decide)
    (hb : ∀ to te, PE C (.Name x pp) to → PE C e te → PE C (.Call (.Attribute (.Name x pp) "append" apos) [e] [] cpos) (tBM C.K "list" rAppend to (tCons te tNil)))
    (hs : swapsWith (.Call (.Attribute (.Name x pp) "append" apos) [e] [] cpos) none pos.line C.env = pure false := by rfl) :
    Sc n fr C (.Expr (.Call (.Attribute (.Name x pp) "append" apos) [e] [] cpos) pos) (sAppend i pe) := by
  obtain ⟨t, h1, h2⟩ := h
  refine ⟨_, ps_expr (hb _ _ (pe_var hN hv hd hcd) h1) hs, fun z X H0 H σ env G k B o lv w wl s hp => ?_⟩
  unfold sAppend at hp
  split at hp
  · rename_i xs he
    obtain ⟨a, q1, q2, q3, q4⟩ := o.own i _ he
    obtain ⟨vs, q5, q6⟩ := q2
    refine ⟨_, q1, .inl ⟨rfl, vs, SqL.of q5⟩, h2 z X H0 H σ env _ _ o lv (by omega) (fun c d v H1 hc e1 r1 hx => ?_) hp⟩
    have o1 := o.goC e1
    have q5' := e1.old a _ q5 q3
    refine ⟨a, vs, v, rfl, rfl, q5', by rw [q6.length]; exact szl hx.1, ?_⟩
    have ia : Ms z X σ env a := .inr (.inr ⟨i, _, he, q1⟩)
    have old : ∀ b u, H1 b = some u → ¬ Ms z X σ env b → upd H1 a (.lst (vs ++ [v])) b = some u ∧ ¬ Ms z X σ env b := fun b u hb n => ⟨by rw [upd_ne (fun e => n (by rw [e]; exact ia))]; exact hb, n⟩
    obtain ⟨o2, f2⟩ := o1.mut (o := .lst (vs ++ [v])) he q1 (d' := .lst (xs ++ [d])) ⟨vs ++ [v], upd_same, ((IsA.goC (fun _ q => .inl q) e1 q6).append (.cons r1 .nil)).gen old fun b hb => ok_mut (z := z.at c) q3 hb⟩
    exact s.nx c _ _ _ hc o2 ((o.frC e1).trans (f2.toC (z := z.at c) e1.live)) hx.2
  · rename_i xs he
    obtain ⟨a, q1, q2, q3, q4⟩ := o.own i _ he
    obtain ⟨qb, vs, q5, q6⟩ := q2
    refine ⟨_, q1, .inl ⟨rfl, vs, SqL.of q5⟩, h2 z X H0 H σ env _ _ o lv (by omega) (fun c d v H1 hc e1 r1 hx => ?_) hp⟩
    have o1 := o.goC e1
    have q5' := e1.old a _ q5 q3
    refine ⟨a, vs, v, rfl, rfl, q5', by rw [q6.length]; exact szl hx.1, ?_⟩
    have ia : Ms z X σ env a := .inr (.inr ⟨i, _, he, q1⟩)
    have old : ∀ b u, H1 b = some u → ¬ Ms z X σ env b → upd H1 a (.lst (vs ++ [v])) b = some u ∧ ¬ Ms z X σ env b := fun b u hb n => ⟨by rw [upd_ne (fun e => n (by rw [e]; exact ia))]; exact hb, n⟩
    obtain ⟨o2, f2⟩ := o1.mut (o := .lst (vs ++ [v])) he q1 (d' := .bor (xs ++ [d])) ⟨qb, vs ++ [v], upd_same, ((IsA.goC (fun _ q => .inl q) e1 q6).append (.cons r1 .nil)).gen old fun b hb => ok_mut (z := z.at c) q3 hb⟩
    exact s.nx c _ _ _ hc o2 ((o.frC e1).trans (f2.toC (z := z.at c) e1.live)) hx.2
  · exact hp.elim
theorem sc_popAt (j i : Nat) {y : Str} {py apos cpos : Pos} (h : Ec n m C e pe) (hj : C.N[j]? = some y) (hy : Loc C.env.scope y) (hND : C.N.Nodup)
    (hb : ∀ to te, PE C (.Name x pp) to → PE C e te → PE C (.Call (.Attribute (.Name x pp) "pop" apos) [e] [] cpos) (tBM C.K "list" rPopAt to (tCons te tNil)))
    (hN : C.N[i]? = some x := by rfl) (hv : Vis C.env.scope x := by first | exact Or.inl rfl | exact Or.inr (Or.inl rfl) | exact Or.inr (Or.inr rfl)) (hd : (x == ("__debug__" : Str)) = false := by decide)
    (hcd : (x == ("__classdict__" : Str)) = false := by decide)
    (hs : swapsWith (.Call (.Attribute (.Name x pp) "pop" apos) [e] [] cpos) (some (.Name y py)) pos.line C.env = pure false := by rfl) (hf : C.fn y = true ∨ C.env.scope.names.lookup y = some .local := by first | exact .inl rfl | exact .inr rfl | assumption) :
    Sc n fr C (.Assign [.Name y py] (.Call (.Attribute (.Name x pp) "pop" apos) [e] [] cpos) pos) (sPopAt j i pe) := by
  obtain ⟨t, h1, h2⟩ := h.toB
  refine ⟨_, ps_set hND hj hy (hb _ _ (pe_var hN hv hd hcd) h1) hs hf, fun z X H0 H σ env G k B o lv w wl s hp => ?_⟩
  unfold sPopAt at hp
  split at hp
  · rename_i xs he
    obtain ⟨a, q1, ⟨vs, q5, q6⟩, q3, q4⟩ := o.own i _ he
    refine ⟨_, q1, .inl ⟨rfl, vs, SqL.of q5⟩, h2 z X H0 H σ env _ _ o lv (by omega) (fun c d v H1 hc e1 r1 hx => ?_) hp⟩
    cases d with
    | int nn =>
      cases Is.intI r1
      obtain ⟨hn, jj, yy, g1, g2, hk⟩ := hx
      have o1 := o.goC e1
      have q5' := e1.old a _ q5 q3
      have q6' := IsA.goC (fun _ q => .inl q) e1 q6
      obtain ⟨w, w1, w2⟩ := q6'.get g2
      refine ⟨a, vs, nn, jj, w, rfl, rfl, q5', by omega, by omega, by rw [q6.length]; exact g1, w1, ?_⟩
      obtain ⟨o2, f2⟩ := mutL o1 he q1 q3 (q6'.eraseIdx jj)
      obtain ⟨o3, f3⟩ := o2.set (i := j) (f2.is w2)
      exact s.nx c _ _ _ hc o3 ((o.frC e1).trans ((f2.trans f3).toC (z := z.at c) e1.live)) hk
    | _ => exact (show False from hx).elim
  · exact hp.elim
theorem sc_put (i : Nat) {ix : Expr} {spos : Pos} (he : Ec na .e C e pe) (hi : Ec nb m C ix pi) (hN : C.N[i]? = some x := by rfl) (hv : Vis C.env.scope x := by first | exact Or.inl rfl | exact Or.inr (Or.inl rfl) | exact Or.inr (Or.inr rfl)) (hd : (x == ("__debug__" : Str)) = false := by decide)
    (hcd : (x == ("__classdict__" : Str)) = false := by decide)
    (ha : ∀ v, assign (.Subscript (.Name x pp) ix spos) C.env v = (do
      let ov ← holding [v] (eval (.Name x pp) C.env)
      let iv ← holding [v, ov] (eval ix C.env)
      standAt spos
      holding [v, ov, iv] (setItem ov iv v)
      release [v, ov, iv] []) := by intro _; rfl)
    (hs : swapsWithSole [.Subscript (.Name x pp) ix spos] e pos.line C.env = pure false := by rfl) (hw : swappedStores [.Subscript (.Name x pp) ix spos] e C.env = pure none := by rfl)
    (h1 : (assignEach [.Subscript (.Name x pp) ix spos] C.env).map (·.2) = [assign (.Subscript (.Name x pp) ix spos) C.env] := by rfl) : Sc (na + nb) fr C (.Assign [.Subscript (.Name x pp) ix spos] e pos) (sPut i pi pe) := by
  obtain ⟨t, a1, a2⟩ := he
  obtain ⟨t2, b1, b2⟩ := hi.toB
  refine ⟨_, ps_asg a1 (pg_sub (pe_var hN hv hd hcd) b1 set_list ha) hs hw h1, fun z X H0 H σ env G k B o lv w wl s hp => a2 z X H0 H σ env _ _ o lv (by omega) (fun c y v H1 hc e1 r1 hx => ?_) hp⟩
  have w1 : (z.at c).ct = c := rfl
  split at hx
  · rename_i xs he
    have o1 := o.goC e1
    obtain ⟨a, q1, ⟨vs, q5, q6⟩, q3, q4⟩ := o1.own i _ he
    refine ⟨_, q1, b2 (z.at c) X H0 H1 σ env _ _ o1 e1.live (by omega) (fun c2 d u H2 hc2 e2 r2 hx => ?_) hx⟩
    cases d with
    | int nn =>
      cases Is.intI r2
      obtain ⟨jj, g1, hk⟩ := hx
      have o2 := o1.goC e2
      have q5' := e2.old a _ q5 q3
      have q6' := IsA.goC (z := z.at c) (fun _ q => .inl q) e2 q6
      refine ⟨a, vs, nn, jj, rfl, rfl, q5', by rw [q6.length]; exact g1, ?_⟩
      obtain ⟨o3, f3⟩ := mutL o2 he q1 q3 (IsA.set (Is.goC (z := z.at c) (fun _ q => .inl q) e2 r1) jj q6')
      exact s.nx c2 _ _ _ (by omega) o3 ((o.frC (e1.trans e2)).trans (f3.toC (z := z.at c2) e2.live)) hk
    | _ => exact (show False from hx).elim
  · exact hx.elim
end
/-! ### loops -/
def YieldsC (z : Zn) (X : AP) (M : AP) (H : Hp) (J : It) (ds : List D) : Prop := ∀ c M' H', FrC z c X M H M' H' → J.stop ds.length H' ∧
  ∀ i d, ds[i]? = some d → J.go i H' ∧ ∀ x H2, J.yld i H' x H2 → Evo (z.at c) H' H2 ∧ ((∀ a, z.Z a → M' a) → (∀ b, H' b = none → ¬ M' b) → Is (z.at c) M' H2 x d)
def RIc (n : Nat) (wi : TI) (p : PIt) : Prop := ∀ (z : Zn) (X : AP) (H0 H : Hp) (σ : Sl) (env : List SV) (R : It → Hp → Prop) (k : List D → Prop), Ok z X H0 H σ env → z.live H → z.ct + n ≤ lim →
  (∀ c ds J H', c ≤ z.ct + n → EvoC z c H H' → YieldsC (z.at c) X (Ms z X σ env) H' J ds → k ds → R J H') → p env k → wi σ H R
structure Ic (n : Nat) (C : Cx) (tg it : Expr) (p : PIt) : Prop where
  ex : ∃ wi, PI C tg it wi ∧ RIc n wi p
/-- a loop with draws in its body: it has at most 100000 turns -/
def sForC (it : PIt) (g : PGt) (body : PSt) : PSt := fun env k => it env fun ds => ds.length ≤ 100000 ∧ forP g body ds env k
theorem rsc_for {fr : Bool} {wi : TI} {pi : PIt} {js : List Nat} {g : TG} {pg : PGt} {tb : TS} {pb : PSt} {ni nb : Nat} (hi : RIc ni wi pi) (hg : RG js g pg) (hb : RSc nb fr tb pb) : RSc (ni + 100000 * nb) fr (tFor wi g tb) (sForC pi pg pb) := fun z X H0 H σ env G k B o lv w wl s hp => by
  refine hi z X H0 H σ env _ _ o lv (by omega) (fun c1 ds J H1 hc1 e1 yl hx => ?_) hp
  have w1 : (z.at c1).ct = c1 := rfl
  obtain ⟨hdl, hx⟩ := hx
  have f1 := o.frC e1
  have o1 := o.goC e1
  have hmul : ∀ i : Nat, i ≤ ds.length → i * nb ≤ 100000 * nb := fun i h => Nat.mul_le_mul_right nb (Nat.le_trans h hdl)
  refine ⟨fun i mm σ' H' => mm = ds.length - i ∧ i ≤ ds.length ∧ ∃ c env', c ≤ c1 + i * nb ∧ Ok (z.at c) X H0 H' σ' env' ∧ FrC (z.at c1) c X (Ms z X σ env) H1 (Ms z X σ' env') H' ∧ forP pg pb (ds.drop i) env' k, ⟨ds.length, by simp, Nat.zero_le _, c1, env, by omega, o1, Fr.refl.toC e1.live, by simpa using hx⟩, ?_⟩
  rintro i mm σ' H' ⟨rfl, hil, c, env', hc, o', f', hf⟩
  obtain ⟨y1, y2⟩ := yl c _ _ f'
  have hm1 := hmul i hil
  by_cases hlt : i < ds.length
  · obtain ⟨go, y3⟩ := y2 i ds[i] (List.getElem?_eq_getElem hlt)
    have hm2 := hmul (i + 1) hlt
    rw [Nat.succ_mul] at hm2
    rw [List.drop_eq_getElem_cons hlt] at hf
    refine .inr ⟨go, fun σ2 H2 => ∃ c2 env2, c2 ≤ c1 + (i + 1) * nb ∧ Ok (z.at c2) X H0 H2 σ2 env2 ∧ FrC (z.at c1) c2 X (Ms z X σ env) H1 (Ms z X σ2 env2) H2 ∧ forP pg pb (ds.drop (i + 1)) env2 k, fun σ2 H2 h2 => ⟨ds.length - (i + 1), by omega, rfl, hlt, h2⟩, fun x H2 hy => ?_⟩
    obtain ⟨e2, is⟩ := y3 x H2 hy
    have o2 := o'.go e2
    have l2 : (z.at c).live H2 := e2.dk _ f'.live
    have f2 := f'.trans (c' := c) ((o'.fr e2).toC (z := z.at c) f'.live)
    refine hg (z.at c) X H0 H2 σ' env' x _ _ _ o2 (is (fun a q => .inl q) (fun b q => o'.notMs q)) (fun env3 σ3 o3 f3 _ hx3 => ?_) hf
    have f23 := f2.trans (c' := c) (f3.toC (z := z.at c) l2)
    have wc : (z.at c).ct = c := rfl
    refine hb (z.at c) X H0 H2 σ3 env3 _ { nx := fun env2 => forP pg pb (ds.drop (i + 1)) env2 k, rt := k.rt, bk := k.nx, ct := fun env2 => forP pg pb (ds.drop (i + 1)) env2 k } (c + nb) o3 l2 (by omega) (by omega) ⟨fun c4 env4 σ4 H4 hc4 o4 f4 hx4 => ⟨c4, env4, by rw [Nat.succ_mul]; omega, o4, f23.trans f4, hx4⟩, fun c4 d v H4 hc4 e4 l4 r4 fq hk => s.rt c4 d v H4 (by omega) e4 l4 r4 fq hk, fun c4 env4 σ4 H4 hc4 o4 f4 hx4 => ?_, fun c4 env4 σ4 H4 hc4 o4 f4 hx4 => ⟨c4, env4, by rw [Nat.succ_mul]; omega, o4, f23.trans f4, hx4⟩⟩ hx3
    exact s.nx c4 env4 σ4 H4 (by omega) o4 (f1.trans (f23.trans f4)) hx4
  · have ei : i = ds.length := by omega
    subst ei
    rw [List.drop_length] at hf
    exact .inl ⟨y1, s.nx c env' σ' H' (by omega) o' (f1.trans f') hf⟩
section
variable {C : Cx} {fr : Bool} {tg e : Expr} {body : List Stmt} {pe : PX} {m : Mode} {pos pp : Pos} {n ni nb : Nat}
theorem sc_for {iter : Expr} {pi : PIt} {js : List Nat} {g : TG} {pg : PGt} {pb : PSt} (hi : Ic ni C tg iter pi) (hg : G C tg js g pg) (hb : Bc nb fr C body pb) (hp : PassesOwn (model C.prog C.w) C.A C.env C.xe) (hc : C.calm = true) (hs : ∀ x, foldedSetIterable iter C.env x = pure x := by intro _; rfl) :
    Sc (ni + 100000 * nb) fr C (.For tg iter body [] pos) (sForC pi pg pb) := by
  obtain ⟨wi, i1, i2⟩ := hi
  obtain ⟨tb, b1, b2⟩ := hb
  exact ⟨_, ps_for hp hc i1 hg.pg b1 hs, rsc_for i2 hg.rg b2⟩
theorem ylc_tup {z : Zn} {X : AP} {M : AP} {H : Hp} {K : PySem.W.Frag} {a : Addr} {vs : List V} {ds : List D} (h : H a = some (.tup vs)) (n : ¬ M a) (r : IsA z M H vs ds) : YieldsC z X M H (Itt K a) ds := fun c M' H' f => by
  have h' := (f.old a _ h n).1
  have r' := f.isA r
  refine ⟨⟨vs, SqT.of h', by rw [r'.length]; exact Nat.le_refl _⟩, fun i d hd => ?_⟩
  obtain ⟨v, h1, h2⟩ := r'.get hd
  refine ⟨⟨vs, v, SqT.of h', h1⟩, fun x H2 y => ?_⟩
  obtain ⟨rfl, y⟩ := y
  refine ⟨Evo.refl _ _, fun _ _ => ?_⟩
  have e := y vs (SqT.of h')
  rw [h1] at e
  cases e
  exact h2
theorem ylc_lst {z : Zn} {X : AP} {M : AP} {H : Hp} {K : PySem.W.Frag} {a : Addr} {vs : List V} {ds : List D} (h : H a = some (.lst vs)) (n : ¬ M a) (r : IsA z M H vs ds) : YieldsC z X M H (Itl K a) ds := fun c M' H' f => by
  have h' := (f.old a _ h n).1
  have r' := f.isA r
  refine ⟨⟨vs, SqL.of h', by rw [r'.length]; exact Nat.le_refl _⟩, fun i d hd => ?_⟩
  obtain ⟨v, h1, h2⟩ := r'.get hd
  refine ⟨⟨vs, v, SqL.of h', h1⟩, fun x H2 y => ?_⟩
  obtain ⟨rfl, y⟩ := y
  refine ⟨Evo.refl _ _, fun _ _ => ?_⟩
  have e := y vs (SqL.of h')
  rw [h1] at e
  cases e
  exact h2
theorem ic_seq (h : Ec n .e C e pe) : Ic n C tg e (iSeq pe) := by
  obtain ⟨t, h1, h2⟩ := h
  refine ⟨_, pi_seq h1, fun z X H0 H σ env R k o lv w c hp => h2 z X H0 H σ env _ _ o lv w (fun c1 d v H1 hc1 e1 r1 hx => ?_) hp⟩
  cases (show Is (z.at c1) _ H1 v d from r1) with
  | lst e n r => exact .inl ⟨_, rfl, ⟨_, SqL.of e⟩, c c1 _ _ H1 hc1 e1 (ylc_lst e n r) hx⟩
  | tup e n r => exact .inr ⟨_, rfl, ⟨_, SqT.of e⟩, c c1 _ _ H1 hc1 e1 (ylc_tup e n r) hx⟩
  | _ => exact (show False from hx).elim
theorem ylc_rng {z : Zn} {X : AP} {M : AP} {H : Hp} {lo : Int} {n : Nat} : YieldsC z X M H (Itr lo n) (rangeD lo n) := fun c M' H' f => by
  refine ⟨(by show n ≤ (rangeD lo n).length; simp [rangeD]), fun i d hd => ?_⟩
  have hi : i < n := by
    have := (List.getElem?_eq_some_iff.mp hd).1
    simpa [rangeD] using this
  refine ⟨hi, fun x H2 y => ?_⟩
  obtain ⟨rfl, rfl⟩ := y
  refine ⟨Evo.refl _ _, fun _ _ => ?_⟩
  have e : d = .int (lo + (i : Nat)) := by simpa [rangeD, hi, List.getElem?_map, List.getElem?_range] using hd.symm
  rw [e]
  exact Is.int _
theorem ic_range1 {a : Expr} {p : PAs} {l : Bool} (ha : Ac n l C [a] p) (hg : Gl C "range") (hm : C.mg "range" = none) (hs : starEach [a] C.env = [(false, eval a C.env)] := by rfl) : Ic n C tg (.Call (.Name "range" pp) [a] [] pos) (iRange1 p) := by
  obtain ⟨t, h1, h2⟩ := ha
  refine ⟨_, pi_range1 hg hm h1 hs, fun z X H0 H σ env R k o lv w c hp => h2 z X H0 H σ env _ _ o lv w (fun c1 ds vs H1 hc1 e1 r1 hx => ?_) hp⟩
  unfold rgK1 at hx
  split at hx
  · rename_i j
    cases IsA.ints (ns := [_]) r1
    exact ⟨j, rfl, by omega, by omega, c c1 _ _ H1 hc1 e1 ylc_rng hx.2.2⟩
  · exact hx.elim
end
/-! ### defs that draw, the law -/
section
variable {P : Program} {w : World} {K : PySem.W.Frag} {mg : Str → Option Value} {base : Heap}
theorem fn_okC {x qual : Str} {st : Stmt} {f : Addr} {fd : FuncData} {N ps : List Str} {k cost : Nat} {fr : Bool} {p : PSt} (F : Fun K x qual st f fd) (S : FnScope N ps (defScope st))
    (hb : ∀ (cdv : Value) (A : Around) (outer : List Env) (s : Shared) (H : Hp) (E : XK), Room k (A.deeper (envOfC qual (defScope st) s.heap.objs.size f cdv)) → Bc cost fr (cxOf CX0 P w K mg base N qual (defScope st) f cdv A outer s H E).nox (defBody st) p) :
    FnOk P w K mg base CX0 (k + 1) f fd ps (Sfc fr ps.length cost (wpOf fr N.length p)) := by
  refine F.ok S (fun vs H Q E h => ?_) (fun cdv A outer s H vs Q E hr h => ?_)
  · obtain ⟨z, X, ds, kk, hl, _⟩ := h
    exact hl
  · obtain ⟨z, X, ds, kk, hl, hz, hx, hA, ⟨lv, wl⟩, hw, c⟩ := h
    obtain ⟨t, b1, b2⟩ := hb cdv A outer s H E hr
    refine ⟨t, b1, b2 z X H H (L2.start N vs) _ _ { nx := fun _ => fr = false ∧ kk .non, rt := kk } (z.ct + cost) (start_ok hz hx hA) lv (Nat.le_refl _) wl ⟨fun c' env' σ' H' hc o' f' hk => ?_, fun c' d v H' hc e l r fq hk => ?_, fun _ _ _ _ _ _ _ hk => hk.elim, fun _ _ _ _ _ _ _ hk => hk.elim⟩ hw⟩
    · exact c c' .non .non H' hc ⟨o'.evo.old, o'.evo.al, o'.evo.tab, f'.live⟩ .non (fun q => by rw [hk.1] at q; cases q) hk.2
    · exact c c' d v H' hc ⟨e.old, e.al, e.tab, l⟩ r fq hk
/-- the rest of the body, behind the making of a deck that counts -/
theorem rest_okC {t : TS} {p : PSt} {n : Nat} (hn : n ≤ lim) (h : RSc n false t p) {N : List Str} {a dk c : Addr} {H : Hp} (hl : 2 ≤ N.length) (hd : DkF 6 H dk c) (h0 : ∃ s g : Int, H dk = some (.lst [.ref c, .int s, .int 0, .int g])) (hT : Tabs H) {Q : VK} (k : ∀ H', Q (.bl true) H')
    (hp : p (SV.no :: SV.val (.deck 6) :: List.replicate (N.length - 2) SV.no) { nx := fun _ => False, rt := fun d => d = .bl true }) :
    t { nx := fun _ H' => Q .non H', rt := Q } ((L2.start N [V.ref a]).set 1 (some (.ref dk))) H := by
  have hst : (L2.start N [V.ref a]).set 1 (some (.ref dk)) = some (V.ref a) :: some (.ref dk) :: List.replicate (N.length - 2) none := by
    unfold L2.start
    obtain ⟨m, hm⟩ : ∃ m, N.length = m + 2 := ⟨N.length - 2, by omega⟩
    rw [hm]
    simp [List.replicate_succ]
  rw [hst]
  let z : Zn := ⟨dk, c, 6, Option.none, 0⟩
  have lv : z.live H := ⟨rfl, (by decide : (6 : Nat) ≠ 0), hd, h0⟩
  have zal : ∀ b, z.Z b → H b ≠ none := fun b q => by
    rcases q with ⟨_, q | q⟩ | q
    · rw [q]; exact hd.al.1
    · rw [q]; exact hd.al.2
    · exact hT.at q
  have hrep : ∀ (i : Nat) (d : SV), (SV.no :: SV.val (.deck 6) :: List.replicate (N.length - 2) SV.no)[i]? = some d → d = .no ∨ (i = 1 ∧ d = .val (.deck 6)) := fun i d h => by
    match i, h with
    | 0, h => simp at h; exact .inl h.symm
    | 1, h => simp at h; exact .inr ⟨rfl, h.symm⟩
    | j + 2, h =>
      simp only [List.getElem?_cons_succ, List.getElem?_replicate] at h
      split at h
      · cases h; exact .inl rfl
      · cases h
  have o : Ok z (fun _ => False) H H (some (V.ref a) :: some (.ref dk) :: List.replicate (N.length - 2) none) (SV.no :: SV.val (.deck 6) :: List.replicate (N.length - 2) SV.no) := by
    refine ⟨by simp, Evo.refl _ _, zal, fun _ q => q.elim, fun i d h => ?_, fun i d h => ?_, fun i j b d e h _ _ _ => ?_, hT⟩
    · rcases hrep i _ h with q | ⟨rfl, q⟩
      · cases q
      · cases q
        exact ⟨.ref dk, rfl, Is.deck (z := z) lv⟩
    · rcases hrep i _ h with q | ⟨rfl, q⟩ <;> cases q
    · rcases hrep i _ h with q | ⟨rfl, q⟩ <;> cases q
  refine h z (fun _ => False) H H _ _ _ { nx := fun _ => False, rt := fun d => d = .bl true } n o lv (by show 0 + n ≤ n; omega) hn ⟨fun _ _ _ _ _ _ _ q => q.elim, fun c d v H' _ _ _ r _ q => ?_, fun _ _ _ _ _ _ _ q => q.elim, fun _ _ _ _ _ _ _ q => q.elim⟩ hp
  subst q
  cases r
  exact k H'
end
def tPSc (n : Nat) (fr : Bool) (p : PSt) : TS := fun G σ H => ∃ z X H0 env k B, Ok z X H0 H σ env ∧ z.live H ∧ z.ct + n ≤ B ∧ B ≤ lim ∧ SimC (z.ct + n) B fr z X H0 (Ms z X σ env) H G k ∧ p env k
theorem Bc.pss {n : Nat} {fr : Bool} {C : Cx} {sts : List Stmt} {p : PSt} (h : Bc n fr C sts p) : PSs C sts (tPSc n fr p) := by
  obtain ⟨t, h1, h2⟩ := h
  exact ⟨fun pins s σ H G I ⟨z, X, H0, env, k, B, o, lv, w, wl, c, hp⟩ => h1.run pins s σ H G I (h2 z X H0 H σ env G k B o lv w wl c hp)⟩
theorem rsc_tPS {n : Nat} {fr : Bool} {p : PSt} : RSc n fr (tPSc n fr p) p := fun z X H0 H σ env G k B o lv w wl c hp => ⟨z, X, H0, env, k, B, o, lv, w, wl, c, hp⟩
end Pu

namespace Pu
open PySem PySem.Spec PyProof.Rows L2
variable [Tbs]
section
variable {C : Cx} {e a b : Expr} {es : List Expr} {p q pe : PX} {m mo : Mode} {pos pp : Pos} {n na nb : Nat} {x : Str} {tp : PTs'}
theorem tc_v (h : Ec n m C e p) (he : ∀ whole, isTrue e C.env whole = (do let v ← whole; standAt e.pos; holding [v] (truthy v)) := by intro _; rfl) : Tc n C e (tOf p) := by
  obtain ⟨t, h1, h2⟩ := h.toB
  exact ⟨_, pt_val h1 he, RTc.of h2⟩
theorem tc_not (h : Tc n C a tp) : Tc n C (.UnaryOp .Not a pos) (tNotP tp) := by
  obtain ⟨t1, h1, h2⟩ := h
  exact ⟨_, pt_not h1, fun z X H0 H σ env Q k o lv w c hp => h2 z X H0 H σ env _ _ o lv w (fun c1 x H1 hc e1 hx => c c1 _ H1 hc e1 hx) hp⟩
theorem ec_tuple (h : Ec n .c C e p) (hg : Gl C x) (hm : C.mg x = none) (hv : bootBuiltins x = some (.type "tuple")) (hn : x ≠ "__name__" := by decide) (hdb : (x == ("__debug__" : Str)) = false := by decide)
    (he : starEach [e] C.env = (false, eval e C.env) :: starEach [] C.env := by rfl) (hpl : (backTo pos (starEach [] C.env)).any (·.1) = false := by rfl) : Ec n .e C (.Call (.Name x pp) [e] [] pos) (eUn dTuple p) := by
  obtain ⟨t, h1, h2⟩ := h
  refine ⟨_, pe_callTy call_tuple_of hg hm hv (pa_cons h1 pa_nil he) hn hdb he hpl, fun z X H0 H σ env Q k o lv w c hp => h2 z X H0 H σ env _ _ o lv w (fun c1 d v H1 hc e1 r1 hx => ?_) hp⟩
  cases d with
  | tup xs =>
    obtain ⟨a, vs, rfl, q1, q2, n⟩ := r1.conT
    exact ⟨a, vs, rfl, .inr ⟨SqT.of q1, c c1 _ _ H1 hc e1 (Is.tup q1 n q2) hx⟩⟩
  | lst xs =>
    obtain ⟨a, vs, rfl, q1, q2, n⟩ := r1.conL
    exact ⟨a, vs, rfl, .inl ⟨SqL.of q1, fun q hq => c c1 _ _ _ hc (e1.trans (c' := c1) (((Evo.refl (z.at c1) H1).new (o := .tup vs) hq).toC e1.live)) (Rel.feC o (Rel.newT (e1.fresh hq) hq q2)) hx⟩⟩
  | _ => exact (show False from hx).elim
theorem ec_slice {lo hi : Option Expr} {pl ph : PO'} {p2 : Pos} (h : Ec n .c C e p) (hl : O C lo pl) (hh : O C hi ph) : Ec n .e C (.Subscript e (.Slice lo hi none p2) pos) (eSl p pl ph) := by
  obtain ⟨t, h1, h2⟩ := h
  obtain ⟨tl, l1, l2⟩ := hl
  obtain ⟨th, g1, g2⟩ := hh
  refine ⟨_, pe_slice (r := rSlQ C.K) sl_seq h1 l1 g1, fun z X H0 H σ env Q k o lv w c hp => h2 z X H0 H σ env _ _ o lv w (fun c1 d v H1 hc e1 r1 hx => ?_) hp⟩
  have o1 := o.goC e1
  refine l2 (z.at c1) X H0 H1 σ env _ _ o1 (fun i H2 e2 hx => ?_) hx
  refine g2 (z.at c1) X H0 H2 σ env _ _ (o1.go e2) (fun j H3 e3 hx => ?_) hx
  have r3 : Rel .c (z.at c1) X H H3 σ env v d := Rel.goC (z := z.at c1) (c := c1) o.zal ((e2.trans e3).toC e1.live) r1
  have ev := e1.trans (c' := c1) ((e2.trans e3).toC e1.live)
  cases d with
  | tup xs =>
    obtain ⟨a, vs, rfl, q1, q2, n⟩ := r3.conT
    refine .inl ⟨a, vs, rfl, SqT.of q1, fun w => ?_, fun w q hq => ?_⟩
    · refine c c1 _ _ H3 hc ev ?_ hx
      have e : cutD xs i j = xs := by
        have l := q2.length
        rw [l] at w
        exact cut_whole w
      rw [e]
      exact Is.tup q1 n q2
    · exact c c1 _ _ _ hc (ev.trans (c' := c1) (((Evo.refl (z.at c1) H3).new hq).toC ev.live)) (Rel.feC o (Rel.newT (ev.fresh hq) hq q2.cut)) hx
  | lst xs =>
    obtain ⟨a, vs, rfl, q1, q2, n⟩ := r3.conL
    exact .inr ⟨a, vs, rfl, SqL.of q1, fun q hq => c c1 _ _ _ hc (ev.trans (c' := c1) (((Evo.refl (z.at c1) H3).new hq).toC ev.live)) (Rel.feC o (Rel.newL (ev.fresh hq) hq q2.cut)) hx⟩
  | _ => exact (show False from hx).elim
end
end Pu

namespace Pu
open PySem PySem.Spec PyProof.Rows L2
variable [Tbs]
theorem get_list {X : Cx} : PGet X (rIxL X.K) := by
  intro pins s σ H o i ov iv Q I rx ry h
  obtain ⟨p, xs, i, z, rfl, rfl, hq, he, q⟩ := h
  cases rx
  obtain ⟨t, rfl⟩ := ry
  obtain ⟨its, r, pl, hz⟩ := I.list hq
  obtain ⟨j, h1, h2, h3, h4, h5⟩ := atI_get he
  obtain ⟨w, ew, rw'⟩ := r.get h2
  have hl := r.length
  have hn := line63
  have fin : EP X pins σ Q w s := ⟨z, H, I, rw', q⟩
  by_cases h0 : 0 ≤ i
  · have hj : i.toNat = j := by
      rw [seqIndex_of h0 h5] at h1
      exact Option.some.inj h1
    exact wpAny_getItem_list pl.isList h0 (by omega) (by rw [hj]; simpa using ew) fin
  · have hj : (i + (its.toArray.size : Int)).toNat = j := by
      rw [seqIndex_neg (by omega) h4] at h1
      rw [List.size_toArray, ← hl]
      exact Option.some.inj h1
    exact wpAny_getItem_list_neg pl.isList (by omega) (by rw [List.size_toArray] <;> omega) (by omega) (by rw [hj]; simpa using ew) fin
/-- x[i] += e, x a list of the def's own -/
def sAugI (i : Nat) (pi pe : PX) : PSt := fun env k => match env[i]? with
  | some (.own (.lst xs)) => pi env fun d => match d with
    | .int n => ∃ jj a, ixN xs.length n = some jj ∧ xs[jj]? = some (.int a) ∧ pe env fun y => match y with
      | .int b => k.nx (env.set i (.own (.lst (xs.set jj (.int (a + b))))))
      | _ => False
    | _ => False
  | _ => False
section
variable {C : Cx} {e ix : Expr} {p q : PX} {m m' : Mode} {pos pp spos : Pos} {fr : Bool}
theorem s_augI (i : Nat) {x : Str} (hi : E m C ix q) (he : E m' C e p) (hN : C.N[i]? = some x := by rfl) (hv : Vis C.env.scope x := by first | exact Or.inl rfl | exact Or.inr (Or.inl rfl) | exact Or.inr (Or.inr rfl)) (hd : (x == ("__debug__" : Str)) = false := by decide)
    (hcd : (x == ("__classdict__" : Str)) = false := by decide)
    (ha : ∀ ov iv new, augStore ix ov iv new = (do holding [new, ov, iv] (setItem ov iv new); release [new, ov, iv] []; pure .next) := by intros; rfl) : S fr C (.AugAssign (.Subscript (.Name x pp) ix spos) .Add e pos) (sAugI i q p) := by
  obtain ⟨t, a1, a2⟩ := he.toB
  obtain ⟨t2, b1, b2⟩ := hi.toB
  refine ⟨_, ps_augS (pe_var hN hv hd hcd) b1 get_list a1 ip_add set_list ha, fun z X H0 H σ env G k o s hp => ?_⟩
  unfold sAugI at hp
  split at hp
  · rename_i xs hx0
    obtain ⟨a, q1, ⟨vs, q5, q6⟩, q3, q4⟩ := o.own i _ hx0
    refine ⟨_, q1, b2 z X H0 H σ env _ _ o (fun d u H1 e1 r1 hx => ?_) hp⟩
    cases d with
    | int n =>
      cases Is.intI r1
      obtain ⟨jj, w, g1, g2, hx⟩ := hx
      have o1 := o.go e1
      have q5' := e1.old a _ q5 q3
      have q6' := IsA.evo (fun _ q => .inl q) e1 q6
      obtain ⟨wv, w1, w2⟩ := q6'.get g2
      cases Is.intI w2
      refine ⟨a, vs, n, _, rfl, rfl, SqL.of q5', by unfold atI; rw [q6.length, g1]; exact w1, a2 z X H0 H1 σ env _ _ o1 (fun y v H2 e2 r2 hx => ?_) hx⟩
      cases y with
      | int b =>
        cases Is.intI r2
        have o2 := o1.go e2
        have q5'' := e2.old a _ q5' q3
        have q6'' := IsA.evo (fun _ q => .inl q) e2 q6'
        refine ⟨w, b, rfl, rfl, a, vs, n, jj, rfl, rfl, q5'', by rw [q6.length]; exact g1, ?_⟩
        obtain ⟨o3, f3⟩ := mutL o2 hx0 q1 q3 (IsA.set (Is.int (w + b)) jj q6'')
        exact s.nx _ _ _ o3 ((o.fr (e1.trans e2)).trans f3) hx
      | _ => exact (show False from hx).elim
    | _ => exact (show False from hx).elim
  · exact hp.elim
end
section
variable {C : Cx} {e a b : Expr} {es : List Expr} {p q : PX} {ga : PAs} {m mo : Mode} {l : Bool} {pos pp : Pos} {x : Str} {id ty : String} {r : List V → Hp → VK → Prop} {g : List D → (D → Prop) → Prop} {n na ni : Nat}
theorem REc.cB {t : TA} (hd : CallD l mo r g) (h : RAc n l t ga) : REc n mo (tCB r t) (eCall g ga) := fun z X H0 H σ env Q k o lv w c hp =>
  h z X H0 H σ env _ _ o lv w (fun c1 ds vs H1 hc e1 r1 hx => hd (z.at c1) X H0 H1 σ env vs ds Q k (o.goC e1) r1 (fun d w H2 e2 r2 kd => c c1 d w H2 hc (e1.trans (c' := c1) (e2.toC (z := z.at c1) e1.live)) (r2.earlyC (z' := z) fun p hn => e1.fresh hn) kd) hx) hp
theorem ec_callB (hc : CallR C (.builtin id) r) (hd : CallD l mo r g) (hg : Gl C x) (hm : C.mg x = none) (hv : bootBuiltins x = some (.builtin id)) (ha : Ac n l C (e :: es) ga) (hn : x ≠ "__name__" := by decide) (hdb : (x == ("__debug__" : Str)) = false := by decide)
    (he : starEach (e :: es) C.env = (false, eval e C.env) :: starEach es C.env := by rfl) (hpl : (backTo pos (starEach es C.env)).any (·.1) = false := by rfl) : Ec n mo C (.Call (.Name x pp) (e :: es) [] pos) (eCall g ga) := by
  obtain ⟨t, h1, h2⟩ := ha
  exact ⟨_, pe_callB hc hg hm hv h1 hn hdb he hpl, REc.cB hd h2⟩
theorem ec_callTy (hc : CallR C (.type ty) r) (hd : CallD l mo r g) (hg : Gl C x) (hm : C.mg x = none) (hv : bootBuiltins x = some (.type ty)) (ha : Ac n l C (e :: es) ga) (hn : x ≠ "__name__" := by decide) (hdb : (x == ("__debug__" : Str)) = false := by decide)
    (he : starEach (e :: es) C.env = (false, eval e C.env) :: starEach es C.env := by rfl) (hpl : (backTo pos (starEach es C.env)).any (·.1) = false := by rfl) : Ec n mo C (.Call (.Name x pp) (e :: es) [] pos) (eCall g ga) := by
  obtain ⟨t, h1, h2⟩ := ha
  exact ⟨_, pe_callTy hc hg hm hv h1 hn hdb he hpl, REc.cB hd h2⟩
end
/-! ### comprehensions whose element draws -/
def eLcC (vs : List Nat) (pi : PIt) (pg : PGt) (pt : PTs') (pe : PX) : PX := fun env k => pi env fun ds => noOwn env vs ∧ ds.length ≤ 100000 ∧ lcP pg pt pe (wipeE env vs) ds [] fun r => k (.lst r)
theorem Ok.lockC {z : Zn} {c : Nat} {X : AP} {H0 H H' : Hp} {σ : Sl} {env : List SV} {a : Addr} (o : Ok z X H0 H σ env) (ha : H a = none) (e : EvoC z c H H') (h' : H' a ≠ none) : Ok (z.at c) (X.or a) H0 H' σ env := by
  have na : ∀ {b u}, H b = some u → b ≠ a := fun {b u} q => ne_of_none q ha
  have ms : ∀ b, Ms z (X.or a) σ env b → Ms z X σ env b ∨ b = a := by
    rintro b (h | (h | h) | h)
    · exact .inl (.inl h)
    · exact .inl (.inr (.inl h))
    · exact .inr h
    · exact .inl (.inr (.inr h))
  have old : ∀ b u, H b = some u → ¬ Ms z X σ env b → H' b = some u ∧ ¬ Ms z (X.or a) σ env b := fun b u q n => ⟨e.old b u q fun y => n (.inl y), fun y => (ms b y).elim n (na q)⟩
  have og := o.goC e
  refine ⟨o.len, og.evo, og.zal, fun b h => ?_, fun i d h => ?_, fun i d h => ?_, o.inj, og.tab⟩
  · rcases h with h | h
    · exact ⟨e.al b (o.xal b h).1, (o.xal b h).2⟩
    · rw [h]; exact ⟨h', fun q => o.zal a q ha⟩
  · obtain ⟨v, h1, h2⟩ := o.val i d h
    exact ⟨v, h1, h2.at old e.ok⟩
  · obtain ⟨b, h1, h2, h3, h4, h5⟩ := o.own i d h
    obtain ⟨u, hu⟩ := h2.some
    exact ⟨b, h1, h2.at (fun u q => e.old b u q h3) old e.ok, h3, fun q => q.elim h4 (na hu), h5⟩
theorem rec_lc {wi : TI} {pi : PIt} {js vs : List Nat} {g : TG} {pg : PGt} {tt : TT} {pt : PTs'} {te : TE} {pe : PX} {ni n : Nat} (hi : RIc ni wi pi) (hg : RG js g pg) (hj : ∀ i ∈ js, i ∈ vs) (ht : RT tt pt) (he : REc n .e te pe) : REc (ni + 100000 * n) .f (tLc wi g tt te vs) (eLcC vs pi pg pt pe) := fun z X H0 H σ env Q k o lv w c hp => by
  refine hi z X H0 H σ env _ _ o lv (by omega) (fun c1 ds J H1 hc1 e1 yl hx => ?_) hp
  have w1 : (z.at c1).ct = c1 := rfl
  obtain ⟨hn, hdl, hx⟩ := hx
  have o1 := o.goC e1
  have hmul : ∀ i : Nat, i ≤ ds.length → i * n ≤ 100000 * n := fun i h => Nat.mul_le_mul_right n (Nat.le_trans h hdl)
  intro Da hD
  have hzD : ¬ z.Z Da := fun q => o1.zal Da q hD
  refine ⟨fun i mm H' => mm = ds.length - i ∧ i ≤ ds.length ∧ ∃ cc accV accD, cc ≤ c1 + i * n ∧ EvoC (z.at c1) cc H1 H' ∧ H' Da = some (.lst accV) ∧ IsA (z.at cc) (Ms z (X.or Da) σ env) H' accV accD ∧ lcP pg pt pe (wipeE env vs) (ds.drop i) accD fun r => k (.lst r),
    ⟨ds.length, by simp, Nat.zero_le _, c1, [], [], by omega, ((Evo.refl (z.at c1) H1).new hD).toC e1.live, upd_same, .nil, by simpa using hx⟩, ?_⟩
  rintro i mm H' ⟨rfl, hil, cc, accV, accD, hcc, e', hacc, hA, hk⟩
  have oL : Ok (z.at cc) (X.or Da) H0 H' σ env := Ok.lockC (z := z.at c1) o1 hD e' (by rw [hacc]; intro q; cases q)
  have ms2 : ∀ b, Ms z (X.or Da) σ env b → Ms z X σ env b ∨ b = Da := by
    rintro b (h | (h | h) | h)
    · exact .inl (.inl h)
    · exact .inl (.inr (.inl h))
    · exact .inr h
    · exact .inl (.inr (.inr h))
  have fr : FrC (z.at c1) cc X (Ms z X σ env) H1 (Ms z (X.or Da) σ env) H' := ⟨fun b u q nn => ⟨e'.old b u q fun y => nn (.inl y), fun y => (ms2 b y).elim nn (ne_of_none q hD)⟩, e'.al, e'.live⟩
  obtain ⟨y1, y2⟩ := yl _ _ _ fr
  have hm1 := hmul i hil
  by_cases hlt : i < ds.length
  · obtain ⟨go, y3⟩ := y2 i ds[i] (List.getElem?_eq_getElem hlt)
    have hm2 := hmul (i + 1) hlt
    rw [Nat.succ_mul] at hm2
    have wc : (z.at cc).ct = cc := rfl
    rw [List.drop_eq_getElem_cons hlt] at hk
    refine .inr ⟨go, fun H2 => ∃ cc accV accD, cc ≤ c1 + (i + 1) * n ∧ EvoC (z.at c1) cc H1 H2 ∧ H2 Da = some (.lst accV) ∧ IsA (z.at cc) (Ms z (X.or Da) σ env) H2 accV accD ∧ lcP pg pt pe (wipeE env vs) (ds.drop (i + 1)) accD fun r => k (.lst r), fun H2 h2 => ⟨ds.length - (i + 1), by omega, rfl, hlt, h2⟩, fun x H2 hy => ?_⟩
    obtain ⟨e2, is⟩ := y3 x H2 hy
    have oL2 := oL.go e2
    have l2 : (z.at cc).live H2 := e2.dk _ e'.live
    obtain ⟨oW, sub⟩ := oL2.wipe (vs := vs)
    refine hg (z.at cc) (X.or Da) H0 H2 _ _ x _ _ _ oW ((is (fun a q => .inl q) (fun b q => oL.notMs q)).weak sub) (fun env3 σ3 o3 f3 kp hx3 => ⟨wipe_eq kp hj, ?_⟩) hk
    refine ht (z.at cc) (X.or Da) H0 H2 σ3 env3 _ _ o3 (fun b H3 e3 hx4 => ?_) hx3
    have l3 : (z.at cc).live H3 := e3.dk _ l2
    have e13 : EvoC (z.at c1) cc H1 H3 := e'.trans (c' := cc) ((e2.trans e3).toC (z := z.at cc) e'.live)
    have acc3 : H3 Da = some (.lst accV) := e3.old _ _ (e2.old _ _ hacc hzD) hzD
    have A3 : IsA (z.at cc) (Ms z (X.or Da) σ env) H3 accV accD := IsA.evo (z := z.at cc) (fun _ q => .inl q) (e2.trans e3) hA
    cases b with
    | false =>
      rw [if_neg Bool.false_ne_true]
      exact ⟨cc, accV, accD, by rw [Nat.succ_mul]; omega, e13, acc3, A3, hx4⟩
    | true =>
      rw [if_pos rfl]
      refine he (z.at cc) (X.or Da) H0 H3 σ3 env3 _ _ (o3.go e3) l3 (by omega) (fun c4 r y H4 hc4 e4 r4 hx5 => ?_) hx4
      have e14 : EvoC (z.at c1) c4 H1 H4 := e13.trans e4
      refine ⟨accV, e4.old _ _ acc3 hzD, by rw [hA.length]; exact szl hx5.1, c4, accV ++ [y], accD ++ [r], by rw [Nat.succ_mul]; omega, ?_, upd_same, ?_, hx5.2⟩
      · have em : Evo (z.at c4) H1 (upd H4 Da (.lst (accV ++ [y]))) := (EvoC.evo e14).mut hD hzD
        exact ⟨em.old, em.al, em.tab, ok_mut (z := z.at c4) hzD e14.live⟩
      have ir : Is (z.at c4) (Ms z (X.or Da) σ env) H4 y r := Is.weak (ms_in hn hj kp) r4
      refine ((IsA.goC (z := z.at cc) (fun _ q => .inl q) e4 A3).append (.cons ir .nil)).gen (fun b u q nn => ⟨?_, nn⟩) fun b hb => ok_mut (z := z.at c4) hzD hb
      rw [upd_ne (fun w => nn (by rw [w]; exact .inr (.inl (.inr rfl))))]
      exact q
  · have ei : i = ds.length := by omega
    subst ei
    rw [List.drop_length] at hk
    exact .inl ⟨y1, c cc (.lst accD) (.ref Da) H' (by omega) (e1.trans e') ⟨Da, rfl, e1.fresh hD, accV, hacc, hA⟩ hk⟩
section
variable {C : Cx} {fr : Bool} {elt tg iter : Expr} {ifs : List Expr} {scope : Scope} {own : List (Str × Nat)} {pos : Pos} {pi : PIt} {js : List Nat} {g : TG} {pg : PGt} {pt : PTs'} {pe : PX} {ni n : Nat}
def tPc (n : Nat) (m : Mode) (p : PX) : TE := fun σ H Q => ∃ z X H0 env k, Ok z X H0 H σ env ∧ z.live H ∧ z.ct + n ≤ lim ∧ (∀ c d v H', c ≤ z.ct + n → EvoC z c H H' → Rel m (z.at c) X H H' σ env v d → k d → Q v H') ∧ p env k
theorem rec_tP {n : Nat} {m : Mode} {p : PX} : REc n m (tPc n m p) p := fun z X H0 H σ env Q k o lv w c hp => ⟨z, X, H0, env, k, o, lv, w, c, hp⟩
theorem Ec.pec {n : Nat} {m : Mode} {e : Expr} {p : PX} (h : Ec n m C e p) : PE C e (tPc n m p) := by
  obtain ⟨t, h1, h2⟩ := h
  exact ⟨fun pins s σ H Q I ⟨z, X, H0, env, k, o, lv, w, c, hp⟩ => h1.run pins s σ H Q I (h2 z X H0 H σ env Q k o lv w c hp)⟩
theorem ec_lc (hi : Ic ni C tg iter pi) (hg : ∀ (s : Shared) (H : Hp) (Ca : Addr) (cl : List (Str × Addr)) (fp : List Addr), G (C.blk s H scope (compEnvC scope cl Ca C.env) fp) tg js g pg) (ht : ∀ (s : Shared) (H : Hp) (Ca : Addr) (cl : List (Str × Addr)) (fp : List Addr), Ts (C.blk s H scope (compEnvC scope cl Ca C.env) fp) ifs pt)
    (he : ∀ (s : Shared) (H : Hp) (Ca : Addr) (cl : List (Str × Addr)) (fp : List Addr), Ec n .e (C.blk s H scope (compEnvC scope cl Ca C.env) fp) elt pe) (hc : C.calm = true) (hN : C.N.Nodup) (ok : BlkOk C.N C.env.scope scope own) (hj : ∀ i ∈ js, i ∈ own.map (·.2)) (rg : RG js g pg) (hs : ∀ x, foldedSetIterable iter C.env x = pure x := by intro _; rfl) :
    Ec (ni + 100000 * n) .f C (.ListComp elt [⟨tg, iter, ifs, 0⟩] scope pos) (eLcC (own.map (·.2)) pi pg pt pe) := by
  obtain ⟨wi, i1, i2⟩ := hi
  exact ⟨_, pe_lc hc hN i1 ok (fun s H Ca cl fp => (hg s H Ca cl fp).pg) (fun s H Ca cl fp => (ht s H Ca cl fp).ex) (fun s H Ca cl fp => (he s H Ca cl fp).pec) hs, rec_lc i2 rg hj rt_tP rec_tP⟩
theorem rsc_own {i : Nat} {t : TE} {n : Nat} (h : REc n .f t pe) : RSc n fr (tAsg t (gName i)) (sOwn i pe) := fun z X H0 H σ env G k B o lv w wl s hp => h z X H0 H σ env _ _ o lv (by omega) (fun c d v H1 hc e1 r1 hx => by
  obtain ⟨a, rfl, ha, hcn⟩ := r1
  obtain ⟨o2, f2⟩ := o.takeC hx.1 e1 ha hcn
  exact s.nx c _ _ H1 hc o2 f2 hx.2) hp
theorem rsc_set {i : Nat} {t : TE} {n : Nat} (h : REc n .e t pe) : RSc n fr (tAsg t (gName i)) (sSet i pe) := fun z X H0 H σ env G k B o lv w wl s hp => h z X H0 H σ env _ _ o lv (by omega) (fun c d v H1 hc e1 r1 hx => by
  obtain ⟨o2, f2⟩ := (o.goC e1).set (i := i) (show Is (z.at c) _ H1 v d from r1)
  exact s.nx c _ _ H1 hc o2 ((o.frC e1).trans (f2.toC (z := z.at c) e1.live)) hx) hp
theorem REc.fe' {t : TE} {p : PX} {n : Nat} (h : REc n .f t p) : REc n .e t p := fun z X H0 H σ env Q k o lv w c hp => h z X H0 H σ env Q k o lv w (fun c1 d v H' hc ev r kd => c c1 d v H' hc ev (Rel.feC o r) kd) hp
theorem sc_ownLc {i : Nat} {y : Str} {py spos : Pos} (hi : Ic ni C tg iter pi) (hg : ∀ (s : Shared) (H : Hp) (Ca : Addr) (cl : List (Str × Addr)) (fp : List Addr), G (C.blk s H scope (compEnvC scope cl Ca C.env) fp) tg js g pg) (ht : ∀ (s : Shared) (H : Hp) (Ca : Addr) (cl : List (Str × Addr)) (fp : List Addr), Ts (C.blk s H scope (compEnvC scope cl Ca C.env) fp) ifs pt)
    (he : ∀ (s : Shared) (H : Hp) (Ca : Addr) (cl : List (Str × Addr)) (fp : List Addr), Ec n .e (C.blk s H scope (compEnvC scope cl Ca C.env) fp) elt pe) (hc : C.calm = true) (hN : C.N.Nodup) (hy : C.N[i]? = some y) (hyl : C.env.scope.names.lookup y = some .local)
    (hsw : swapsWith (.ListComp elt [⟨tg, iter, ifs, 0⟩] scope pos) (some (.Name y py)) spos.line C.env = pure true) (ok : BlkOk C.N C.env.scope scope own) (hj : ∀ i ∈ js, i ∈ own.map (·.2)) (rg : RG js g pg) (hs : ∀ x, foldedSetIterable iter C.env x = pure x := by intro _; rfl) :
    Sc (ni + 100000 * n) fr C (.Assign [.Name y py] (.ListComp elt [⟨tg, iter, ifs, 0⟩] scope pos) spos) (sOwn i (eLcC (own.map (·.2)) pi pg pt pe)) := by
  obtain ⟨wi, i1, i2⟩ := hi
  exact ⟨_, ps_setLc hc hN hy hyl hsw i1 ok (fun s H Ca cl fp => (hg s H Ca cl fp).pg) (fun s H Ca cl fp => (ht s H Ca cl fp).ex) (fun s H Ca cl fp => (he s H Ca cl fp).pec) hs, rsc_own (rec_lc i2 rg hj rt_tP rec_tP)⟩
theorem sc_setLc {i : Nat} {y : Str} {py spos : Pos} (hi : Ic ni C tg iter pi) (hg : ∀ (s : Shared) (H : Hp) (Ca : Addr) (cl : List (Str × Addr)) (fp : List Addr), G (C.blk s H scope (compEnvC scope cl Ca C.env) fp) tg js g pg) (ht : ∀ (s : Shared) (H : Hp) (Ca : Addr) (cl : List (Str × Addr)) (fp : List Addr), Ts (C.blk s H scope (compEnvC scope cl Ca C.env) fp) ifs pt)
    (he : ∀ (s : Shared) (H : Hp) (Ca : Addr) (cl : List (Str × Addr)) (fp : List Addr), Ec n .e (C.blk s H scope (compEnvC scope cl Ca C.env) fp) elt pe) (hc : C.calm = true) (hN : C.N.Nodup) (hy : C.N[i]? = some y) (hyl : C.env.scope.names.lookup y = some .local)
    (hsw : swapsWith (.ListComp elt [⟨tg, iter, ifs, 0⟩] scope pos) (some (.Name y py)) spos.line C.env = pure true) (ok : BlkOk C.N C.env.scope scope own) (hj : ∀ i ∈ js, i ∈ own.map (·.2)) (rg : RG js g pg) (hs : ∀ x, foldedSetIterable iter C.env x = pure x := by intro _; rfl) :
    Sc (ni + 100000 * n) fr C (.Assign [.Name y py] (.ListComp elt [⟨tg, iter, ifs, 0⟩] scope pos) spos) (sSet i (eLcC (own.map (·.2)) pi pg pt pe)) := by
  obtain ⟨wi, i1, i2⟩ := hi
  exact ⟨_, ps_setLc hc hN hy hyl hsw i1 ok (fun s H Ca cl fp => (hg s H Ca cl fp).pg) (fun s H Ca cl fp => (ht s H Ca cl fp).ex) (fun s H Ca cl fp => (he s H Ca cl fp).pec) hs, rsc_set (REc.fe' (rec_lc i2 rg hj rt_tP rec_tP))⟩
end
section
variable {C : Cx} {tg e : Expr} {pos pp : Pos} {n : Nat}
theorem ic_range2 {a b : Expr} {p : PAs} {l : Bool} (ha : Ac n l C [a, b] p) (hg : Gl C "range") (hm : C.mg "range" = none) (hs : starEach [a, b] C.env = [(false, eval a C.env), (false, eval b C.env)] := by rfl) (hs2 : starEach [b] C.env = [(false, eval b C.env)] := by rfl) : Ic n C tg (.Call (.Name "range" pp) [a, b] [] pos) (iRange2 p) := by
  obtain ⟨t, h1, h2⟩ := ha
  refine ⟨_, pi_range2 hg hm h1 hs hs2, fun z X H0 H σ env R k o lv w c hp => h2 z X H0 H σ env _ _ o lv w (fun c1 ds vs H1 hc1 e1 r1 hx => ?_) hp⟩
  unfold rgK2 at hx
  split at hx
  · rename_i i j
    cases IsA.ints (ns := [_, _]) r1
    exact ⟨i, j, rfl, by omega, c c1 _ _ H1 hc1 e1 ylc_rng hx.2⟩
  · exact hx.elim
end
/-- % by any divisor but 0 -/
abbrev dModN := dII (fun _ j => j ≠ 0) fun i j => .int (i.fmod j)
theorem opd_modN : OpD .b .e (rI (fun _ j => j ≠ 0) fun i j => .int (i.fmod j)) dModN := opd_II fun i j _ _ _ => .int _
theorem dModN_i {i j : Int} {k : D → Prop} (c : j ≠ 0) (h : k (.int (i.fmod j))) : dModN (.int i) (.int j) k := ⟨c, h⟩
/-- a, b, .. = a list -/
def gtLst (n : Nat) (q : PGs') : PGt := fun d env k => match d with
  | .lst ds => ds.length = n ∧ q ds env k
  | _ => False
theorem gtLst_i {ds : List D} {n : Nat} {env : List SV} {k : List SV → Prop} {gs : PGs'} (hn : ds.length = n) (h : gs ds env k) : gtLst n gs (.lst ds) env k := ⟨hn, h⟩
section
variable {C : Cx} {pos : Pos}
theorem g_lst {es : List Expr} {js : List Nat} {kk : Nat} {gs : TGs} {q : PGs'} {n : Nat} (hc : C.calm = true) (h : Gs C es js gs q)
    (hn : (assignEach es C.env).length = n := by rfl) (hst : (assignEach es C.env).findIdx? (·.1) = none := by rfl) : G C (.Tuple es kk pos) js (gLst C.K n gs) (gtLst n q) :=
  ⟨pg_lst hc h.pg hn hst, fun z X H0 H σ env v d Q k o hv c hp => by
    cases hv with
    | lst e nn r => exact ⟨_, _, rfl, SqL.of e, by rw [r.length]; exact hp.1, h.rg z X H0 H σ env _ _ _ _ o r c hp.2⟩
    | _ => exact (show False from hp).elim⟩
end
end Pu

namespace Pu
open PySem PySem.Spec PyProof.Rows L2
variable [Tbs]
theorem sq_keep {K : PySem.W.Frag} {H H' : Hp} {a : Addr} {xs : List V} (h : SqL K H a xs) (k : ∀ o, H a = some o → (∀ ps, o ≠ .tbl ps) → H' a = some o) : SqL K H' a xs := by
  rcases h with h | h
  · refine .inl ?_
    rcases h with h | ⟨u, h⟩
    · exact .inl (k _ h (fun _ q => by cases q))
    · exact .inr ⟨u, k _ h (fun _ q => by cases q)⟩
  · exact .inr h
/-- one turn of a law over wells: the well stands new at w, in slot 2 -/
theorem turn_ok {n : Nat} {p : PSt} (hn : n ≤ lim) {K : PySem.W.Frag} {M : Nat} {a w : Addr} {i : Int} {H1 : Hp} {xs : List V} {g s : Int} {σ : Sl} {G : Ends} (hl : σ.length = M + 3) (h0 : σ[0]? = some (some (.ref a))) (h1 : σ[1]? = some (some (.int i))) (h2 : σ[2]? = some (some (.ref w)))
    (hw : H1 w = none) (hT : Tabs H1) (hS : SqL K H1 a xs)
    (hp : p (SV.val (.opq a) :: SV.val (.int i) :: SV.val (.deck 8) :: List.replicate M SV.no) { nx := fun env => env[0]? = some (.val (.opq a)) ∧ env.length = M + 3, rt := fun _ => False })
    (k : ∀ σ' H', σ'.length = M + 3 → σ'[0]? = some (some (.ref a)) → SqL K H' a xs → Tabs H' → G.nx σ' H') : tPSc n false p G σ (upd H1 w (.lst [.int g, .int s, .int 0])) := by
  let z : Zn := ⟨w, w, 8, Option.none, 0⟩
  have e0 : upd H1 w (.lst [.int g, .int s, .int 0]) w = some (.lst [.int g, .int s, .int 0]) := upd_same
  have hd : DkF 8 (upd H1 w (.lst [.int g, .int s, .int 0])) w w := ⟨s, 0, g, [g, s, 0], e0, e0, trivial⟩
  have lv : z.live (upd H1 w (.lst [.int g, .int s, .int 0])) := ⟨rfl, (by decide : (8 : Nat) ≠ 0), hd, ⟨g, s, e0⟩⟩
  have hT2 : Tabs (upd H1 w (.lst [.int g, .int s, .int 0])) := hT.new hw
  have zal : ∀ b, z.Z b → upd H1 w (.lst [.int g, .int s, .int 0]) b ≠ none := fun b q => by
    rcases q with ⟨_, q | q⟩ | q
    · rw [q]; exact hd.al.1
    · rw [q]; exact hd.al.2
    · exact hT2.at q
  have hrep : ∀ (j : Nat) (d : SV), (SV.val (.opq a) :: SV.val (.int i) :: SV.val (.deck 8) :: List.replicate M SV.no)[j]? = some d → d = .no ∨ (j = 0 ∧ d = .val (.opq a)) ∨ (j = 1 ∧ d = .val (.int i)) ∨ (j = 2 ∧ d = .val (.deck 8)) := fun j d h => by
    match j, h with
    | 0, h => simp at h; exact .inr (.inl ⟨rfl, h.symm⟩)
    | 1, h => simp at h; exact .inr (.inr (.inl ⟨rfl, h.symm⟩))
    | 2, h => simp at h; exact .inr (.inr (.inr ⟨rfl, h.symm⟩))
    | j + 3, h =>
      simp only [List.getElem?_cons_succ, List.getElem?_replicate] at h
      split at h
      · cases h; exact .inl rfl
      · cases h
  have o : Ok z (fun _ => False) (upd H1 w (.lst [.int g, .int s, .int 0])) (upd H1 w (.lst [.int g, .int s, .int 0])) σ (SV.val (.opq a) :: SV.val (.int i) :: SV.val (.deck 8) :: List.replicate M SV.no) := by
    refine ⟨by simp [hl], Evo.refl _ _, zal, fun _ q => q.elim, fun j d h => ?_, fun j d h => ?_, fun j l b d e h _ _ _ => ?_, hT2⟩
    · rcases hrep j _ h with q | ⟨rfl, q⟩ | ⟨rfl, q⟩ | ⟨rfl, q⟩
      · cases q
      · cases q
        exact ⟨_, h0, .opq a⟩
      · cases q
        exact ⟨_, h1, .int i⟩
      · cases q
        exact ⟨_, h2, Is.deck (z := z) lv⟩
    · rcases hrep j _ h with q | ⟨rfl, q⟩ | ⟨rfl, q⟩ | ⟨rfl, q⟩ <;> cases q
    · rcases hrep j _ h with q | ⟨rfl, q⟩ | ⟨rfl, q⟩ | ⟨rfl, q⟩ <;> cases q
  refine ⟨z, fun _ => False, upd H1 w (.lst [.int g, .int s, .int 0]), _, _, n, o, lv, by show 0 + n ≤ n; omega, hn, ⟨fun c env' σ' H' hc o' f' hx => ?_, fun _ _ _ _ _ _ _ _ _ q => (show False from q).elim, fun _ _ _ _ _ _ _ q => (show False from q).elim, fun _ _ _ _ _ _ _ q => (show False from q).elim⟩, hp⟩
  obtain ⟨v, v1, v2⟩ := o'.val 0 _ hx.1
  cases v2
  have hl' := o'.len
  refine k σ' H' ?_ v1 (sq_keep hS fun u q nt => ?_) o'.tab
  · rw [hl', hx.2]
  · have na : a ≠ w := fun q2 => by rw [q2, hw] at q; cases q
    refine o'.evo.old a u (by rw [upd_ne na]; exact q) ?_
    rintro (⟨_, q2 | q2⟩ | q2)
    · exact na q2
    · exact na q2
    · obtain ⟨ps, e, _⟩ := hT a q2
      rw [q] at e
      cases e
      exact nt ps rfl
/-! ### a while without draws, in a def that draws -/
theorem whileN_nt {c : PTs'} {p : PSt} (hp : ∀ (env : List SV) (k1 k2 : PK'), k1.nx = k2.nx → p env k1 = p env k2) (k1 k2 : PK') (e : k1.nx = k2.nx) : ∀ n, whileN c p k1 n = whileN c p k2 n
  | 0 => rfl
  | n + 1 => by
    funext env
    show (c env fun b => if b = true then p env { nx := whileN c p k1 n, rt := k1.rt, bk := k1.nx, ct := whileN c p k1 n } else k1.nx env) = (c env fun b => if b = true then p env { nx := whileN c p k2 n, rt := k2.rt, bk := k2.nx, ct := whileN c p k2 n } else k2.nx env)
    congr 1
    funext b
    rw [hp env { nx := whileN c p k1 n, rt := k1.rt, bk := k1.nx, ct := whileN c p k1 n } { nx := whileN c p k2 n, rt := k2.rt, bk := k2.nx, ct := whileN c p k2 n } (whileN_nt hp k1 k2 e n), e]
theorem nt_set {i : Nat} {q : PX} (env : List SV) (k1 k2 : PK') (e : k1.nx = k2.nx) : sSet i q env k1 = sSet i q env k2 := by
  show (q env fun d => k1.nx (env.set i (.val d))) = (q env fun d => k2.nx (env.set i (.val d)))
  rw [e]
section
variable {C : Cx} {fr : Bool} {st : Stmt} {c : PTs'} {p : PSt}
theorem S.cdW (h : S fr C st (sWhile c p)) (hp : ∀ (env : List SV) (k1 k2 : PK'), k1.nx = k2.nx → p env k1 = p env k2) : Sc 0 fr C st (sWhile c p) :=
  S.cd h fun env k hw => by
    obtain ⟨n, hw⟩ := hw
    have e := whileN_nt (c := c) hp k { nx := k.nx, rt := fun _ => False, bk := fun _ => False, ct := fun _ => False, re := fun _ _ => False } rfl n
    exact ⟨n, by rw [← e]; exact hw⟩
end
end Pu

set_option maxHeartbeats 1000000
/-! all(.. for .. in .. if .. for .. in .. if ..), any(..): two clauses -/
namespace GnX
open PySem PySem.Spec PyProof.Rows L2 GenW GxR
section
variable {t1 t2 it1 it2 elt : Expr} {ifs1 ifs2 : List Expr} {scope : Scope} {pos : Pos}
theorem compTurn_gen2_out (it acc : Value) (env : Env) :
    compTurn (.GeneratorExp elt [⟨t1, it1, ifs1, 0⟩, ⟨t2, it2, ifs2, 0⟩] scope pos) 0 it acc env = (do
      standAt it1.pos
      match ← pyNext it with
      | none => pure (.done .next)
      | some v =>
        letOwnedTupleGo t1 it v
        assign t1 env v
        let mut ok := true
        for c in ifs1 do
          if ok then ok ← isTrue c env (eval c env)
        if ok then
          let x ← eval it2 env
          standAt it2.pos
          let x ← foldedSetIterable it2 env x
          let _ ← runOwn (.compStart (.GeneratorExp elt [⟨t1, it1, ifs1, 0⟩, ⟨t2, it2, ifs2, 0⟩] scope pos) 1 (← holding [x] (pyIter x)) acc env) env
        again (.compLoop (.GeneratorExp elt [⟨t1, it1, ifs1, 0⟩, ⟨t2, it2, ifs2, 0⟩] scope pos) 0 it acc env)) := by rfl
theorem compTurn_gen2_in (it acc : Value) (env : Env) :
    compTurn (.GeneratorExp elt [⟨t1, it1, ifs1, 0⟩, ⟨t2, it2, ifs2, 0⟩] scope pos) 1 it acc env = (do
      standAt it2.pos
      match ← pyNext it with
      | none => pure (.done .next)
      | some v =>
        letOwnedTupleGo t2 it v
        assign t2 env v
        let mut ok := true
        for c in ifs2 do
          if ok then ok ← isTrue c env (eval c env)
        if ok then
          (do let v ← eval elt env; standAt elt.pos; let _ ← yieldOut env v)
        again (.compLoop (.GeneratorExp elt [⟨t1, it1, ifs1, 0⟩, ⟨t2, it2, ifs2, 0⟩] scope pos) 1 it acc env)) := by rfl
theorem eval_GeneratorExp2 (env : Env) (hco : scope.isCoroutine = false) :
    eval (.GeneratorExp elt [⟨t1, it1, ifs1, 0⟩, ⟨t2, it2, ifs2, 0⟩] scope pos) env = (do
      let x ← eval it1 env
      standAt it1.pos
      let x ← genFold it1 env x
      let it ← holding [x] (pyIter x)
      enterFrame
      let cl ← closureFor scope env
      let code ← genexprCode env pos (env.qual ++ "<genexpr>") scope
      let bi ← builtinsFor env.globals env.builtins
      let cenv ← newFunctionEnv scope env.globals cl [(".0", it)] (env.qual ++ "<genexpr>.") none code none bi
      newGenerator (.compStart (.GeneratorExp elt [⟨t1, it1, ifs1, 0⟩, ⟨t2, it2, ifs2, 0⟩] scope pos) 0 it .none cenv) "<genexpr>" (env.qual ++ "<genexpr>")) := by
  rw [arm_eval_GeneratorExp]
  simp only [hco, Bool.false_eq_true, if_false]
  cases it1 <;> rfl
theorem wpAny_GeneratorExp_make2 {M : Model} {A : Around} {E : Value → Shared → Prop} {s : Shared} {env : Env} {cl : List (Str × Addr)} {Q : Value → Shared → Prop}
    (hco : scope.isCoroutine = false) (hclos : closureFor scope env = pure cl) (hcell : ∀ y ∈ scope.names, y.2 ≠ .cell) (h0 : scope.names.lookup (".0" : Str) = some NameKind.local) (hkind : scope.kind = .function)
    (hroom : A.depth < recursionLimit)
    (h : wpAny M A (eval it1 env) (fun xv s₁ => wpAny M A (pyIter xv) (fun it s₂ => s₂.heap.NoLimit ∧
      wpAny M A (genexprCode env pos (env.qual ++ "<genexpr>") scope) (fun code s₃ => wpAny M A (builtinsFor env.globals env.builtins) (fun bi s₄ =>
        ∀ h', h'.Ns s₄.heap.objs.size (fun y => if y = ".0" then some it else none) → Heap.SameBut s₄.heap.objs.size (s₄.heap.push { cls := .type "frame", data := .dict #[] }) h' →
          Q (.ref h'.objs.size) { s₄ with
            gens := s₄.gens.push (.fresh (.compStart (.GeneratorExp elt [⟨t1, it1, ifs1, 0⟩, ⟨t2, it2, ifs2, 0⟩] scope pos) 0 it .none (genEnv scope cl s₄.heap.objs.size code bi env))),
            toks := s₄.toks + 1 + 1 + 1,
            heap := h'.push { cls := .type "generator", data := .fields #[.int s₄.gens.size 0, .str "<genexpr>" (s₄.toks + 1), .str (env.qual ++ "<genexpr>") (s₄.toks + 1 + 1)] } }) E s₃) E s₂) E s₁) E s)
    (hs : ∀ x, genFold it1 env x = pure x) :
    wpAny M A (eval (.GeneratorExp elt [⟨t1, it1, ifs1, 0⟩, ⟨t2, it2, ifs2, 0⟩] scope pos) env) Q E s := by
  rw [eval_GeneratorExp2 _ hco, hclos]
  refine wpAny_bind (wpAny_mono h (fun xv s₁ h₁ => ?_) fun _ _ e => e)
  refine wpAny_bind (wpAny_standAt ?_)
  refine wpAny_bind (wpAny_of_eq (hs xv) ?_)
  refine wpAny_bind (wpAny_holding (wpAny_mono h₁ (fun it s₂ h₂ => ?_) fun _ _ e => e))
  refine wpAny_bind (wpAny_enterFrame h₂.1 hroom ?_)
  refine wpAny_bind (wpAny_pure ?_)
  refine wpAny_bind (wpAny_mono h₂.2 (fun code s₃ h₃ => ?_) fun _ _ e => e)
  refine wpAny_bind (wpAny_mono h₃ (fun bi s₄ h₄ => ?_) fun _ _ e => e)
  have hbinds : ∀ y ∈ ([((".0" : Str), it)] : List (Str × Value)), scope.names.lookup y.1 = some NameKind.local := by
    intro y hy
    rcases List.mem_cons.mp hy with rfl | hy
    · exact h0
    · cases hy
  refine wpAny_bind (wpAny_newFunctionEnv hcell hbinds (fun h' hn' hs' => ?_) hkind)
  have e : (fun y : Str => ([((".0" : Str), it)] : List (Str × Value)).reverse.lookup y) = fun y : Str => if y = (".0" : Str) then some it else none := by
    funext y
    by_cases hy : y = ".0"
    · subst hy; simp
    · have : (y == (".0" : Str)) = false := by simpa using hy
      simp [List.lookup, this, hy]
  rw [e] at hn'
  simp only [newGenerator, newFields]
  refine wpAny_bind (wpAny_newGen (wpAny_bind (wpAny_mkText (wpAny_bind (wpAny_mkText (wpAny_newObj_type ?_ (by size_fits)))))))
  exact h₄ h' hn' hs'
end
/-- the codes of the two loops -/
abbrev gC2 (lv : Nat) (elt tg iter : Expr) (ifs : List Expr) (tg1 iter1 : Expr) (ifs1 : List Expr) (scope : Scope) (gpos : Pos) (it : Addr) (cenv : Env) : Code := .compLoop (.GeneratorExp elt [⟨tg, iter, ifs, 0⟩, ⟨tg1, iter1, ifs1, 0⟩] scope gpos) lv (.ref it) .none cenv
section
variable {A : Around} {elt tg iter tg1 iter1 : Expr} {ifs ifs1 : List Expr} {scope : Scope} {gpos : Pos} {it it1 : Addr} {cenv : Env}
theorem over_out : A.in1.in1.over (gC2 0 elt tg iter ifs tg1 iter1 ifs1 scope gpos it cenv) [] = gA A cenv := by
  unfold gA
  first
    | rfl
    | (obtain ⟨hd, d, fr, gs, u⟩ := A; simp [Around.over, Around.deeper, marksOver, frameCount, unitsOf, envsOf, guardsOf, pushEnvs, pushGuards, Code.envs, Code.env?, Code.isFrame, Code.guards, Code.isGuard, Code.weight, Code.frames, Code.isCreation, Code.isCaller, Code.cUnits])
theorem over_in {k : Result → Sem PySem.Fin} {l kp : List Value} {p : Pos} : A.in1.in1.over (gC2 1 elt tg iter ifs tg1 iter1 ifs1 scope gpos it1 cenv) [.ret k none false l (gC2 0 elt tg iter ifs tg1 iter1 ifs1 scope gpos it cenv) p kp] = gA A cenv := by
  unfold gA
  first
    | rfl
    | (obtain ⟨hd, d, fr, gs, u⟩ := A; simp [Around.over, Around.deeper, marksOver, Frame.marks, markOver, Frame.where_, frameCount, unitsOf, envsOf, guardsOf, pushEnvs, pushGuards, Code.envs, Code.env?, Code.isFrame, Code.guards, Code.isGuard, Code.weight, Code.frames, Code.isCreation, Code.isCaller, Code.cUnits])
end
section
variable {X : Cx} {s3 : Shared} {H3 : Hp} {cenv : Env} {fp fp1 : List Addr} {pn pins : List (Addr × Obj)} {elt tg iter tg1 iter1 : Expr} {ifs ifs1 : List Expr} {scope : Scope} {gpos : Pos} {it it1 : Addr} {J1 : It} {tn1 : Nat → Heap → Prop} {g1 : TG} {tt1 : TT} {te : TE} {σ1 : L2.St} {vs1 : List Nat} {fin : Bool} {Q : VK} {W1 : Nat → Nat → Hp → Prop} {St : Nat → Hp → Prop}
  {kf : Result → Sem PySem.Fin} {lf kp : List Value} {pf : Pos}
/-- the second clause's loop -/
theorem seg_in2 (hc : X.calm = true) (T1 : Turn X.prog X.w X.K tg1 J1 fp1 it1 tn1) (pg1 : PG (genCx X s3 H3 cenv fp pn) tg1 g1) (pt1 : PTs (genCx X s3 H3 cenv fp pn) ifs1 tt1) (pe : PE (genCx X s3 H3 cenv fp pn) elt te) (hco : cenv.scope.isCoroutine = false)
    (stat : ∀ {H' : Hp}, (∀ b ∈ fp1, H' b = none) → ∀ b ∈ fp1, FpOk (genCx X s3 H3 cenv fp pn) pins H' b)
    (turn : ∀ j k H, W1 j k H → (J1.stop j H ∧ St k H) ∨ (J1.go j H ∧ ∃ Nx : Hp → Prop, (∀ H', Nx H' → ∃ k', k' < k ∧ W1 (j + 1) k' H') ∧ ∀ x H', J1.yld j H x H' → g1 x σ1 H' fun σ2 H2 => wipe σ2 vs1 = σ1 ∧ tt1 σ2 H2 fun b H4 =>
      if b = true then te σ2 H4 fun y H5 => ∃ b : Bool, y = .bl b ∧ ((b = fin ∧ Nx H5) ∨ (b ≠ fin ∧ Q (.bl b) H5)) else Nx H4))
    (back : ∀ k H n s₀ s, k < n → St k H → Inv (genCx X s3 H3 cenv fp pn) pins σ1 H s →
      Seg (model X.prog X.w) X.A.in1.in1 (gR (genCx X s3 H3 cenv fp pn) fin Q) (gY (genCx X s3 H3 cenv fp pn) fin Q) n s₀ (gC2 0 elt tg iter ifs tg1 iter1 ifs1 scope gpos it cenv) (kf (.ok .next)) [] s) :
    ∀ (k j : Nat) (H : Hp) (n : Nat) (s₀ s : Shared), k < n → W1 j k H → Inv (genCx X s3 H3 cenv fp pn) pins σ1 H s → tn1 j s.heap → (∀ b ∈ fp1, H b = none) →
      Seg (model X.prog X.w) X.A.in1.in1 (gR (genCx X s3 H3 cenv fp pn) fin Q) (gY (genCx X s3 H3 cenv fp pn) fin Q) n s₀ (gC2 1 elt tg iter ifs tg1 iter1 ifs1 scope gpos it1 cenv)
        ((model X.prog X.w).den (gC2 1 elt tg iter ifs tg1 iter1 ifs1 scope gpos it1 cenv)) [.ret kf none false lf (gC2 0 elt tg iter ifs tg1 iter1 ifs1 scope gpos it cenv) pf kp] s := by
  intro k
  induction k using Nat.strongRecOn with
  | ind k ih =>
  intro j H n s₀ s hkn w I st hn
  show Seg _ X.A.in1.in1 _ _ _ s₀ _ ((compTurn (.GeneratorExp elt [⟨tg, iter, ifs, 0⟩, ⟨tg1, iter1, ifs1, 0⟩] scope gpos) 1 (.ref it1) .none cenv).onRaise (fun x => do noteFrame x cenv; theTreesLotGoes x)) _ s
  rw [compTurn_gen2_in, Sem.onRaise_eq_wrap]
  refine seg_bind_wrap (wpAny_standAt ?_)
  rcases turn j k H w with ⟨stop, qq⟩ | ⟨go, Nx, hNx, step⟩
  · have td := T1.done (genCx X s3 H3 cenv fp pn) rfl rfl rfl hc j pins s σ1 H (fun _ _ => False) I (stat hn) st stop
    refine seg_bind_wrap ?_
    rw [over_in]
    refine wpAny_mono td (fun r s6 ⟨hr, I6⟩ => ?_) fun _ _ z => z.elim
    subst hr
    exact seg_leaf (.ok .next) (back k H n s₀ s6 hkn qq I6)
  · have ti := T1.item (genCx X s3 H3 cenv fp pn) rfl rfl rfl hc j pins s σ1 H (fun _ _ => False) I (stat hn) st go
    refine seg_bind_wrap ?_
    rw [over_in]
    refine wpAny_mono ti (fun r s6 ⟨u, hr, h6⟩ => ?_) fun _ _ z => z.elim
    subst hr
    refine seg_bind_wrap ?_
    rw [over_in]
    refine wpAny_mono h6 (fun _ s7 ⟨x, H7, I7, r7, y7, st7, n7⟩ => ?_) fun _ _ z => z.elim
    have I7' := I7.pinned (stat n7) (T1.obj _ _ st7)
    refine seg_bind_wrap ?_
    rw [over_in]
    refine wpAny_mono (pg1.run _ s7 _ H7 x u _ I7' r7 (step x H7 y7)) (fun _ s8 ⟨σ8, H8, I8, hw8, q8⟩ => ?_) fun _ _ z => (show False from z).elim
    refine seg_bind_wrap ?_
    rw [over_in]
    refine wpAny_mono (pt1.run _ s8 σ8 H8 _ I8 q8) (fun ok s9 ⟨H9, I9, q9⟩ => ?_) fun _ _ z => (show False from z).elim
    have hl : σ1.length = σ8.length := by rw [← hw8, wipe_length]
    -- the turn's end
    have fin1 : ∀ {s' : Shared} {H' : Hp}, Inv (genCx X s3 H3 cenv fp pn) (pins ++ pinsAt fp1 s7.heap) σ8 H' s' → Nx H' → ∃ k', k' < k ∧ W1 (j + 1) k' H' ∧ Inv (genCx X s3 H3 cenv fp pn) pins σ1 H' s' ∧ tn1 (j + 1) s'.heap ∧ ∀ b ∈ fp1, H' b = none := fun {s' H'} I' nx => by
      obtain ⟨k', hk', w'⟩ := hNx H' nx
      have pin' : ∀ b ∈ fp1, ∀ o, s7.heap.get? b = some o → s'.heap.get? b = some o ∧ H' b = none := fun b hb o e =>
        let z := I'.pin (b, o) (List.mem_append_right _ (List.mem_append_right _ (mem_pinsAt hb e)))
        ⟨z.1, z.2.1⟩
      refine ⟨k', hk', w', I'.unpinned.weak hl (fun j v e => by rw [← hw8] at e; exact (wipe_some e).1), T1.keep _ _ _ st7 fun b hb o e => (pin' b hb o e).1, fun b hb => ?_⟩
      obtain ⟨o, e, _⟩ := T1.obj _ _ st7 b hb
      exact (pin' b hb o e).2
    cases ok with
    | false =>
      simp only [Bool.false_eq_true, if_false] at q9 ⊢
      obtain ⟨k', hk', w', I', st', n'⟩ := fin1 I9 q9
      exact seg_again rfl (ih k' hk' (j + 1) H9 n s₀ s9 (Nat.lt_trans hk' hkn) w' I' st' n')
    | true =>
      simp only [if_true] at q9 ⊢
      have hy : ∀ v, yieldOut cenv v = yieldValue v := fun v => by simp only [yieldOut, hco, Bool.false_eq_true, if_false]
      simp only [hy]
      rw [Sem.bind_eq_wrap', Sem.bind_eq_wrap', Sem.wrap_wrap, Sem.wrap_wrap]
      refine seg_wrap ?_
      rw [over_in]
      refine wpAny_mono (pe.run _ s9 σ8 H9 _ I9 q9) (fun v s10 ⟨yv, H10, I10, r10, b, eb, q10⟩ => ?_) fun _ _ z => (show False from z).elim
      subst eb
      obtain rfl : v = Value.bool b := r10
      obtain ⟨n', rfl⟩ : ∃ n', n = n' + 1 := ⟨n - 1, by omega⟩
      refine seg_at (seg_yield rfl rfl rfl ⟨b, σ8, H10, rfl, (I10.unpinned (pins := pins)).unpinned (pins := []), ?_⟩)
      rcases q10 with ⟨e, nx⟩ | ⟨e, q⟩
      · refine .inl ⟨e, fun s'' z => ?_⟩
        obtain ⟨k', hk', w', I', st', n1⟩ := fin1 I10 nx
        exact seg_again rfl (ih k' hk' (j + 1) H10 n' s'' s'' (by omega) w' (inv_slp I' z) (T1.keep _ _ _ st' fun b hb o e => z.keep b o e) n1)
      · exact .inr ⟨e, q⟩
end

section
variable {X : Cx} {s3 : Shared} {H3 : Hp} {cenv : Env} {fp : List Addr} {pn : List (Addr × Obj)} {elt tg iter tg1 iter1 : Expr} {ifs ifs1 : List Expr} {scope : Scope} {gpos : Pos} {it : Addr} {J : It} {tn : Nat → Heap → Prop} {g g1 : TG} {tt tt1 : TT} {wi1 : TI} {te : TE} {σ0 : L2.St} {vs vs1 : List Nat} {fin : Bool} {Q : VK} {W : Nat → Nat → Hp → Prop}
/-- what a turn of the first clause owes -/
def turn2 (fin : Bool) (Q : VK) (J : It) (g : TG) (tt : TT) (wi1 : TI) (g1 : TG) (tt1 : TT) (te : TE) (vs vs1 : List Nat) (σ0 : L2.St) (W : Nat → Nat → Hp → Prop) : Prop := ∀ i m H, W i m H →
  (J.stop i H ∧ Q (.bl fin) H) ∨ (J.go i H ∧ ∃ Nx : Nat → Hp → Prop, (∀ k H', Nx k H' → ∃ m', m' < k ∧ W (i + 1) m' H') ∧ ∀ x H', J.yld i H x H' → g x σ0 H' fun σ2 H2 => wipe σ2 vs = σ0 ∧ tt σ2 H2 fun b H4 =>
    if b = true then wi1 σ2 H4 fun J1 H5 => ∃ W1 : Nat → Nat → Hp → Prop, (∃ k, k < m ∧ W1 0 k H5) ∧ ∀ j k H, W1 j k H →
      (J1.stop j H ∧ Nx k H) ∨ (J1.go j H ∧ ∃ Nx1 : Hp → Prop, (∀ H', Nx1 H' → ∃ k', k' < k ∧ W1 (j + 1) k' H') ∧ ∀ x H', J1.yld j H x H' → g1 x (wipe σ2 vs1) H' fun σ3 H6 => wipe σ3 vs1 = wipe σ2 vs1 ∧ tt1 σ3 H6 fun b H7 =>
        if b = true then te σ3 H7 fun y H8 => ∃ b : Bool, y = .bl b ∧ ((b = fin ∧ Nx1 H8) ∨ (b ≠ fin ∧ Q (.bl b) H8)) else Nx1 H7)
    else Nx m H4)
/-- the first clause's loop -/
theorem seg_out2 (hc : X.calm = true) (T : Turn X.prog X.w X.K tg J fp it tn) (pg : PG (genCx X s3 H3 cenv fp pn) tg g) (pt : PTs (genCx X s3 H3 cenv fp pn) ifs tt) (pi1 : PI (genCx X s3 H3 cenv fp pn) tg1 iter1 wi1) (pg1 : PG (genCx X s3 H3 cenv fp pn) tg1 g1) (pt1 : PTs (genCx X s3 H3 cenv fp pn) ifs1 tt1)
    (pe : PE (genCx X s3 H3 cenv fp pn) elt te) (hs1 : ∀ x, foldedSetIterable iter1 cenv x = pure x) (hco : cenv.scope.isCoroutine = false) (hpn : ∀ p ∈ pn, p.1 ∉ fp) (hv : ∀ i ∈ vs1, i ∈ vs)
    (turn : turn2 fin Q J g tt wi1 g1 tt1 te vs vs1 σ0 W) :
    ∀ (m i : Nat) (H : Hp) (n : Nat) (s₀ s : Shared), m < n → W i m H → Inv (genCx X s3 H3 cenv fp pn) [] σ0 H s → tn i s.heap → (∀ b ∈ fp, H b = none) →
      Seg (model X.prog X.w) X.A.in1.in1 (gR (genCx X s3 H3 cenv fp pn) fin Q) (gY (genCx X s3 H3 cenv fp pn) fin Q) n s₀ (gC2 0 elt tg iter ifs tg1 iter1 ifs1 scope gpos it cenv) ((model X.prog X.w).den (gC2 0 elt tg iter ifs tg1 iter1 ifs1 scope gpos it cenv)) [] s := by
  have stat : ∀ {σ' : L2.St} {H' : Hp} {s' : Shared}, Inv (genCx X s3 H3 cenv fp pn) [] σ' H' s' → (∀ b ∈ fp, H' b = none) → ∀ b ∈ fp, FpOk (genCx X s3 H3 cenv fp pn) [] H' b := fun {σ' H' s'} I' hn b hb =>
    ⟨hn b hb, (I'.ok.exf b hb).1, I'.ok.exfs b hb, .inl hb, fun x c e => (I'.ok.exf b hb).2 x c e, fun p hp e => by
      have hp : p ∈ pn ++ [] := hp
      rw [List.append_nil] at hp
      exact hpn p hp (by rw [e]; exact hb)⟩
  intro m
  induction m using Nat.strongRecOn with
  | ind m ih =>
  intro i H n s₀ s hmn w I st hn
  show Seg _ X.A.in1.in1 _ _ _ s₀ _ ((compTurn (.GeneratorExp elt [⟨tg, iter, ifs, 0⟩, ⟨tg1, iter1, ifs1, 0⟩] scope gpos) 0 (.ref it) .none cenv).onRaise (leaving cenv)) [] s
  rw [compTurn_gen2_out, Sem.onRaise_eq_wrap]
  refine seg_bind_wrap (wpAny_standAt ?_)
  rcases turn i m H w with ⟨stop, qq⟩ | ⟨go, Nx, hNx, step⟩
  · have td := T.done (genCx X s3 H3 cenv fp pn) rfl rfl rfl hc i [] s σ0 H (fun _ _ => False) I (stat I hn) st stop
    refine seg_bind_wrap ?_
    rw [over_out]
    refine wpAny_mono td (fun r s6 ⟨hr, I6⟩ => ?_) fun _ _ z => z.elim
    subst hr
    exact seg_end (.ok .next) ⟨rfl, σ0, H, I6, qq⟩
  · have ti := T.item (genCx X s3 H3 cenv fp pn) rfl rfl rfl hc i [] s σ0 H (fun _ _ => False) I (stat I hn) st go
    refine seg_bind_wrap ?_
    rw [over_out]
    refine wpAny_mono ti (fun r s6 ⟨u, hr, h6⟩ => ?_) fun _ _ z => z.elim
    subst hr
    refine seg_bind_wrap ?_
    rw [over_out]
    refine wpAny_mono h6 (fun _ s7 ⟨x, H7, I7, r7, y7, st7, n7⟩ => ?_) fun _ _ z => z.elim
    have I7' := I7.pinned (stat I7 n7) (T.obj _ _ st7)
    refine seg_bind_wrap ?_
    rw [over_out]
    refine wpAny_mono (pg.run _ s7 _ H7 x u _ I7' r7 (step x H7 y7)) (fun _ s8 ⟨σ8, H8, I8, hw8, q8⟩ => ?_) fun _ _ z => (show False from z).elim
    refine seg_bind_wrap ?_
    rw [over_out]
    refine wpAny_mono (pt.run _ s8 σ8 H8 _ I8 q8) (fun ok s9 ⟨H9, I9, q9⟩ => ?_) fun _ _ z => (show False from z).elim
    have hl : σ0.length = σ8.length := by rw [← hw8, wipe_length]
    have hk8 : ∀ (j : Nat) v, σ0[j]? = some (some v) → σ8[j]? = some (some v) := fun j v e => by
      rw [← hw8] at e
      exact (wipe_some e).1
    have hk9 : ∀ (j : Nat) v, σ0[j]? = some (some v) → (wipe σ8 vs1)[j]? = some (some v) := fun j v e => by
      rw [← hw8] at e
      obtain ⟨e1, e2⟩ := wipe_some e
      rw [wipe_out fun z => e2 (hv j z)]
      exact e1
    -- the turn's end, from any slots that know what was known at its start
    have fin0 : ∀ {σ9 : L2.St} {s' : Shared} {H' : Hp} {k : Nat}, Inv (genCx X s3 H3 cenv fp pn) ([] ++ pinsAt fp s7.heap) σ9 H' s' → σ0.length = σ9.length → (∀ (j : Nat) v, σ0[j]? = some (some v) → σ9[j]? = some (some v)) → Nx k H' →
        ∃ m', m' < k ∧ W (i + 1) m' H' ∧ Inv (genCx X s3 H3 cenv fp pn) [] σ0 H' s' ∧ tn (i + 1) s'.heap ∧ ∀ b ∈ fp, H' b = none := fun {σ9 s' H' k} I' hl hk nx => by
      obtain ⟨m', hm, w'⟩ := hNx k H' nx
      have pin' : ∀ b ∈ fp, ∀ o, s7.heap.get? b = some o → s'.heap.get? b = some o ∧ H' b = none := fun b hb o e =>
        let z := I'.pin (b, o) (List.mem_append_right _ (List.mem_append_right _ (mem_pinsAt hb e)))
        ⟨z.1, z.2.1⟩
      refine ⟨m', hm, w', (I'.unpinned (pins := [])).weak hl hk, T.keep _ _ _ st7 fun b hb o e => (pin' b hb o e).1, fun b hb => ?_⟩
      obtain ⟨o, e, _⟩ := T.obj _ _ st7 b hb
      exact (pin' b hb o e).2
    cases ok with
    | false =>
      simp only [Bool.false_eq_true, if_false] at q9 ⊢
      obtain ⟨m', hm', w', I', st', n'⟩ := fin0 I9 hl hk8 q9
      exact seg_again rfl (ih m' hm' (i + 1) H9 n s₀ s9 (Nat.lt_trans hm' hmn) w' I' st' n')
    | true =>
      simp only [if_true] at q9 ⊢
      refine seg_bind_wrap ?_
      rw [over_out]
      refine wpAny_mono (pi1.run _ s9 σ8 H9 _ I9 q9) (fun xv s10 hx => ?_) fun _ _ z => (show False from z).elim
      refine seg_bind_wrap (wpAny_standAt ?_)
      refine seg_bind_wrap (wpAny_of_eq (hs1 xv) ?_)
      refine seg_bind_wrap (wpAny_holding ?_)
      rw [over_out]
      refine wpAny_mono hx (fun itv s11 h11 => ?_) fun _ _ z => (show False from z).elim
      obtain ⟨it1, fp1, tn1, J1, H11, e1, I11, T1, st11, f11, W1, ⟨k1, hk1, w1⟩, turn1⟩ := h11
      subst e1
      have loop1 : ∀ {kf : Result → Sem PySem.Fin} {lf kp : List Value} {pf : Pos}, (∀ k s', (∀ n s₀, k < n → (∃ m', m' < k ∧ ∃ H', W (i + 1) m' H' ∧ Inv (genCx X s3 H3 cenv fp pn) [] σ0 H' s' ∧ tn (i + 1) s'.heap ∧ ∀ b ∈ fp, H' b = none) → k ≤ m → Seg (model X.prog X.w) X.A.in1.in1 (gR (genCx X s3 H3 cenv fp pn) fin Q) (gY (genCx X s3 H3 cenv fp pn) fin Q) n s₀ (gC2 0 elt tg iter ifs tg1 iter1 ifs1 scope gpos it cenv) (kf (.ok .next)) [] s')) →
          Seg (model X.prog X.w) X.A.in1.in1 (gR (genCx X s3 H3 cenv fp pn) fin Q) (gY (genCx X s3 H3 cenv fp pn) fin Q) n s₀ (gC2 1 elt tg iter ifs tg1 iter1 ifs1 scope gpos it1 cenv)
            ((model X.prog X.w).den (gC2 1 elt tg iter ifs tg1 iter1 ifs1 scope gpos it1 cenv)) [.ret kf none false lf (gC2 0 elt tg iter ifs tg1 iter1 ifs1 scope gpos it cenv) pf kp] s11 := fun {kf lf kp pf} hkf =>
        seg_in2 (σ1 := wipe σ8 vs1) (vs1 := vs1) (W1 := fun j k H => k < m ∧ W1 j k H) (St := fun k H => k < m ∧ Nx k H) hc T1 pg1 pt1 pe hco (fun hn b hb => ⟨hn b hb, (f11 b hb).2⟩)
          (fun j k H ⟨hkm, w⟩ => by
            rcases turn1 j k H w with ⟨a, b⟩ | ⟨a, Nx1, b, c⟩
            · exact .inl ⟨a, hkm, b⟩
            · exact .inr ⟨a, Nx1, fun H' nx => let ⟨k', h1, h2⟩ := b H' nx; ⟨k', h1, Nat.lt_trans h1 hkm, h2⟩, c⟩)
          (fun k H n s₀ s hkn ⟨hkm, nx⟩ I' => by
            obtain ⟨m', hm', w', I'', st', n'⟩ := fin0 I' (hl.trans (wipe_length σ8 vs1).symm) hk9 nx
            exact hkf k s n s₀ hkn ⟨m', hm', H, w', I'', st', n'⟩ (Nat.le_of_lt hkm))
          k1 0 H11 n s₀ s11 (Nat.lt_trans hk1 hmn) ⟨hk1, w1⟩ (I11.weak (wipe_length _ _) (fun j v e => (wipe_some e).1)) st11 (fun b hb => (f11 b hb).1)
      have after : ∀ k s', (∀ n s₀, k < n → (∃ m', m' < k ∧ ∃ H', W (i + 1) m' H' ∧ Inv (genCx X s3 H3 cenv fp pn) [] σ0 H' s' ∧ tn (i + 1) s'.heap ∧ ∀ b ∈ fp, H' b = none) → k ≤ m → Seg (model X.prog X.w) X.A.in1.in1 (gR (genCx X s3 H3 cenv fp pn) fin Q) (gY (genCx X s3 H3 cenv fp pn) fin Q) n s₀ (gC2 0 elt tg iter ifs tg1 iter1 ifs1 scope gpos it cenv) (.pure (.again (gC2 0 elt tg iter ifs tg1 iter1 ifs1 scope gpos it cenv))) [] s') := fun k s' n s₀ hkn ⟨m', hm', H', w', I', st', n'⟩ hkm =>
        seg_again rfl (ih m' (by omega) (i + 1) H' n s₀ s' (by omega) w' I' st' n')
      rw [Sem.bind_eq_wrap', Sem.wrap_wrap]
      refine seg_call fun p => ?_
      show Seg _ X.A.in1.in1 _ _ _ s₀ _ ((compStart (.GeneratorExp elt [⟨tg, iter, ifs, 0⟩, ⟨tg1, iter1, ifs1, 0⟩] scope gpos) 1 (.ref it1) .none cenv).onRaise (fun x => do noteFrame x cenv; standAt theWindowsPlace)) _ s11
      unfold compStart
      rw [Sem.onRaise_eq_wrap]
      show Seg _ X.A.in1.in1 _ _ _ s₀ _ ((ask >>= _).wrap _ _ _ _) _ s11
      refine seg_bind_wrap (wpAny_askSetting ?_)
      split
      · exact seg_again rfl (loop1 after)
      · refine seg_bind_wrap (wpAny_rule ?_)
        show Seg _ X.A.in1.in1 _ _ _ s₀ _ ((standAt iter1.pos >>= _).wrap _ _ _ _) _ s11
        exact seg_bind_wrap (wpAny_standAt (seg_bind_wrap (T1.self _ 0 s11 _ _ st11 (seg_again rfl (loop1 after)))))
theorem seg_begin2 {n : Nat} {s₀ s : Shared} (T : Turn X.prog X.w X.K tg J fp it tn) (st : tn 0 s.heap)
    (loop : Seg (model X.prog X.w) X.A.in1.in1 (gR (genCx X s3 H3 cenv fp pn) fin Q) (gY (genCx X s3 H3 cenv fp pn) fin Q) n s₀ (gC2 0 elt tg iter ifs tg1 iter1 ifs1 scope gpos it cenv) ((model X.prog X.w).den (gC2 0 elt tg iter ifs tg1 iter1 ifs1 scope gpos it cenv)) [] s) :
    Seg (model X.prog X.w) X.A.in1.in1 (gR (genCx X s3 H3 cenv fp pn) fin Q) (gY (genCx X s3 H3 cenv fp pn) fin Q) n s₀ (.compStart (.GeneratorExp elt [⟨tg, iter, ifs, 0⟩, ⟨tg1, iter1, ifs1, 0⟩] scope gpos) 0 (.ref it) .none cenv)
      ((model X.prog X.w).den (.compStart (.GeneratorExp elt [⟨tg, iter, ifs, 0⟩, ⟨tg1, iter1, ifs1, 0⟩] scope gpos) 0 (.ref it) .none cenv)) [] s := by
  show Seg _ X.A.in1.in1 _ _ _ s₀ _ ((compStart (.GeneratorExp elt [⟨tg, iter, ifs, 0⟩, ⟨tg1, iter1, ifs1, 0⟩] scope gpos) 0 (.ref it) .none cenv).onRaise (leaving cenv)) [] s
  unfold compStart
  rw [Sem.onRaise_eq_wrap]
  show Seg _ X.A.in1.in1 _ _ _ s₀ _ ((ask >>= _).wrap _ _ _ _) [] s
  refine seg_bind_wrap (wpAny_askSetting ?_)
  split
  · exact seg_again rfl loop
  · first
      | exact seg_bind_wrap (wpAny_rule (seg_bind_wrap (wpAny_standAt (seg_bind_wrap (T.self _ 0 s _ _ st (seg_again rfl loop))))))
      | (refine seg_bind_wrap (wpAny_rule ?_); show Seg _ X.A.in1.in1 _ _ _ s₀ _ ((standAt iter.pos >>= _).wrap _ _ _ _) [] s; exact seg_bind_wrap (wpAny_standAt (seg_bind_wrap (T.self _ 0 s _ _ st (seg_again rfl loop)))))
end
/-- all (fin = true) or any (fin = false) of truths handed out; P: the running def's table -/
def tAskG2 (P : Addr) (fin : Bool) (wi : TI) (g : TG) (tt : TT) (wi1 : TI) (g1 : TG) (tt1 : TT) (te : TE) (vs vs1 : List Nat) : TE := fun σ H Q => wi σ H fun J H1 => TabG H1 P ∧ ∀ H2, Tabbed P H1 H2 → ∃ W : Nat → Nat → Hp → Prop, (∃ m, W 0 m H2) ∧ turn2 fin Q J g tt wi1 g1 tt1 te vs vs1 (wipe σ vs) W
section
variable {X : Cx} {c P : Addr} {elt tg iter tg1 iter1 : Expr} {ifs ifs1 : List Expr} {vs1 : List Nat} {tt tt1 : TT} {wi1 : TI} {g1 : TG} {scope : Scope} {own : List (Str × Nat)} {gpos : Pos} {wi : TI} {g : TG} {te : TE} {k : Nat} {pins : List (Addr × Obj)} {σ : L2.St} {H : Hp} {s : Shared} {Q : VK} {fin : Bool} {Q' : Value → Shared → Prop}
/-- the generator is made -/
theorem made2 (hr : Room (k + 1) X.A) (hc : X.calm = true) (hN : X.N.Nodup) (TB : TabB X.base X.mg c P) (hcode : X.env.code = .ref c) (ok : BlkOk X.N X.env.scope scope own) (hcell : ∀ y ∈ scope.names, y.2 ≠ .cell) (h0 : scope.names.lookup (".0" : Str) = some NameKind.local) (hco : scope.isCoroutine = false)
    (hi : PI X tg iter wi) (hg : ∀ (s : Shared) (H : Hp) (C : Addr) (code : Value) (fp : List Addr) (pn : List (Addr × Obj)), PG (genCx X s H (genE X scope C code) fp pn) tg g) (htt : ∀ (s : Shared) (H : Hp) (C : Addr) (code : Value) (fp : List Addr) (pn : List (Addr × Obj)), PTs (genCx X s H (genE X scope C code) fp pn) ifs tt) (hi1 : ∀ (s : Shared) (H : Hp) (C : Addr) (code : Value) (fp : List Addr) (pn : List (Addr × Obj)), PI (genCx X s H (genE X scope C code) fp pn) tg1 iter1 wi1) (hg1 : ∀ (s : Shared) (H : Hp) (C : Addr) (code : Value) (fp : List Addr) (pn : List (Addr × Obj)), PG (genCx X s H (genE X scope C code) fp pn) tg1 g1) (ht1 : ∀ (s : Shared) (H : Hp) (C : Addr) (code : Value) (fp : List Addr) (pn : List (Addr × Obj)), PTs (genCx X s H (genE X scope C code) fp pn) ifs1 tt1) (hs1 : ∀ env x, foldedSetIterable iter1 env x = pure x) (hv : ∀ i ∈ vs1, i ∈ own.map (·.2)) (he : ∀ (s : Shared) (H : Hp) (C : Addr) (code : Value) (fp : List Addr) (pn : List (Addr × Obj)), PE (genCx X s H (genE X scope C code) fp pn) elt te)
    (hs : ∀ v, genFold iter X.env v = pure v) (I : Inv X pins σ H s) (h : tAskG2 P fin wi g tt wi1 g1 tt1 te (own.map (·.2)) vs1 σ H Q)
    (hQ : ∀ (a : Addr) (gn : Nat) (n : Nat) (s3 : Shared) (H3 : Hp) (cenv : Env) (fp : List Addr) (pn : List (Addr × Obj)) (s5 : Shared), s5.heap.IsGen a gn → s5.heap.NoLimit → (∀ σ' H' s', Inv (genCx X s3 H3 cenv fp pn) [] σ' H' s' → s'.heap.IsGen a gn) →
      (∀ σ' H' s', Inv (genCx X s3 H3 cenv fp pn) [] σ' H' s' → Inv X pins σ H' s') →
      (∃ gs, s5.gens[gn]? = some gs ∧ gs.Goes (model X.prog X.w) X.A.in1.in1 (gR (genCx X s3 H3 cenv fp pn) fin Q) (gY (genCx X s3 H3 cenv fp pn) fin Q) n (.send .none) (s5.setGen gn .running)) → Q' (.ref a) s5) :
    wpAny (model X.prog X.w) X.A (eval (.GeneratorExp elt [⟨tg, iter, ifs, 0⟩, ⟨tg1, iter1, ifs1, 0⟩] scope gpos) X.env) Q' X.xe s := by
  have hfree : ∀ y ∈ scope.names, y.2 = .free → ∃ c, X.env.cells.lookup y.1 = some c := fun y hy e => by
    rcases ok.free y hy e with k | k
    · exact I.ok.has _ (.inl k)
    · exact I.ok.has _ (.inr k)
  refine wpAny_GeneratorExp_make2 hco (closure_ok hfree) hcell h0 ok.kind hr.depth ?_ hs
  refine thn (hi.run pins s σ H _ I h) fun xv s1 hx => thn hx fun itv s2 h2 => ?_
  obtain ⟨it, fp, tn, J, H2, e, I2, T, st2, f2, ⟨ps, hP, ht⟩, q⟩ := h2
  subst e
  have hPs : s2.heap.get? P = some { cls := .none, data := .fields ps } := I2.hok P _ hP
  have cd : PySem.W.CodeHd s2.heap c P := TB.code.keeps I2.bk
  have fpP : ∀ b ∈ fp, b ≠ P := fun b hb e => by
    have := (f2 b hb).1
    rw [e, hP] at this
    cases this
  have cont : ∀ (code : Value) (h3 : Heap) (tk : Nat) (ps' : Array Value), Heap.ExtBut P s2.heap h3 → s2.heap.objs.size ≤ h3.objs.size → h3.get? P = some { cls := .none, data := .fields ps' } → (∃ more, ps' = ps ++ more) → TriplesOk ps'.toList →
      wpAny (model X.prog X.w) X.A (builtinsFor X.env.globals X.env.builtins) (fun bi s₄ =>
        ∀ h', h'.Ns s₄.heap.objs.size (fun y => if y = ".0" then some (.ref it) else none) → Heap.SameBut s₄.heap.objs.size (s₄.heap.push { cls := .type "frame", data := .dict #[] }) h' →
          Q' (.ref h'.objs.size) { s₄ with
            gens := s₄.gens.push (.fresh (.compStart (.GeneratorExp elt [⟨tg, iter, ifs, 0⟩, ⟨tg1, iter1, ifs1, 0⟩] scope gpos) 0 (.ref it) .none (genEnv scope (cloFrom X.env.cells scope.names []) s₄.heap.objs.size code bi X.env))),
            toks := s₄.toks + 1 + 1 + 1,
            heap := h'.push { cls := .type "generator", data := .fields #[.int s₄.gens.size 0, .str "<genexpr>" (s₄.toks + 1), .str (X.env.qual ++ "<genexpr>") (s₄.toks + 1 + 1)] } }) X.xe { s2 with heap := h3, toks := tk } := by
    intro code h3 tk ps' hx hsz hP3 hmore ht3
    obtain ⟨more, em⟩ := hmore
    obtain ⟨bm, ob, e1, e2, e3, e4, e5, e6, e7, e8⟩ := TB.bm
    have keep3 : ∀ b u, b ≠ P → s2.heap.get? b = some u → h3.get? b = some u := fun b u hb e => hx b u hb e
    refine wpAny_builtinsFor (m := X.mg) (by rw [I2.ok.glob]; exact ((I2.mod.glob.keeps I2.bk)).extBut hx TB.gP) e1 e2 (keep3 _ _ e4 (I2.bk _ _ e5)) e6 e7 e8 ?_
    have I3 : Inv X pins σ (upd H2 P (.tbl (ps ++ more))) { s2 with heap := h3, toks := tk } := inv_tab (more := more) (g' := s2.gens) (d' := s2.drawn) (t' := tk) I2 hP keep3 (by rw [← em]; exact hP3) I2.bare
    have tb : Tabbed P H2 (upd H2 P (.tbl (ps ++ more))) := ⟨⟨ps ++ more, upd_same, by rw [← em]; exact ht3⟩, fun b hb => upd_ne hb⟩
    obtain ⟨W, ⟨m0, w0⟩, turn⟩ := q _ tb
    have lt2 : ∀ b ∈ fp, b < s2.heap.objs.size := fun b hb => by
      obtain ⟨o, e, _⟩ := T.obj _ _ st2 b hb
      exact Heap.lt_size e
    have f3 : ∀ b ∈ fp, FpOk X pins (upd H2 P (.tbl (ps ++ more))) b ∧ b < h3.objs.size := fun b hb => by
      refine ⟨⟨?_, (f2 b hb).2⟩, Nat.lt_of_lt_of_le (lt2 b hb) hsz⟩
      rw [upd_ne (fpP b hb)]
      exact (f2 b hb).1
    generalize hs3 : ({ s2 with heap := h3, toks := tk } : Shared) = s3 at I3 ⊢
    have h33 : s3.heap = h3 := by rw [← hs3]
    rw [← h33] at f3
    intro h' hn' hs'
    have I5 := gen_start (code := code) (G := s3.gens.push (.fresh (.compStart (.GeneratorExp elt [⟨tg, iter, ifs, 0⟩, ⟨tg1, iter1, ifs1, 0⟩] scope gpos) 0 (.ref it) .none (genE X scope s3.heap.objs.size code)))) (tk := s3.toks + 1 + 1 + 1)
      (go := { cls := .type "generator", data := .fields #[.int s3.gens.size 0, .str "<genexpr>" (s3.toks + 1), .str (X.env.qual ++ "<genexpr>") (s3.toks + 1 + 1)] }) I3 ok hcell hN f3 hn' hs' (fun v z => by cases z) (Heap.get?_push_size _ rfl) (AllBare.push I3.bare rfl)
    have hsz' : h'.objs.size = s3.heap.objs.size + 1 := by rw [hs'.1, Heap.size_push]
    have isgen : ∀ σ' H' s', Inv (genCx X s3 (upd H2 P (.tbl (ps ++ more))) (genE X scope s3.heap.objs.size code) fp [(h'.objs.size, { cls := .type "generator", data := .fields #[.int s3.gens.size 0, .str "<genexpr>" (s3.toks + 1), .str (X.env.qual ++ "<genexpr>") (s3.toks + 1 + 1)] })]) [] σ' H' s' → s'.heap.IsGen h'.objs.size s3.gens.size := fun σ' H' s' J' =>
      ⟨_, _, _, (J'.pin (h'.objs.size, _) (List.mem_append_left _ (List.mem_singleton.mpr rfl))).1, rfl, rfl, rfl⟩
    have keep5 : ∀ b o, s3.heap.get? b = some o → (h'.push { cls := .type "generator", data := .fields #[.int s3.gens.size 0, .str "<genexpr>" (s3.toks + 1), .str (X.env.qual ++ "<genexpr>") (s3.toks + 1 + 1)] }).get? b = some o := fun b o e => Heap.get?_push_of_some _ (hs'.extBut b o (Nat.ne_of_lt (Heap.lt_size e)) (Heap.get?_push_of_some _ e))
    have st3 : tn 0 s3.heap := T.keep _ _ _ st2 fun b hb o e => by rw [h33]; exact keep3 b o (fpP b hb) e
    have st5 := T.keep _ _ _ st3 fun b hb o e => keep5 b o e
    refine hQ h'.objs.size s3.gens.size (m0 + 1) s3 _ (genE X scope s3.heap.objs.size code) fp _ _ (isgen _ _ _ I5) I5.nolimit isgen (fun σ' H' s' J' => ?_) ⟨_, Array.getElem?_push_size .., rfl, ?_⟩
    · exact I3.call' (ch := fp) J'.os J'.base J'.hok J'.bare fun b hb => ⟨(f3 b hb).1.2.2.2.1, (f3 b hb).1.2.1, (f3 b hb).1.2.2.2.2.1, (f3 b hb).1.2.2.2.2.2⟩
    · refine seg_begin2 (J := J) T ?_ (seg_out2 (W := W) hc T (hg s3 _ s3.heap.objs.size code fp _) (htt s3 _ s3.heap.objs.size code fp _) (hi1 s3 _ s3.heap.objs.size code fp _) (hg1 s3 _ s3.heap.objs.size code fp _) (ht1 s3 _ s3.heap.objs.size code fp _) (he s3 _ s3.heap.objs.size code fp _) (hs1 _) hco ?_ hv turn m0 0 _ (m0 + 1) _ _ (Nat.lt_succ_self _) w0 (inv_slp I5 ⟨rfl, allBare_setGen I5.bare rfl, fun _ _ e => e⟩) ?_ fun b hb => (f3 b hb).1.1)
      · exact st5
      · intro p hp z
        rw [List.mem_singleton.mp hp] at z
        have := (f3 _ z).2
        rw [hsz'] at this
        exact absurd (Nat.lt_trans (Nat.lt_succ_self _) this) (Nat.lt_irrefl _)
      · exact st5
  refine ⟨I2.nolimit, ?_⟩
  cases hf : codeAmong gpos ps.toList with
  | none =>
    refine wpAny_genexprCodeX hcode (cd.code hPs ht) (cd.tab hPs) hf fun c' h' tk hx hge hlt hco' _ htab' _ => ?_
    obtain ⟨o1, vs, f1, tf, fl, tg, inF, tx, tt, op, _, _, _, _, _, _, _, _, _, htr, _⟩ := hco'
    exact cont _ h' tk _ hx (Nat.le_trans hge (Nat.le_of_lt hlt)) htab'.2 ⟨_, rfl⟩ htr
  | some cv =>
    refine wpAny_genexprCode_hit hcode (cd.code hPs ht) hf ?_
    exact cont cv s2.heap s2.toks ps (Heap.ExtBut.refl _ _) (Nat.le_refl _) hPs ⟨#[], by simp⟩ ht
end
section
variable {X : Cx} {c P : Addr} {elt tg iter tg1 iter1 : Expr} {ifs ifs1 : List Expr} {vs1 : List Nat} {tt tt1 : TT} {wi1 : TI} {g1 : TG} {scope : Scope} {own : List (Str × Nat)} {p pos gpos : Pos} {wi : TI} {g : TG} {te : TE} {k : Nat}
theorem pe_allG2 (hr : Room (k + 1) X.A) (hc : X.calm = true) (hN : X.N.Nodup) (hgl : Gl X "all") (hm : X.mg "all" = none) (TB : TabB X.base X.mg c P) (hcode : X.env.code = .ref c) (ok : BlkOk X.N X.env.scope scope own) (hcell : ∀ y ∈ scope.names, y.2 ≠ .cell) (h0 : scope.names.lookup (".0" : Str) = some NameKind.local) (hco : scope.isCoroutine = false)
    (hi : PI X tg iter wi) (hg : ∀ (s : Shared) (H : Hp) (C : Addr) (code : Value) (fp : List Addr) (pn : List (Addr × Obj)), PG (genCx X s H (genE X scope C code) fp pn) tg g) (htt : ∀ (s : Shared) (H : Hp) (C : Addr) (code : Value) (fp : List Addr) (pn : List (Addr × Obj)), PTs (genCx X s H (genE X scope C code) fp pn) ifs tt) (hi1 : ∀ (s : Shared) (H : Hp) (C : Addr) (code : Value) (fp : List Addr) (pn : List (Addr × Obj)), PI (genCx X s H (genE X scope C code) fp pn) tg1 iter1 wi1) (hg1 : ∀ (s : Shared) (H : Hp) (C : Addr) (code : Value) (fp : List Addr) (pn : List (Addr × Obj)), PG (genCx X s H (genE X scope C code) fp pn) tg1 g1) (ht1 : ∀ (s : Shared) (H : Hp) (C : Addr) (code : Value) (fp : List Addr) (pn : List (Addr × Obj)), PTs (genCx X s H (genE X scope C code) fp pn) ifs1 tt1) (hs1 : ∀ env x, foldedSetIterable iter1 env x = pure x) (hv : ∀ i ∈ vs1, i ∈ own.map (·.2)) (he : ∀ (s : Shared) (H : Hp) (C : Addr) (code : Value) (fp : List Addr) (pn : List (Addr × Obj)), PE (genCx X s H (genE X scope C code) fp pn) elt te)
    (hs : ∀ v, genFold iter X.env v = pure v := by intro _; rfl)
    (hst : starEach [.GeneratorExp elt [⟨tg, iter, ifs, 0⟩, ⟨tg1, iter1, ifs1, 0⟩] scope gpos] X.env = (false, eval (.GeneratorExp elt [⟨tg, iter, ifs, 0⟩, ⟨tg1, iter1, ifs1, 0⟩] scope gpos) X.env) :: starEach [] X.env := by rfl) :
    PE X (.Call (.Name "all" p) [.GeneratorExp elt [⟨tg, iter, ifs, 0⟩, ⟨tg1, iter1, ifs1, 0⟩] scope gpos] [] pos) (tAskG2 P true wi g tt wi1 g1 tt1 te (own.map (·.2)) vs1) := by
  refine ⟨fun pins s σ H Q I h => ?_⟩
  refine wpAny_Call_Name_kw (ld_blt I hgl hm (u := .builtin "all") (by first | rfl | decide +kernel) ?_ (by first | decide +kernel | decide) (by first | decide +kernel | decide))
  refine PyProof.Rows.callWith_builtin1 ?_ hst (by rfl)
  rw [hst]
  show wpAny _ _ (spliced ((false, eval (.GeneratorExp elt [⟨tg, iter, ifs, 0⟩, ⟨tg1, iter1, ifs1, 0⟩] scope gpos) X.env) :: backTo pos (starEach [] X.env))) _ _ s
  refine Calls.spliced_cons (made2 hr hc hN TB hcode ok hcell h0 hco hi hg htt hi1 hg1 ht1 hs1 hv he hs I h fun a gn n s3 H3 cenv fp pn s5 i1 i2 i3 i4 i5 => ?_)
  refine Calls.spliced_nil ?_
  refine call_function_tree F.kind_all F.plain_all F.entry_all (F.args_all1 _) ?_
  unfold Builtin.«all»
  refine wpAny_bind (m := oneArg "all" _) (wpAny_pure ?_)
  refine wpAny_bind (wpAny_pyIter_gen i1 ?_)
  exact wpAny_pure ⟨plainId_quiet F.plain_all_loop _, all_loop hr.hd hr.depth i3 (fun b σ' H' s' J' q => ⟨.bl b, H', i4 σ' H' s' J', rfl, q⟩) n s5 i1 i2 i5⟩
theorem pe_anyG2 (hr : Room (k + 1) X.A) (hc : X.calm = true) (hN : X.N.Nodup) (hgl : Gl X "any") (hm : X.mg "any" = none) (TB : TabB X.base X.mg c P) (hcode : X.env.code = .ref c) (ok : BlkOk X.N X.env.scope scope own) (hcell : ∀ y ∈ scope.names, y.2 ≠ .cell) (h0 : scope.names.lookup (".0" : Str) = some NameKind.local) (hco : scope.isCoroutine = false)
    (hi : PI X tg iter wi) (hg : ∀ (s : Shared) (H : Hp) (C : Addr) (code : Value) (fp : List Addr) (pn : List (Addr × Obj)), PG (genCx X s H (genE X scope C code) fp pn) tg g) (htt : ∀ (s : Shared) (H : Hp) (C : Addr) (code : Value) (fp : List Addr) (pn : List (Addr × Obj)), PTs (genCx X s H (genE X scope C code) fp pn) ifs tt) (hi1 : ∀ (s : Shared) (H : Hp) (C : Addr) (code : Value) (fp : List Addr) (pn : List (Addr × Obj)), PI (genCx X s H (genE X scope C code) fp pn) tg1 iter1 wi1) (hg1 : ∀ (s : Shared) (H : Hp) (C : Addr) (code : Value) (fp : List Addr) (pn : List (Addr × Obj)), PG (genCx X s H (genE X scope C code) fp pn) tg1 g1) (ht1 : ∀ (s : Shared) (H : Hp) (C : Addr) (code : Value) (fp : List Addr) (pn : List (Addr × Obj)), PTs (genCx X s H (genE X scope C code) fp pn) ifs1 tt1) (hs1 : ∀ env x, foldedSetIterable iter1 env x = pure x) (hv : ∀ i ∈ vs1, i ∈ own.map (·.2)) (he : ∀ (s : Shared) (H : Hp) (C : Addr) (code : Value) (fp : List Addr) (pn : List (Addr × Obj)), PE (genCx X s H (genE X scope C code) fp pn) elt te)
    (hs : ∀ v, genFold iter X.env v = pure v := by intro _; rfl)
    (hst : starEach [.GeneratorExp elt [⟨tg, iter, ifs, 0⟩, ⟨tg1, iter1, ifs1, 0⟩] scope gpos] X.env = (false, eval (.GeneratorExp elt [⟨tg, iter, ifs, 0⟩, ⟨tg1, iter1, ifs1, 0⟩] scope gpos) X.env) :: starEach [] X.env := by rfl) :
    PE X (.Call (.Name "any" p) [.GeneratorExp elt [⟨tg, iter, ifs, 0⟩, ⟨tg1, iter1, ifs1, 0⟩] scope gpos] [] pos) (tAskG2 P false wi g tt wi1 g1 tt1 te (own.map (·.2)) vs1) := by
  refine ⟨fun pins s σ H Q I h => ?_⟩
  refine wpAny_Call_Name_kw (ld_blt I hgl hm (u := .builtin "any") (by first | rfl | decide +kernel) ?_ (by first | decide +kernel | decide) (by first | decide +kernel | decide))
  refine PyProof.Rows.callWith_builtin1 ?_ hst (by rfl)
  rw [hst]
  show wpAny _ _ (spliced ((false, eval (.GeneratorExp elt [⟨tg, iter, ifs, 0⟩, ⟨tg1, iter1, ifs1, 0⟩] scope gpos) X.env) :: backTo pos (starEach [] X.env))) _ _ s
  refine Calls.spliced_cons (made2 hr hc hN TB hcode ok hcell h0 hco hi hg htt hi1 hg1 ht1 hs1 hv he hs I h fun a gn n s3 H3 cenv fp pn s5 i1 i2 i3 i4 i5 => ?_)
  refine Calls.spliced_nil ?_
  refine call_function_tree F.kind_any F.plain_any F.entry_any (F.args_any1 _) ?_
  unfold Builtin.«any»
  refine wpAny_bind (m := oneArg "any" _) (wpAny_pure ?_)
  refine wpAny_bind (wpAny_pyIter_gen i1 ?_)
  exact wpAny_pure ⟨plainId_quiet F.plain_any_loop _, any_loop hr.hd hr.depth i3 (fun b σ' H' s' J' q => ⟨.bl b, H', i4 σ' H' s' J', rfl, q⟩) n s5 i1 i2 i5⟩
end
end GnX
namespace Pu
open PySem PySem.Spec PyProof.Rows L2
variable [Tbs]
open GnX GxR
def askIn (fin : Bool) (pg : PGt) (pt : PTs') (pe : PX) (env : List SV) (k : D → Prop) (rest : Prop) : List D → Prop
  | [] => rest
  | d :: ds => pg d env fun env1 => pt env1 fun b => if b = true then pe env1 fun r => match r with
      | .bl b => if b = fin then askIn fin pg pt pe env k rest ds else k (.bl b)
      | _ => False
    else askIn fin pg pt pe env k rest ds
def askP2 (fin : Bool) (vs1 : List Nat) (pg : PGt) (pt : PTs') (pi1 : PIt) (pg1 : PGt) (pt1 : PTs') (pe : PX) (env : List SV) (k : D → Prop) : List D → Prop
  | [] => k (.bl fin)
  | d :: ds => pg d env fun env1 => pt env1 fun b => if b = true then pi1 env1 fun ds1 => noOwn env1 vs1 ∧ ds1.length ≤ 100000 ∧ askIn fin pg1 pt1 pe (wipeE env1 vs1) k (askP2 fin vs1 pg pt pi1 pg1 pt1 pe env k ds) ds1
    else askP2 fin vs1 pg pt pi1 pg1 pt1 pe env k ds
def eAsk2 (fin : Bool) (vs vs1 : List Nat) (pi : PIt) (pg : PGt) (pt : PTs') (pi1 : PIt) (pg1 : PGt) (pt1 : PTs') (pe : PX) : PX := fun env k => pi env fun ds => noOwn env vs ∧ askP2 fin vs1 pg pt pi1 pg1 pt1 pe (wipeE env vs) k ds
theorem re_ask2 {P : Addr} {fin : Bool} {wi wi1 : TI} {pi pi1 : PIt} {js js1 vs vs1 : List Nat} {g g1 : TG} {pg pg1 : PGt} {tt tt1 : TT} {pt pt1 : PTs'} {te : TE} {pe : PX} (hP : P ∈ Tbs.tb) (hi : RI wi pi) (hg : RG js g pg) (hj : ∀ i ∈ js, i ∈ vs) (ht : RT tt pt) (hi1 : RI wi1 pi1) (hg1 : RG js1 g1 pg1) (hj1 : ∀ i ∈ js1, i ∈ vs1) (ht1 : RT tt1 pt1) (he : RE .b te pe) :
    RE .e (tAskG2 P fin wi g tt wi1 g1 tt1 te vs vs1) (eAsk2 fin vs vs1 pi pg pt pi1 pg1 pt1 pe) := fun z X H0 H σ env Q k o c hp => by
  refine hi z X H0 H σ env _ _ o (fun ds J H1 e1 yl hx => ?_) hp
  obtain ⟨hn, hx⟩ := hx
  have o1 := o.go e1
  refine ⟨o1.tab P hP, fun H2 tb => ?_⟩
  have e2 : Evo z H1 H2 := evo_tab hP o1.tab tb
  refine ⟨fun i mm H' => mm = (ds.length - i) * 100003 ∧ i ≤ ds.length ∧ Evo z H1 H' ∧ askP2 fin vs1 pg pt pi1 pg1 pt1 pe (wipeE env vs) k (ds.drop i), ⟨_, rfl, Nat.zero_le _, e2, by simpa using hx⟩, ?_⟩
  rintro i mm H' ⟨rfl, hil, e', hk⟩
  have oL := o1.go e'
  obtain ⟨y1, y2⟩ := yl _ _ (o1.fr e')
  by_cases hlt : i < ds.length
  · obtain ⟨go, y3⟩ := y2 i ds[i] (List.getElem?_eq_getElem hlt)
    rw [List.drop_eq_getElem_cons hlt] at hk
    have hB : (ds.length - i) * 100003 = (ds.length - (i + 1)) * 100003 + 100003 := by
      have : ds.length - i = (ds.length - (i + 1)) + 1 := by omega
      rw [this, Nat.add_mul, Nat.one_mul]
    obtain ⟨B, hB'⟩ : ∃ B, (ds.length - (i + 1)) * 100003 = B := ⟨_, rfl⟩
    rw [hB'] at hB
    generalize hR : askP2 fin vs1 pg pt pi1 pg1 pt1 pe (wipeE env vs) k (ds.drop (i + 1)) = R
    refine .inr ⟨go, fun kk H2 => B < kk ∧ Evo z H1 H2 ∧ R, fun kk H2 h2 => ⟨B, h2.1, hB'.symm, hlt, h2.2.1, by rw [hR]; exact h2.2.2⟩, fun x H2 hy => ?_⟩
    obtain ⟨e3, is⟩ := y3 x H2 hy
    have oL2 := oL.go e3
    obtain ⟨oW, sub⟩ := oL2.wipe (vs := vs)
    refine hg z X H0 H2 _ _ x _ _ _ oW ((is (fun a q => .inl q) (fun b q => oL.notMs q)).weak sub) (fun env3 σ3 o3 f3 kp hx3 => ⟨wipe_eq kp hj, ?_⟩) hk
    refine ht z X H0 H2 σ3 env3 _ _ o3 (fun b H3 e4 hx4 => ?_) hx3
    have e14 := e'.trans (e3.trans e4)
    rw [hR] at hx4
    cases b with
    | false =>
      rw [if_neg Bool.false_ne_true] at hx4 ⊢
      exact ⟨by rw [hB]; omega, e14, hx4⟩
    | true =>
      rw [if_pos rfl] at hx4 ⊢
      refine hi1 z X H0 H3 σ3 env3 _ _ (o3.go e4) (fun ds1 J1 H5 e5 yl1 hx5 => ?_) hx4
      obtain ⟨hn1, hb1, hx5⟩ := hx5
      have o5 := (o3.go e4).go e5
      refine ⟨fun j kk H' => kk = B + 1 + (ds1.length - j) ∧ j ≤ ds1.length ∧ Evo z H5 H' ∧ askIn fin pg1 pt1 pe (wipeE env3 vs1) k R (ds1.drop j), ⟨B + 1 + ds1.length, by rw [hB]; omega, by simp, Nat.zero_le _, Evo.refl _ _, by simpa using hx5⟩, ?_⟩
      rintro j kk H6 ⟨rfl, hjl, e6, hk6⟩
      obtain ⟨y1, y2⟩ := yl1 _ _ (o5.fr e6)
      have o6 := o5.go e6
      by_cases hlt1 : j < ds1.length
      · obtain ⟨go, y3⟩ := y2 j ds1[j] (List.getElem?_eq_getElem hlt1)
        rw [List.drop_eq_getElem_cons hlt1] at hk6
        refine .inr ⟨go, fun H' => Evo z H5 H' ∧ askIn fin pg1 pt1 pe (wipeE env3 vs1) k R (ds1.drop (j + 1)), fun H' h' => ⟨B + 1 + (ds1.length - (j + 1)), by omega, rfl, hlt1, h'⟩, fun x H7 hy => ?_⟩
        obtain ⟨e7, is⟩ := y3 x H7 hy
        have o7 := o6.go e7
        obtain ⟨oW, sub⟩ := o7.wipe (vs := vs1)
        refine hg1 z X H0 H7 _ _ x _ _ _ oW ((is (fun a q => .inl q) (fun b q => o6.notMs q)).weak sub) (fun env8 σ8 o8 f8 kp8 hx8 => ⟨wipe_eq kp8 hj1, ?_⟩) hk6
        refine ht1 z X H0 H7 σ8 env8 _ _ o8 (fun b H8 e8 hx9 => ?_) hx8
        have e68 := e6.trans (e7.trans e8)
        cases b with
        | false =>
          rw [if_neg Bool.false_ne_true] at hx9 ⊢
          exact ⟨e68, hx9⟩
        | true =>
          rw [if_pos rfl] at hx9 ⊢
          refine he z X H0 H8 σ8 env8 _ _ (o8.go e8) (fun r y H9 e9 r9 hx10 => ?_) hx9
          cases r with
          | bl b =>
            cases (show Is z (Zx z X) H9 y (.bl b) from r9)
            refine ⟨b, rfl, ?_⟩
            replace hx10 : (if b = fin then askIn fin pg1 pt1 pe (wipeE env3 vs1) k R (ds1.drop (j + 1)) else k (.bl b)) := hx10
            by_cases hb : b = fin
            · exact .inl ⟨hb, e68.trans e9, by rw [if_pos hb] at hx10; exact hx10⟩
            · exact .inr ⟨hb, c (.bl b) (.bl b) H9 (e1.trans (e14.trans (e5.trans (e68.trans e9)))) (.bl b) (by rw [if_neg hb] at hx10; exact hx10)⟩
          | _ => exact (show False from hx10).elim
      · have ei : j = ds1.length := by omega
        subst ei
        rw [List.drop_length] at hk6
        exact .inl ⟨y1, by omega, (e14.trans e5).trans e6, hk6⟩
  · have ei : i = ds.length := by omega
    subst ei
    rw [List.drop_length] at hk
    exact .inl ⟨y1, c (.bl fin) (.bl fin) H' (e1.trans e') (.bl fin) hk⟩
section
variable {C : Cx} {c P : Addr} {elt tg iter tg1 iter1 : Expr} {ifs ifs1 : List Expr} {scope : Scope} {own : List (Str × Nat)} {p pos gpos : Pos} {pi pi1 : PIt} {js js1 vs1 : List Nat} {g g1 : TG} {pg pg1 : PGt} {pt pt1 : PTs'} {pe : PX} {k : Nat}
theorem e_all2 (hr : Room (k + 1) C.A) (hi : I C tg iter pi) (hg : ∀ (s : Shared) (H : Hp) (Ca : Addr) (code : Value) (fp : List Addr) (pn : List (Addr × Obj)), G (genCx C s H (genE C scope Ca code) fp pn) tg js g pg)
    (ht : ∀ (s : Shared) (H : Hp) (Ca : Addr) (code : Value) (fp : List Addr) (pn : List (Addr × Obj)), Room k (genCx C s H (genE C scope Ca code) fp pn).A → Ts (genCx C s H (genE C scope Ca code) fp pn) ifs pt)
    (hi1 : ∀ (s : Shared) (H : Hp) (Ca : Addr) (code : Value) (fp : List Addr) (pn : List (Addr × Obj)), Room k (genCx C s H (genE C scope Ca code) fp pn).A → I (genCx C s H (genE C scope Ca code) fp pn) tg1 iter1 pi1)
    (hg1 : ∀ (s : Shared) (H : Hp) (Ca : Addr) (code : Value) (fp : List Addr) (pn : List (Addr × Obj)), G (genCx C s H (genE C scope Ca code) fp pn) tg1 js1 g1 pg1)
    (ht1 : ∀ (s : Shared) (H : Hp) (Ca : Addr) (code : Value) (fp : List Addr) (pn : List (Addr × Obj)), Room k (genCx C s H (genE C scope Ca code) fp pn).A → Ts (genCx C s H (genE C scope Ca code) fp pn) ifs1 pt1)
    (he : ∀ (s : Shared) (H : Hp) (Ca : Addr) (code : Value) (fp : List Addr) (pn : List (Addr × Obj)), Room k (genCx C s H (genE C scope Ca code) fp pn).A → E .b (genCx C s H (genE C scope Ca code) fp pn) elt pe) (hc : C.calm = true) (hN : C.N.Nodup)
    (hgl : Gl C "all") (hm : C.mg "all" = none) (TB : TabB C.base C.mg c P) (hP : P ∈ Tbs.tb) (hcode : C.env.code = .ref c) (ok : BlkOk C.N C.env.scope scope own) (gc : genC scope = true) (hj : ∀ i ∈ js, i ∈ own.map (·.2)) (hj1 : ∀ i ∈ js1, i ∈ vs1) (hv : ∀ i ∈ vs1, i ∈ own.map (·.2)) (rg : RG js g pg) (rg1 : RG js1 g1 pg1) (hs : ∀ v, genFold iter C.env v = pure v := by intro _; rfl)
    (hs1 : ∀ env x, foldedSetIterable iter1 env x = pure x := by intro _ _; rfl)
    (hst : starEach [.GeneratorExp elt [⟨tg, iter, ifs, 0⟩, ⟨tg1, iter1, ifs1, 0⟩] scope gpos] C.env = (false, eval (.GeneratorExp elt [⟨tg, iter, ifs, 0⟩, ⟨tg1, iter1, ifs1, 0⟩] scope gpos) C.env) :: starEach [] C.env := by rfl) :
    E .e C (.Call (.Name "all" p) [.GeneratorExp elt [⟨tg, iter, ifs, 0⟩, ⟨tg1, iter1, ifs1, 0⟩] scope gpos] [] pos) (eAsk2 true (own.map (·.2)) vs1 pi pg pt pi1 pg1 pt1 pe) :=
  ⟨_, pe_allG2 hr hc hN hgl hm TB hcode ok (genC_of gc).1 (genC_of gc).2.1 (genC_of gc).2.2 hi.pi (fun s H Ca code fp pn => (hg s H Ca code fp pn).pg) (fun s H Ca code fp pn => (ht s H Ca code fp pn (room_gen hr _)).ex) (fun s H Ca code fp pn => (hi1 s H Ca code fp pn (room_gen hr _)).pi) (fun s H Ca code fp pn => (hg1 s H Ca code fp pn).pg) (fun s H Ca code fp pn => (ht1 s H Ca code fp pn (room_gen hr _)).ex) hs1 hv (fun s H Ca code fp pn => (he s H Ca code fp pn (room_gen hr _)).pe) hs hst,
    re_ask2 hP ri_tP rg hj rt_tP ri_tP rg1 hj1 rt_tP re_tP⟩
end
/-! ### readings -/
theorem askIn_i {fin : Bool} {pg : PGt} {pt : PTs'} {pe : PX} {env : List SV} {k : D → Prop} {rest : Prop} {α : Type} (f : α → D) (v : α → Bool) : ∀ (l : List α), (∀ x ∈ l, ∀ (k' : D → Prop) (R : Prop), (k' (.bl fin) → R) → ((∀ b : Bool, b = fin → k' (.bl b) = R)) → (if v x = true then R else k' (.bl (!fin))) → pg (f x) env fun env1 => pt env1 fun b => if b = true then pe env1 k' else R) →
    (if l.all v = true then rest else k (.bl (!fin))) → askIn fin pg pt pe env k rest (l.map f)
  | [], _, h => h
  | x :: l, hs, h => by
    refine hs x List.mem_cons_self _ _ (fun q => ?_) (fun b hb => ?_) ?_
    · have q : (if fin = fin then askIn fin pg pt pe env k rest (l.map f) else k (.bl fin)) := q
      rwa [if_pos rfl] at q
    · show (if b = fin then askIn fin pg pt pe env k rest (l.map f) else k (.bl b)) = _
      rw [if_pos hb]
    · by_cases e : v x = true
      · rw [if_pos e]
        rw [List.all_cons, e, Bool.true_and] at h
        exact askIn_i f v l (fun y hy => hs y (List.mem_cons_of_mem _ hy)) h
      · rw [if_neg e]
        rw [List.all_cons, if_neg (by rw [Bool.and_eq_true]; exact fun q => e q.1)] at h
        show (if (!fin) = fin then askIn fin pg pt pe env k rest (l.map f) else k (.bl (!fin)))
        rw [if_neg (by cases fin <;> simp)]
        exact h
theorem askP2_i {fin : Bool} {vs1 : List Nat} {pg pg1 : PGt} {pt pt1 : PTs'} {pi1 : PIt} {pe : PX} {env : List SV} {k : D → Prop} {α : Type} (f : α → D) (v : α → Bool) : ∀ (l : List α), (∀ x ∈ l, ∀ R : Prop, (if v x = true then R else k (.bl (!fin))) → pg (f x) env fun env1 => pt env1 fun b => if b = true then pi1 env1 fun ds1 => noOwn env1 vs1 ∧ ds1.length ≤ 100000 ∧ askIn fin pg1 pt1 pe (wipeE env1 vs1) k R ds1 else R) →
    k (.bl (l.all v == fin)) → askP2 fin vs1 pg pt pi1 pg1 pt1 pe env k (l.map f)
  | [], _, h => by cases fin <;> exact h
  | x :: l, hs, h => by
    refine hs x List.mem_cons_self _ ?_
    by_cases e : v x = true
    · rw [if_pos e]
      rw [List.all_cons, e, Bool.true_and] at h
      exact askP2_i f v l (fun y hy => hs y (List.mem_cons_of_mem _ hy)) h
    · rw [if_neg e]
      have e' : v x = false := by simpa using e
      rw [List.all_cons, e', Bool.false_and] at h
      cases fin <;> exact h
/-! a comprehension over an owned list into a plain name -/
section
variable {C : Cx} {fr : Bool} {tg elt : Expr} {ifs : List Expr} {js : List Nat} {g : TG} {pg : PGt} {pt : PTs'} {pe : PX} {scope : Scope} {own : List (Str × Nat)} {pos pq : Pos}
theorem s_setLcO {i q : Nat} {x y : Str} {py spos : Pos} (hg : ∀ (s : Shared) (H : Hp) (Ca : Addr) (cl : List (Str × Addr)) (fp : List Addr), G (C.blk s H scope (compEnvC scope cl Ca C.env) fp) tg js g pg) (ht : ∀ (s : Shared) (H : Hp) (Ca : Addr) (cl : List (Str × Addr)) (fp : List Addr), Ts (C.blk s H scope (compEnvC scope cl Ca C.env) fp) ifs pt)
    (he : ∀ (s : Shared) (H : Hp) (Ca : Addr) (cl : List (Str × Addr)) (fp : List Addr), E .e (C.blk s H scope (compEnvC scope cl Ca C.env) fp) elt pe) (hc : C.calm = true) (hN : C.N.Nodup) (hy : C.N[i]? = some y) (hyl : C.env.scope.names.lookup y = some .local)
    (hsw : swapsWith (.ListComp elt [⟨tg, .Name x pq, ifs, 0⟩] scope pos) (some (.Name y py)) spos.line C.env = pure true) (ok : BlkOk C.N C.env.scope scope own) (hj : ∀ i ∈ js, i ∈ own.map (·.2)) (rg : RG js g pg) (hs : ∀ v, foldedSetIterable (.Name x pq) C.env v = pure v := by intro _; rfl)
    (hNq : C.N[q]? = some x := by rfl) (hv : Vis C.env.scope x := by first | exact Or.inl rfl | exact Or.inr (Or.inl rfl) | exact Or.inr (Or.inr rfl)) (hd : (x == ("__debug__" : Str)) = false := by decide) (hcd : (x == ("__classdict__" : Str)) = false := by decide) :
    S fr C (.Assign [.Name y py] (.ListComp elt [⟨tg, .Name x pq, ifs, 0⟩] scope pos) spos) (sSet i (eLcO q (own.map (·.2)) pg pt pe)) :=
  ⟨_, ps_setLc hc hN hy hyl hsw (pi_list (pe_var hNq hv hd hcd)) ok (fun s H Ca cl fp => (hg s H Ca cl fp).pg) (fun s H Ca cl fp => (ht s H Ca cl fp).ex) (fun s H Ca cl fp => (he s H Ca cl fp).pe) hs, rs_set (RE.fe' (re_lcO rg hj rt_tP re_tP))⟩
end
end Pu

namespace Pu
open PySem PySem.Spec PyProof.Rows L2
section
variable [Tbs]
/-! ### repr of a thing of any kind: None, truths, numbers, texts, tuples, lists, {} -/
mutual
def pe : D → PyData
  | .non => .none
  | .bl b => .bool b
  | .int i => .int i
  | .str s => .str s
  | .tup xs => .tuple (peA xs)
  | .lst xs => .list (peA xs)
  | .dic [(.inr s, .int i)] => .dict [(.str s, .int i)]
  | .dic _ => .dict []
  | .ty _ => .none
  | .deck _ => .none
  | .dpr _ => .none
  | .dfz _ => .none
  | .st _ => .none
  | .bor _ => .none
  | .opq _ => .none
def peA : List D → List PyData
  | [] => []
  | x :: xs => pe x :: peA xs
end
mutual
def she : D → Bool
  | .non => true
  | .bl _ => true
  | .int _ => true
  | .str _ => true
  | .tup xs => sheA xs
  | .lst xs => sheA xs
  | .dic [] => true
  | .dic [(.inr _, .int _)] => true
  | .dic _ => false
  | .ty _ => false
  | .deck _ => false
  | .dpr _ => false
  | .dfz _ => false
  | .st _ => false
  | .bor _ => false
  | .opq _ => false
def sheA : List D → Bool
  | [] => true
  | x :: xs => she x && sheA xs
end
mutual
/-- no list in it -/
def nol : PyData → Bool
  | .list _ => false
  | .tuple xs => nolA xs
  | .none => true
  | .bool _ => true
  | .int _ => true
  | .str _ => true
  | .dict _ => true
def nolA : List PyData → Bool
  | [] => true
  | x :: xs => nol x && nolA xs
end
mutual
inductive De (H : Hp) : V → PyData → Prop
  | non : De H .non .none
  | bl (b : Bool) : De H (.bl b) (.bool b)
  | int (i : Int) : De H (.int i) (.int i)
  | str (x : Str) : De H (.str x) (.str x)
  | lst {a : Addr} {xs : List V} {ds : List PyData} : H a = some (.lst xs) → DeA H xs ds → De H (.ref a) (.list ds)
  | tup {a : Addr} {xs : List V} {ds : List PyData} : H a = some (.tup xs) → DeA H xs ds → De H (.ref a) (.tuple ds)
  | emp {a : Addr} : H a = some (.dK []) → De H (.ref a) (.dict [])
  | one {a : Addr} {x : Str} {i : Int} : H a = some (.dK [(.inr x, .int i)]) → De H (.ref a) (.dict [(.str x, .int i)])
inductive DeA (H : Hp) : List V → List PyData → Prop
  | nil : DeA H [] []
  | cons {v : V} {vs : List V} {d : PyData} {ds : List PyData} : De H v d → DeA H vs ds → DeA H (v :: vs) (d :: ds)
end
section
variable {z : Zn} {M : Addr → Prop} {H : Hp}
theorem dic_de {a : Addr} {vs : List (Key × V)} {kvs : List (Key × D)} (e : H a = some (.dK vs)) (r : IsK z M H vs kvs) (h : she (.dic kvs) = true) : De H (.ref a) (pe (.dic kvs)) := by
  match kvs, r, h with
  | [], r, _ =>
    cases r
    simp only [pe]
    exact .emp e
  | [(.inr s, .int i)], r, _ =>
    cases r with
    | cons q r' =>
      cases q
      cases r'
      simp only [pe]
      exact .one e
  | (.inl _, _) :: _, r, h => simp [she] at h
  | (.inr _, .int _) :: _ :: _, r, h => simp [she] at h
  | (.inr _, .non) :: _, r, h => simp [she] at h
  | (.inr _, .bl _) :: _, r, h => simp [she] at h
  | (.inr _, .str _) :: _, r, h => simp [she] at h
  | (.inr _, .ty _) :: _, r, h => simp [she] at h
  | (.inr _, .tup _) :: _, r, h => simp [she] at h
  | (.inr _, .lst _) :: _, r, h => simp [she] at h
  | (.inr _, .dic _) :: _, r, h => simp [she] at h
  | (.inr _, .deck _) :: _, r, h => simp [she] at h
  | (.inr _, .dpr _) :: _, r, h => simp [she] at h
  | (.inr _, .dfz _) :: _, r, h => simp [she] at h
  | (.inr _, .st _) :: _, r, h => simp [she] at h
  | (.inr _, .bor _) :: _, r, h => simp [she] at h
  | (.inr _, .opq _) :: _, r, h => simp [she] at h
mutual
theorem Is.de : ∀ {v : V} {d : D}, Is z M H v d → she d = true → De H v (pe d)
  | _, _, .non, _ => by simp only [pe]; exact .non
  | _, _, .bl b, _ => by simp only [pe]; exact .bl b
  | _, _, .int b, _ => by simp only [pe]; exact .int b
  | _, _, .str b, _ => by simp only [pe]; exact .str b
  | _, _, .tup e _ r, h => by simp only [pe]; exact .tup e (IsA.de r (by simpa only [she] using h))
  | _, _, .lst e _ r, h => by simp only [pe]; exact .lst e (IsA.de r (by simpa only [she] using h))
  | _, _, .dic e _ r, h => dic_de e r h
  | _, _, .ty b, h => by simp [she] at h
  | _, _, .deck _, h => by simp [she] at h
  | _, _, .dpr _ _, h => by simp [she] at h
  | _, _, .dfz _ _, h => by simp [she] at h
  | _, _, .st _ _ _, h => by simp [she] at h
  | _, _, .bor _ _ _, h => by simp [she] at h
  | _, _, .opq _, h => by simp [she] at h
theorem IsA.de : ∀ {vs : List V} {ds : List D}, IsA z M H vs ds → sheA ds = true → DeA H vs (peA ds)
  | _, _, .nil, _ => by simp only [peA]; exact .nil
  | _, _, .cons q t, h => by
    simp only [sheA, Bool.and_eq_true] at h
    simp only [peA]
    exact .cons (Is.de q h.1) (IsA.de t h.2)
end
end
section
variable {X : Cx} {pins : List (Addr × Obj)} {σ : L2.St} {H : Hp} {s : Shared}
mutual
theorem De.reads (I : Inv X pins σ H s) : ∀ {v : V} {d : PyData}, De H v d → ∀ {u : Value}, RelV v u → ∃ as, Reads s.heap u d as ∧ (nol d = true → sysModules ∉ as)
  | _, _, .non, _, r => by
    cases r
    exact ⟨_, Reads.none, fun _ => List.not_mem_nil⟩
  | _, _, .bl b, _, r => by
    cases r
    exact ⟨_, Reads.bool b, fun _ => List.not_mem_nil⟩
  | _, _, .int i, _, r => by
    obtain ⟨t, rfl⟩ := r
    exact ⟨_, Reads.int i t, fun _ => List.not_mem_nil⟩
  | _, _, .str x, _, r => by
    obtain ⟨t, rfl⟩ := r
    exact ⟨_, Reads.str x t, fun _ => List.not_mem_nil⟩
  | _, _, .lst e ha, _, r => by
    cases r
    obtain ⟨_, its, n, rv, ho⟩ := I.hok _ _ e
    obtain ⟨as, hr, _⟩ := DeA.reads I ha rv
    exact ⟨_, Reads.list ho rfl rfl hr, fun h => by simp [nol] at h⟩
  | _, _, .tup e ha, _, r => by
    cases r
    obtain ⟨_, its, rv, ho⟩ := I.hok _ _ e
    obtain ⟨as, hr, hn⟩ := DeA.reads I ha rv
    obtain ⟨o, h1, h2, n, h3⟩ := ho
    exact ⟨_, Reads.tuple h1 h2 h3 hr, fun h => hn (by simpa only [nol] using h)⟩
  | _, _, .emp e, _, r => by
    cases r
    obtain ⟨_, hne, vs, kv, o, es, ep, h1, h2, h3, _, h4, _⟩ := I.hok _ _ e
    cases kv
    have e0 : es.toList = [] := by
      generalize es.toList = l at h4
      cases h4
      rfl
    refine ⟨_, Reads.dict (kvs := []) (as := []) (bs := []) h1 h2.1 h3 (by rw [e0]; exact .nil) (by rw [e0]; exact .nil), fun _ => ?_⟩
    have := beq_eq_false_iff_ne.mp hne
    simp only [List.append_nil, List.mem_cons, List.not_mem_nil, or_false]
    exact fun q => this q.symm
  | _, _, .one (x := x) (i := i) e, _, r => by
    cases r
    obtain ⟨_, hne, vs, kv, o, es, ep, h1, h2, h3, _, h4, _⟩ := I.hok _ _ e
    obtain ⟨b1, hb1⟩ : ∃ b1, vs = [b1] := by
      cases kv with
      | cons q r => cases r; exact ⟨_, rfl⟩
    subst hb1
    obtain ⟨b, v⟩ := b1
    cases kv with
    | cons q r =>
      obtain ⟨q1, t, q2⟩ := q
      dsimp only at q1 q2
      subst q1 q2
      obtain ⟨l, hx⟩ : ∃ l, es.toList = l := ⟨_, rfl⟩
      rw [hx] at h4
      cases h4 with
      | cons k1 k2 k3 =>
        cases k3
        rename_i e1
        dsimp only at k1 k2
        obtain ⟨t2, hk⟩ : ∃ t2, e1.key = .str x t2 := by
          rcases keyIs_shape (show keyIs (.inr x) e1.key = true from k1) with ⟨i', t', q, _⟩ | ⟨x', t', q, q2⟩
          · cases q
          · cases q; exact ⟨_, q2⟩
        refine ⟨_, Reads.dict (kvs := [(.str x, .int i)]) h1 h2.1 h3 (by rw [hx]; simp only [List.map_cons, List.map_nil, hk]; exact .cons (.str _ _) .nil) (by rw [hx]; simp only [List.map_cons, List.map_nil, k2]; exact .cons (.int _ _) .nil), fun _ => ?_⟩
        have := beq_eq_false_iff_ne.mp hne
        simp only [List.append_nil, List.mem_cons, List.not_mem_nil, or_false]
        exact fun q => this q.symm
theorem DeA.reads (I : Inv X pins σ H s) : ∀ {vs : List V} {ds : List PyData}, DeA H vs ds → ∀ {us : List Value}, Vals vs us → ∃ as, ReadsAll s.heap us ds as ∧ (nolA ds = true → sysModules ∉ as)
  | _, _, .nil, _, r => by
    cases r
    exact ⟨_, ReadsAll.nil, fun _ => List.not_mem_nil⟩
  | _, _, .cons h1 h2, _, r => by
    cases r with
    | cons r1 r2 =>
      obtain ⟨as, q1, n1⟩ := De.reads I h1 r1
      obtain ⟨bs, q2, n2⟩ := DeA.reads I h2 r2
      refine ⟨_, ReadsAll.cons q1 q2, fun h => ?_⟩
      simp only [nolA, Bool.and_eq_true] at h
      rw [List.mem_append]
      exact fun q => q.elim (n1 h.1) (n2 h.2)
end
end
def rReprA : List V → Hp → VK → Prop := fun xs H Q => ∃ (v : V) (d : PyData), xs = [v] ∧ De H v d ∧ (d.hasDict = false ∨ nol d = true) ∧ d.showable = true ∧ d.depth ≤ 61 ∧ d.shown.length ≤ sizeLine ∧ Q (.str d.shown) H
theorem cr_reprA {X : Cx} (hg : X.A.guards = some []) (hu : X.A.units + 65 < cLine) : CallR X (.builtin "repr") rReprA := by
  intro pins s σ H xs us Q I r h
  obtain ⟨v, d, rfl, hd, h1, h2, h3, h4, q⟩ := h
  cases r with
  | cons r1 r2 =>
    cases r2
    obtain ⟨as, rd, hn⟩ := hd.reads I r1
    have hs : d.hasDict = true → sysModules ∉ as := fun w => h1.elim (fun e => absurd (e.symm.trans w) Bool.false_ne_true) fun e => hn e
    cases rd with
    | none => exact P.repr_of_none ⟨.str _, H, I.kept fun _ _ e => e, ⟨_, rfl⟩, q⟩
    | bool b => exact P.repr_of_bool ⟨.str _, H, I.kept fun _ _ e => e, ⟨_, rfl⟩, q⟩
    | int i t => exact P.repr_of_int (by simpa [PyData.showable] using h2) ⟨.str _, H, I.kept fun _ _ e => e, ⟨_, rfl⟩, q⟩
    | str x t => exact P.repr_of_str ⟨.str _, H, I.kept fun _ _ e => e, ⟨_, rfl⟩, q⟩ h4
    | list a1 a2 a3 a4 => exact repr_of_reads' (.list a1 a2 a3 a4) h2 hs hg (by omega) (fun _ _ e => e) (fun h' u tk hk => ⟨.str _, H, I.kept hk, ⟨u, rfl⟩, q⟩) h4
    | tuple a1 a2 a3 a4 => exact repr_of_reads' (.tuple a1 a2 a3 a4) h2 hs hg (by omega) (fun _ _ e => e) (fun h' u tk hk => ⟨.str _, H, I.kept hk, ⟨u, rfl⟩, q⟩) h4
    | dict a1 a2 a3 a4 a5 => exact repr_of_reads' (.dict a1 a2 a3 a4 a5) h2 hs hg (by omega) (fun _ _ e => e) (fun h' u tk hk => ⟨.str _, H, I.kept hk, ⟨u, rfl⟩, q⟩) h4
structure ShowsA (d : D) : Prop where
  she : she d = true
  nol : (pe d).hasDict = false ∨ nol (pe d) = true
  ok : (pe d).showable = true
  dep : (pe d).depth ≤ 61
  fit : (pe d).shown.length ≤ sizeLine
def repA (d : D) : Str := (pe d).shown
def gReprA : List D → (D → Prop) → Prop := fun ds k => ∃ d, ds = [d] ∧ ShowsA d ∧ k (.str (repA d))
theorem cd_reprA {l : Bool} : CallD l .e rReprA gReprA := fun z X H0 H σ env vs ds Q k o h c hp => by
  obtain ⟨d, rfl, hs, hk⟩ := hp
  cases h with
  | cons q t =>
    cases t
    exact ⟨_, _, rfl, q.de hs.she, hs.nol, hs.ok, hs.dep, hs.fit, c _ (.str (repA d)) H (Evo.refl _ _) (Is.str _) hk⟩
theorem gReprA_i {d : D} {k : D → Prop} (hs : ShowsA d) (h : k (.str (repA d))) : gReprA [d] k := ⟨d, rfl, hs, h⟩
end
/-! ### a law that shows things: run from its one caller, with tables -/
section
variable {P : Program} {w : World} {K : PySem.W.Frag} {mg : Str → Option Value} {base : Heap}
theorem okG {x qual : Str} {st : Stmt} {f : Addr} {fd : FuncData} {N ps : List Str} {k : Nat} {sp : Sp} (F : Fun K x qual st f fd) (S : FnScope N ps (defScope st)) (len : ∀ vs H Q E, sp vs H Q E → vs.length = ps.length)
    (hb : ∀ (cdv : Value) (A : Around) (outer : List Env) (s : Shared) (H : Hp) (vs : List V) (Q : VK) (E : XK), (A.deeper (envOfC qual (defScope st) s.heap.objs.size f cdv)).guards = some [] → Room k (A.deeper (envOfC qual (defScope st) s.heap.objs.size f cdv)) → sp vs H Q E →
      ∃ t, PSs (cxOf CX0 P w K mg base N qual (defScope st) f cdv A outer s H E).nox (defBody st) t ∧ t { nx := fun _ H' => Q .non H', rt := Q } (L2.start N vs) H) : FnG P w K mg base (k + 1) f fd ps sp := by
  obtain ⟨oc, od, kV, doc, pm, an, cdv, ct, osl, rfl, lk, hcd⟩ := F.ex
  refine ⟨len, fun A outer s H args us vs Q E hg hr at0 bnd rel hsp => ?_⟩
  obtain ⟨t, h1, h2⟩ := hb cdv A outer s H vs Q E hg (Room.deeper (k := k) hr _) hsp
  exact run_at (k := k) (us := us) (vs := vs) lk hcd S hr at0 bnd rel (len _ _ _ _ hsp) h1.nox h2
end
section
variable {P : Program} {w : World} {K : PySem.W.Frag} {mg mb : Str → Option Value} {fa a : Addr} {s : Shared} {vs : List Value} {ns : List Int} {T : List Addr}
/-- what is tracked at first: the tables, and the script -/
def firstH (K : PySem.W.Frag) (a : Addr) (vs : List Value) (ns : List Int) (T : List Addr) : Hp := fun b => if b ∈ T then some (.tbl #[]) else scriptH K a vs ns b
theorem firstH_in {b : Addr} (h : b ∈ T) : firstH K a vs ns T b = some (.tbl #[]) := if_pos h
theorem firstH_out {b : Addr} (h : b ∉ T) : firstH K a vs ns T b = scriptH K a vs ns b := if_neg h
theorem law_atT {cs : List (Addr × Addr)} {k : Nat} {fd : FuncData} {x : Str} {sp : Sp} (kin : K.In s.heap) (hns : s.heap.Ns mainGlobals mg) (hb : s.heap.Ns builtinsNs mb) (hbb : ∀ x : Str, x ≠ "__name__" → mb x = bootBuiltins x) (lim : s.heap.NoLimit) (hg : s.gens = #[])
    (tabs : ∀ p ∈ cs, PySem.W.CodeHd s.heap p.1 p.2 ∧ s.heap.get? p.2 = some { cls := .none, data := .fields #[] }) (apart : ∀ p ∈ cs, K.lookup p.2 = none)
    (hbm : ∃ (bm : Addr) (ob : Obj), mg "__builtins__" = some (.ref bm) ∧ bm ≠ builtinsNs ∧ s.heap.get? bm = some ob ∧ ob.cls = .type "module" ∧ ob.dict = some builtinsNs ∧ ob.data = .plain)
    (ha : s.heap.get? a = some { cls := .type "list", data := .seq vs.toArray }) (hi : IntsAre vs ns) (hl : ns.length ≤ sizeLine) (hr : Room k callerA)
    (F : ∀ base : Heap, K.In base → base.Ns mainGlobals mg → (∀ p ∈ cs, GxR.TabB base mg p.1 p.2) → FnG P w K mg base k fa fd [x] sp) (hbind : ∀ (s : Shared) (u : Value), BindsTo s fd ⟨[u], []⟩ [(x, u)])
    (hsp : ∀ H : Hp, (∀ p ∈ cs, H p.2 = some (.tbl #[])) → SqL K H a (ns.map V.int) → sp [.ref a] H (fun v _ => v = .bl true) E0) :
    codeAny (model P w) callerA (.call (.ref fa) ⟨[.ref a], []⟩) (fun r s' => r = .ok (.ret (.bool true)) ∧ OldK s.heap s'.heap ∧ s'.os = s.os ∧ AllBare s'.gens) s := by
  have rel := L2.vals_ints hi
  have len := hi.length
  let T := cs.map (·.2)
  have inT : ∀ p ∈ cs, p.2 ∈ T := fun p hp => List.mem_map.mpr ⟨p, hp, rfl⟩
  have atT : ∀ b ∈ T, s.heap.get? b = some { cls := .none, data := .fields #[] } ∧ K.lookup b = none := fun b hb => by
    obtain ⟨p, hp, rfl⟩ := List.mem_map.mp hb
    exact ⟨(tabs p hp).2, apart p hp⟩
  -- what holds an object of another content is no table
  have noT : ∀ {b : Addr} {o : Obj}, s.heap.get? b = some o → o.data ≠ .fields #[] → b ∉ T := fun e n hb => by
    rw [(atT _ hb).1] at e
    cases e
    exact n rfl
  have aT : a ∉ T := noT ha nofun
  have sH : ∀ {b : Addr} {o : Obj}, s.heap.get? b = some o → (∀ xs n, o.data ≠ .seq xs n) → scriptH K a vs ns b = none := fun e n => scriptH_none fun ⟨h1, _⟩ => by
    rw [h1, ha] at e
    cases e
    exact n _ _ rfl
  have hok : HOk P w (firstH K a vs ns T) s.heap := by
    intro b u e
    by_cases hb : b ∈ T
    · rw [firstH_in hb] at e
      cases e
      exact (atT b hb).1
    · rw [firstH_out hb] at e
      obtain ⟨rfl, _⟩ := scriptH_at (K := K) (a := a) (vs := vs) (ns := ns) (b := b) (by rw [e]; exact fun z => by cases z)
      unfold scriptH at e
      split at e
      · cases e
        exact ⟨ha, by rw [List.length_map]; exact hl, vs, _, rel, ha⟩
      · cases e
  have sq : SqL K (firstH K a vs ns T) a (ns.map V.int) := by
    cases q : K.lookup a with
    | none => exact Or.inl (Or.inr ⟨{ cls := .type "list", data := .seq vs.toArray }, (firstH_out aT).trans (if_pos ⟨rfl, q⟩)⟩)
    | some o =>
      have e := kin a o q
      rw [ha] at e
      cases e
      exact Or.inr ⟨_, vs.toArray, _, q, rfl, rfl, rfl, by rw [List.size_toArray, len]; exact hl, by simpa using rel⟩
  have stay : ∀ {b : Addr} {o : Obj}, s.heap.get? b = some o → b ∉ T → scriptH K a vs ns b = none → (hidT s.heap (firstH K a vs ns T)).get? b = some o := fun e h1 h2 => hidT_get e ((firstH_out h1).trans h2)
  have stayD : ∀ {b : Addr} {o : Obj}, s.heap.get? b = some o → o.data ≠ .fields #[] → (∀ xs n, o.data ≠ .seq xs n) → (hidT s.heap (firstH K a vs ns T)).get? b = some o := fun e h1 h2 => stay e (noT e h1) (sH e h2)
  have kinB : K.In (hidT s.heap (firstH K a vs ns T)) := fun b o e => stay (kin b o e) (fun hb => by rw [(atT b hb).2] at e; cases e) (scriptH_none fun ⟨h1, h2⟩ => by
    rw [h1, h2] at e
    cases e)
  have nsB : ∀ {b : Addr} {m : Str → Option Value}, s.heap.Ns b m → (hidT s.heap (firstH K a vs ns T)).Ns b m := by
    rintro b m ⟨o, es, ep, e, d, r⟩
    exact ⟨o, es, ep, stayD e (by rw [d]; exact nofun) (by rw [d]; exact nofun), d, r⟩
  have mod : Mod K mg (hidT s.heap (firstH K a vs ns T)) := ⟨kinB, nsB hns, ⟨mb, nsB hb, hbb⟩, by
    obtain ⟨mc, h1, h2⟩ := lim
    exact ⟨mc, nsB h1, h2⟩⟩
  have tb : ∀ p ∈ cs, GxR.TabB (hidT s.heap (firstH K a vs ns T)) mg p.1 p.2 := fun p hp => by
    have nG : ∀ b, s.heap.Ns b mg → b ≠ p.2 := fun b ⟨o, es, ep, e, d, _⟩ q => by
      rw [q, (tabs p hp).2] at e
      cases e
      cases d
    refine ⟨?_, ?_, nG _ hns⟩
    · obtain ⟨o, us, file, tf, flags, tg, inF, text, tt, e1, r1, r2, r3, r4⟩ := (tabs p hp).1
      refine ⟨o, us, file, tf, flags, tg, inF, text, tt, stayD e1 (fun q => ?_) (by rw [r2]; exact nofun), r1, r2, r3, r4⟩
      rw [r2] at q
      cases q
      simp at r3
    · obtain ⟨bm, ob, b1, b2, b3, b4, b5, b6⟩ := hbm
      refine ⟨bm, ob, b1, b2, fun q => ?_, fun q => ?_, stayD b3 (by rw [b6]; exact nofun) (by rw [b6]; exact nofun), b4, b5, b6⟩
      · obtain ⟨o, es, ep, e, d, _⟩ := hns
        rw [q, e] at b3
        cases b3
        rw [d] at b6
        cases b6
      · rw [q, (tabs p hp).2] at b3
        cases b3
        cases b6
  have e0 : Env0 P w K mg (hidT s.heap (firstH K a vs ns T)) callerA [] s (firstH K a vs ns T) := ⟨rfl, mod, fun _ _ e => of_hidT e, Nat.le_of_eq (hidT_size _ _), trivial, nofun, hok, .of_eq hg⟩
  have hsp' := hsp (firstH K a vs ns T) (fun p hp => firstH_in (inT p hp)) sq
  refine codeAny_mono ((F _ kinB (nsB hns) tb).go callerA [] s _ ⟨[.ref a], []⟩ [.ref a] [.ref a] _ _ rfl hr e0 (hbind s (.ref a)) (.cons rfl .nil) hsp') fun r s' z => ?_
  match r, z with
  | .error e, z => exact (show False from z).elim
  | .ok .next, z => exact (show False from z).elim
  | .ok .brk, z => exact (show False from z).elim
  | .ok .cont, z => exact (show False from z).elim
  | .ok (.ret u), ⟨v, H', os, bare, un, ok', rv, q⟩ =>
    have q' : v = .bl true := q
    subst q'
    cases (show u = Value.bool true from rv)
    have grown : ∀ b ∈ T, ∃ more : Array Value, s'.heap.get? b = some { cls := .none, data := .fields more } := fun b hb => by
      obtain ⟨more, z⟩ := un.tbls b #[] (firstH_in hb)
      exact ⟨_, ok' b _ z⟩
    have kept : ∀ b o, b ∉ T → s.heap.get? b = some o → s'.heap.get? b = some o := fun b o hb e => by
      rcases scriptH_only (K := K) (a := a) (vs := vs) (ns := ns) b with n | ⟨ob, xs, y⟩
      · exact un.keep b o e ((firstH_out hb).trans n) nofun nofun
      · have y' := (firstH_out hb).trans y
        have h1 := (hok b _ y').1
        have h2 := (ok' b _ (un.frzs b ob _ y')).1
        rw [e] at h1
        cases h1
        exact h2
    refine ⟨rfl, ⟨fun b o e => ?_, fun b o e => ?_⟩, os, bare⟩
    · by_cases hb : b ∈ T
      · obtain ⟨more, hm⟩ := grown b hb
        obtain ⟨p, hp, rfl⟩ := List.mem_map.mp hb
        rw [(tabs p hp).2] at e
        cases e
        exact .inr (.inl ⟨((tabs p hp).1.tab (tabs p hp).2).isCodeTable, rfl, #[], more, rfl, by rw [Array.empty_append]; exact hm⟩)
      · exact .inl (kept b o hb e)
    · by_cases hb : b ∈ T
      · obtain ⟨more, hm⟩ := grown b hb
        exact ⟨_, hm⟩
      · exact ⟨o, kept b o hb e⟩
theorem walkG {l : PySem.W.OpenLaw} {q : Program} {loose : List Str} {XP : (Str → Option Value) → Heap → Prop} {YP : World → Heap → Prop} {d : DefRec} {K : Params → PySem.W.Frag} {k : Nat} (hn : l.most = some 63) (hdf : d.params.defaults = []) (hr : Room k callerA)
    (hY : ∀ (w : World) (h : Heap), YP w h → (K w.params).In h) (names : List Str) (hrec : (names.all fun x => ((recsOf q).find? fun e => e.name == x).isSome) = true)
    (F : ∀ (w : World) (mg : Str → Option Value) (fa : Addr) (h : Heap), (K w.params).In h → h.Ns mainGlobals mg → mg d.name = some (.ref fa) →
      ∃ (fd : FuncData) (cs : List (Addr × Addr)), (∀ p ∈ cs, ∃ x ∈ names, PySem.W.tabIn (K w.params) x = some p) ∧ (∀ p ∈ cs, (K w.params).lookup p.2 = none) ∧ (∀ (s : Shared) (u : Value), BindsTo s fd ⟨[u], []⟩ [("_law_script", u)]) ∧
        ∀ base : Heap, (K w.params).In base → base.Ns mainGlobals mg → (∀ p ∈ cs, GxR.TabB base mg p.1 p.2) → FnG l.prog w (K w.params) mg base k fa fd ["_law_script"] (sp_lawT (K w.params) (cs.map (·.2)))) :
    PySem.W.WalkO q loose XP YP l.row.toRowW d [] (fun f vs => PySem.call f vs) := by
  refine Att.attach_call hn hdf fun w s₀ s₁ mg mb fa o pm cd doc a vs ns G Y _ _ _ hmg hobj hints hlen hg => ?_
  have KX := hY w _ Y
  obtain ⟨fd, cs, hx, nT, hb, hF⟩ := F w mg fa _ KX G.T.g hmg
  have hT : ∀ p ∈ cs, PySem.W.CodeHd s₁.heap p.1 p.2 ∧ s₁.heap.get? p.2 = some (PySem.W.tabObj #[]) := fun p hp => by
    obtain ⟨x, hxn, e⟩ := hx p hp
    obtain ⟨d', hd'⟩ := Option.isSome_iff_exists.mp (List.all_eq_true.mp hrec x hxn)
    exact PySem.W.tab_of G.T KX hd' e
  refine law_atT KX G.T.g G.T.b G.T.builtins G.T.nolimit hg hT nT G.T.bmain hobj hints (Nat.le_trans hlen (by decide)) hr hF hb fun H hH hS => ⟨a, ns, rfl, hS, hlen, fun P hP => ?_, fun _ => rfl⟩
  obtain ⟨p, hp, rfl⟩ := List.mem_map.mp hP
  exact ⟨#[], hH p hp, by first | trivial | exact .nil | (simp [TriplesOk])⟩
end
/-! ### t[::-1] of any tuple -/
section
theorem places_revA (n : Nat) : Builtin.Slice.slicePlaces ((n : Int) - 1) (-1) (-1) = n := by
  by_cases hn : 1 ≤ n
  · exact Ew.places_rev n hn
  · obtain rfl : n = 0 := by omega
    rfl
variable {prog : Program} {w : World} {A : Around} {E : Value → Shared → Prop} {s : Shared}
theorem applied_revA {sl : Addr} {tk : Tok} {n : Nat} {Q : Int × Int × Nat → Shared → Prop} (hs : s.heap.IsSliceOf sl .none .none (.int (-1) tk))
    (h : Q ((n : Int) - 1, -1, n) s) : wpAny (model prog w) A (Builtin.Slice.sliceApplied (.ref sl) (pure (n : Int))) Q E s := by
  obtain ⟨os, hos, hcs, hds⟩ := id hs
  unfold Builtin.Slice.sliceApplied Builtin.Slice.sliceFields
  refine wpAny_bind (wpAny_bind (wpAny_field hos hds (x := .none) rfl (wpAny_bind (wpAny_field hos hds (x := .none) rfl (wpAny_bind (wpAny_field hos hds (x := .int (-1) tk) rfl (wpAny_pure ?_)))))))
  refine wpAny_bind (HT.slicePart_ (.int (-1) tk) ?_)
  show wpAny _ _ (if ((-1 : Int) == 0) = true then _ else _) _ _ s
  rw [if_neg (by decide)]
  refine wpAny_bind (HT.slicePart_ .none (wpAny_bind (HT.slicePart_ .none (wpAny_bind (wpAny_pure ?_)))))
  show wpAny _ _ (pure ((n : Int) - 1, (-1 : Int), Builtin.Slice.slicePlaces ((n : Int) - 1) (-1) (-1))) _ _ s
  rw [places_revA n]
  exact wpAny_pure h
theorem getItem_revA {t sl : Addr} {items : Array Value} {tk : Tok} {Q : Value → Shared → Prop} (ht : IsTup s.heap t items) (hs : s.heap.IsSliceOf sl .none .none (.int (-1) tk)) (hz : items.size ≤ sizeLine)
    (h : Q (.ref s.heap.objs.size) { s with heap := s.heap.push { cls := .type "tuple", data := .seq items.toList.reverse.toArray } }) : wpAny (model prog w) A (getItem (.ref t) (.ref sl)) Q E s := by
  have htake : sizeOk (.seq items.toList.reverse.toArray) := by
    show items.toList.reverse.toArray.size ≤ sizeLine
    rw [List.size_toArray, List.length_reverse, Array.length_toList]
    exact hz
  obtain ⟨os, hos, hcs, hds⟩ := id hs
  have hTs : s.TypeIs (.ref sl) "slice" := ⟨os, hos, hcs⟩
  unfold getItem
  try with_reducible refine wpAny_holding ?_
  first | refine wpAny_bind (wpAny_pure ?_) | skip
  refine wpAny_bind (wpAny_sequenceKey ht.typeIs (by decide) ?_)
  refine wpAny_bind (wpAny_callSpecial?_slot (name := Str.ofString "__getitem__") ht.typeIs PyProof.Rows.slot_tuple_getitem
    (wpAny_call_entry PyProof.Rows.slot_tuple_getitem ht.typeIs entry_tuple_getitem ?_ (args_tuple_getitem _ _)))
  show wpAny _ _ (Builtin.Tuple.tupleItemsOf (.ref t) >>= _) _ _ s
  refine wpAny_bind (tupleItemsOf_ ht ?_)
  refine wpAny_bind (wpAny_typeOf hTs ?_)
  rw [if_pos (by decide)]
  refine wpAny_bind (applied_revA hs ?_)
  show wpAny _ _ (if ((((items.size : Nat) : Int) - 1 == 0) && ((-1 : Int) == 1) && (items.size == items.size)) = true then _ else _) _ _ s
  rw [if_neg (by rw [show ((-1 : Int) == 1) = false from rfl, Bool.and_false, Bool.false_and]; exact Bool.false_ne_true), Ew.pick_rev]
  first
    | exact wpAny_bind (m := Builtin.Tuple.tupleExact _) (wpAny_newObj_type (wpAny_pure ⟨_, rfl, wpAny_pure h⟩) htake)
    | exact wpAny_bind (m := Builtin.Tuple.tupleExact _) (wpAny_newObj_type (wpAny_bind (wpAny_pure (wpAny_pure ⟨_, rfl, wpAny_pure h⟩))) htake)
    | exact wpAny_bind (wpAny_bind (m := Builtin.Tuple.tupleExact _) (wpAny_newObj_type (wpAny_pure (wpAny_pure ⟨_, rfl, wpAny_pure h⟩)) htake))
def tRevA (K : PySem.W.Frag) (te : TE) : TE := fun σ H Q => te σ H fun v H1 => ∃ a xs, v = .ref a ∧ SqT K H1 a xs ∧ ∀ p, H1 p = none → Q (.ref p) (upd H1 p (.tup xs.reverse))
theorem pe_revA {X : Cx} {e : Expr} {te : TE} {k : Nat} {p1 p2 p3 pos : Pos} (he : PE X e te) : PE X (.Subscript e (.Slice none none (some (.UnaryOp .USub (.Constant (.int 1) k p1) p2)) p3) pos) (tRevA X.K te) := by
  refine ⟨fun pins s σ H Q I h => ?_⟩
  refine Subscript_ (thn (he.run pins s σ H _ I h) fun v s1 ⟨x, H1, I1, r1, q1⟩ => ?_)
  obtain ⟨a, xs, ex, hx, q⟩ := q1
  subst ex
  cases r1
  have hst : PO X (some (.UnaryOp .USub (.Constant (.int 1) k p1) p2)) (tPart (tUn (rU fun i => .int (-i)) (tC (.int 1)))) := po_some (pe_un un_neg pe_int)
  refine wpAny_Slice (thn (po_none.run pins s1 σ H1 (fun o H2 => o = none ∧ H2 = H1) I1 ⟨rfl, rfl⟩) fun vl s2 ⟨l, H2, I2, pl, el, e2⟩ => ?_)
  subst el e2
  refine thn (po_none.run pins s2 σ H2 (fun o H3 => o = none ∧ H3 = H2) I2 ⟨rfl, rfl⟩) fun vu s3 ⟨u, H3, I3, pu, eu, e3⟩ => ?_
  subst eu e3
  refine thn (hst.run pins s3 σ H3 (fun o H4 => o = some (-1) ∧ H4 = H3) I3 ⟨1, rfl, -1, rfl, rfl, rfl⟩) fun vs s4 ⟨o, H4, I4, ps, eo, e4⟩ => ?_
  subst eo e4
  cases pl
  cases pu
  cases ps with
  | int _ tk =>
    have I5 : Inv X pins σ H4 { s4 with heap := s4.heap.push { cls := .type "slice", data := .fields #[.none, .none, .int (-1) tk] } } := I4.kept (t' := s4.toks) fun b ob q => Heap.get?_push_of_some _ q
    obtain ⟨its, r, ht, hz⟩ := I5.tuple hx
    have hlen := r.length
    show wpAny (model X.prog X.w) X.A (subscriptTail e (.Slice none none (some (.UnaryOp .USub (.Constant (.int 1) k p1) p2)) p3) (.ref a) (.ref s4.heap.objs.size)) (EP X pins σ Q) X.xe { s4 with heap := s4.heap.push { cls := .type "slice", data := .fields #[.none, .none, .int (-1) tk] } }
    refine tail_any (ops := [.ref a, .ref s4.heap.objs.size]) ht.typeIs (PyProof.Rows.slot_tuple_getitem.lookup) ?_ (by with_unfolding_all rfl)
    refine getItem_revA ht (Heap.IsSliceOf.new _ .none .none (.int (-1) tk)) (by rw [List.size_toArray]; omega) ?_
    exact ⟨.ref _, _, I5.laid (t' := s4.toks) (o := .tup xs.reverse) (fun b ob q => Heap.get?_push_of_some _ q) (Nat.le_refl _) ⟨by rw [List.length_reverse]; exact hz, _, r.reverse, IsTup.new _ _⟩, rfl, q _ (I5.hok.fresh (Nat.le_refl _))⟩
end
def dRevA : D → (D → Prop) → Prop := fun d k => match d with
  | .tup xs => k (.tup xs.reverse)
  | _ => False
section
variable [Tbs] {C : Cx} {e : Expr} {p : PX}
theorem e_revA {kk : Nat} {p1 p2 p3 pos : Pos} (h : E .c C e p) : E .e C (.Subscript e (.Slice none none (some (.UnaryOp .USub (.Constant (.int 1) kk p1) p2)) p3) pos) (eUn dRevA p) := by
  obtain ⟨t, h1, h2⟩ := h
  refine ⟨_, pe_revA h1, fun z X H0 H σ env Q k o c hp => h2 z X H0 H σ env _ _ o (fun d v H1 e1 r1 hx => ?_) hp⟩
  cases d with
  | tup xs =>
    obtain ⟨a, vs, rfl, q1, q2, n⟩ := r1.conT
    exact ⟨a, vs, rfl, SqT.of q1, fun q hq => c _ _ _ (e1.new hq) ((Rel.newT (e1.fresh hq) hq q2.reverse).fe o) hx⟩
  | _ => exact (show False from hx).elim
end
theorem dRevA_i {xs : List D} {k : D → Prop} (h : k (.tup xs.reverse)) : dRevA (.tup xs) k := h
end Pu

/-! == with a text, whatever the other one is -/
namespace PySem.SeqAt
open MeetsSeq
theorem dict_eq_declines_str (l : Addr) (es : Array DictEntry) (ep : Nat) (dd : Option Addr) (sl : Array (Option Value)) (b : Str) (u : Tok) :
    Meets (Builtin.«dict.__eq__» ⟨[.ref l, .str b u], []⟩) (fun _ R s => s.heap.get? l = some { cls := .type "dict", dict := dd, data := .dict es ep, slots := sl } ∧ R (.ok (.ret .notImplemented)) s) :=
  .of_wp fun prog w A R s h => by obtain ⟨hp, g, d, tk, os⟩ := s; obtain ⟨hl, h⟩ := h; have f1 := F.sub_str_dict; wp_walk using wpAny_loadPart' hl; exact ⟨_, rfl, h⟩
theorem str_eq_declines_dict (b : Str) (u : Tok) (l : Addr) (c : Value) (es : Array DictEntry) (ep : Nat) (dd : Option Addr) (sl : Array (Option Value)) :
    Meets (Builtin.«str.__eq__» ⟨[.str b u, .ref l], []⟩) (fun _ R s => s.heap.get? l = some { cls := c, dict := dd, data := .dict es ep, slots := sl } ∧ R (.ok (.ret .notImplemented)) s) :=
  .of_wp fun prog w A R s h => by obtain ⟨hp, g, d, tk, os⟩ := s; obtain ⟨hl, h⟩ := h; wp_walk using wpAny_loadPart' hl, wpAny_load hl; exact ⟨_, rfl, h⟩
section
variable {A : Around} {s : Shared}
theorem RcAt.dict_str {l : Addr} {o : Obj} {es : Array DictEntry} {ep : Nat} (b : Str) (u : Tok) (ho : s.heap.get? l = some o) (hc : o.cls = .type "dict") (hd : o.data = .dict es ep) (hu : A.units < cLine) : RcAt A s (.ref l) (.str b u) false := fun prog w E Q h => by
  obtain ⟨cls, dd, data, sl⟩ := o
  simp only at hc hd
  subst hc hd
  exact rc_eq_decline_or (k := false) ⟨_, ho, rfl⟩ (typeIs_str s b u) (by decide) F.sub_str_dict F.slot_dict_eq F.slot_str_eq_refl
    (fun _ hq => call_meets F.slot_dict_eq ⟨_, ho, rfl⟩ F.entry_dict_eq (F.args_dict_eq_2 _ _) (dict_eq_declines_str l es ep dd sl b u) ⟨ho, hq⟩)
    (fun _ hq => call_meets F.slot_str_eq_refl (typeIs_str s b u) F.entry_str_eq (F.args_str_eq_2 _ _) (str_eq_declines_dict b u l (.type "dict") es ep dd sl) ⟨ho, hq⟩)
    (fun _ hq => wpAny_of_eq (rfl : isSame (.ref l) (.str b u) = pure false) hq) (.inr hu) h
end
end PySem.SeqAt
namespace Pu
open PySem PySem.Spec PyProof.Rows L2
section
variable {X : Cx}
def rEqS (K : PySem.W.Frag) : R2 := fun x y H Q => ∃ s : Str, y = .str s ∧
  ((x = .non ∧ Q (.bl false) H) ∨ (∃ b, x = .bl b ∧ Q (.bl false) H) ∨ (∃ i, x = .int i ∧ Q (.bl false) H) ∨ (∃ a, x = .str a ∧ Q (.bl (a == s)) H) ∨ (∃ p xs, x = .ref p ∧ (SqT K H p xs ∨ SqL K H p xs) ∧ Q (.bl false) H) ∨ (∃ p xs, x = .ref p ∧ H p = some (.dK xs) ∧ Q (.bl false) H))
theorem op_eqS (hu : X.A.units + 64 < cLine) : OpR X (compareOp .Eq) (rEqS X.K) := by
  intro pins s σ H x y v u Q I rx ry h
  obtain ⟨b, rfl, h⟩ := h
  obtain ⟨t, rfl⟩ : ∃ t, u = .str b t := ry
  have hu1 : X.A.units < cLine := by omega
  rcases h with ⟨rfl, q⟩ | ⟨c, rfl, q⟩ | ⟨i, rfl, q⟩ | ⟨a, rfl, q⟩ | ⟨p, xs, rfl, hp, q⟩ | ⟨p, xs, rfl, hp, q⟩
  · cases rx
    exact (SeqAt.RcAt.none_str b t) X.prog X.w _ _ ⟨.bl _, H, I, rfl, q⟩
  · cases rx
    exact (SeqAt.RcAt.bool_str c b t) X.prog X.w _ _ ⟨.bl _, H, I, rfl, q⟩
  · obtain ⟨t', rfl⟩ := rx
    exact (SeqAt.RcAt.int_str i t' b t) X.prog X.w _ _ ⟨.bl _, H, I, rfl, q⟩
  · obtain ⟨t', rfl⟩ := rx
    exact (SeqAt.RcAt.str_str a t' b t) X.prog X.w _ _ ⟨.bl _, H, I, rfl, q⟩
  · cases rx
    rcases hp with hp | hp
    · obtain ⟨its, rv, ⟨o, ho, hc, n, hd⟩, _⟩ := I.tuple hp
      exact (SeqAt.RcAt.tuple_str b t (⟨o, ho, hc, n, hd⟩ : s.heap.IsTuple p its.toArray) hu1) X.prog X.w _ _ ⟨.bl _, H, I, rfl, q⟩
    · obtain ⟨its, rv, ⟨o, n, ho, hc, _, hd⟩, _⟩ := I.list hp
      exact (SeqAt.RcAt.list_str b t (⟨o, ho, hc, n, hd⟩ : s.heap.IsList p its.toArray) hu1) X.prog X.w _ _ ⟨.bl _, H, I, rfl, q⟩
  · cases rx
    obtain ⟨_, hne, vs, kv, o, es, ep, h1, h2, h3, _, h4, _⟩ := I.hok _ _ hp
    exact (SeqAt.RcAt.dict_str b t h1 h2.1 h3 hu1) X.prog X.w _ _ ⟨.bl _, H, I, rfl, q⟩
end
section
variable [Tbs]
def eqSB (x : D) (s : Str) : Bool := match x with
  | .str a => a == s
  | _ => false
def dEqS : D → D → (D → Prop) → Prop := fun x y k => match y with
  | .str s => tyD x ≠ none ∧ k (.bl (eqSB x s))
  | _ => False
theorem opd_eqS {K : PySem.W.Frag} : OpD .b .e (rEqS K) dEqS := fun z X H0 H σ env v u x y Q k o r1 r2 c hp => by
  cases y with
  | str s =>
    cases (show Is z _ H u (.str s) from r2)
    obtain ⟨ht, hp⟩ := hp
    refine ⟨s, rfl, ?_⟩
    have fin : ∀ b, b = eqSB x s → Q (.bl b) H := fun b e => c (.bl b) _ H (Evo.refl _ _) (Is.bl _) (by rw [e]; exact hp)
    cases (show Is z (Zx z X) H v x from r1) with
    | non => exact .inl ⟨rfl, fin _ rfl⟩
    | bl b => exact .inr (.inl ⟨_, rfl, fin _ rfl⟩)
    | int b => exact .inr (.inr (.inl ⟨_, rfl, fin _ rfl⟩))
    | str b => exact .inr (.inr (.inr (.inl ⟨_, rfl, fin _ rfl⟩)))
    | tup e n r => exact .inr (.inr (.inr (.inr (.inl ⟨_, _, rfl, .inl (SqT.of e), fin _ rfl⟩))))
    | lst e n r => exact .inr (.inr (.inr (.inr (.inl ⟨_, _, rfl, .inr (SqL.of e), fin _ rfl⟩))))
    | dic e n r => exact .inr (.inr (.inr (.inr (.inr ⟨_, _, rfl, e, fin _ rfl⟩))))
    | _ => exact absurd rfl ht
  | _ => exact (show False from hp).elim
theorem dEqS_i {x : D} {s : Str} {k : D → Prop} (ht : tyD x ≠ none) (h : k (.bl (eqSB x s))) : dEqS x (.str s) k := ⟨ht, h⟩
end
end Pu

/-! str(number); {'text': number} -/
namespace Pu
open PySem PySem.Spec PyProof.Rows L2
variable [Tbs]
def strI (i : Int) : Str := Str.ofString (toString i)
def gStrI : List D → (D → Prop) → Prop := fun ds k => ∃ i, ds = [.int i] ∧ i.natAbs.log2 < 1920 ∧ k (.str (strI i))
theorem cd_strI {l : Bool} : CallD l .e (fun xs H Q => ∃ i : Int, xs = [.int i] ∧ i.natAbs.log2 < 1920 ∧ Q (.str (toString i : String)) H) gStrI := fun z X H0 H σ env vs ds Q k o h c hp => by
  obtain ⟨i, rfl, hl, hk⟩ := hp
  obtain ⟨v, rfl, hv⟩ := h.one
  cases hv
  exact ⟨i, rfl, hl, c _ _ H (Evo.refl _ _) (Is.str _) hk⟩
theorem gStrI_i {i : Int} {k : D → Prop} (h : i.natAbs.log2 < 1920) (hk : k (.str (strI i))) : gStrI [.int i] k := ⟨i, rfl, h, hk⟩
/-- {'text': number} -/
def eDicS (s : Str) (q : PX) : PX := fun env k => q env fun y => match y with
  | .int m => k (.dic [(.inr s, .int m)])
  | _ => False
theorem e_dicS {C : Cx} {b : Expr} {s : Str} {q : PX} {pos p0 : Pos} {j : Nat} {m' : Mode} (g : E m' C b q) : E .f C (.Dict [some (.Constant (.str s) j p0)] [b] pos) (eDicS s q) := by
  obtain ⟨u, g1, g2⟩ := g.toB
  refine ⟨_, pe_disp (pps_cons (pe_str (x := s)) g1 pps_nil) rfl rfl (List.cons_ne_nil _ _) (by show 1 ≤ 15; decide), fun z X H0 H σ env Q k o c hp => fun r hr => ?_⟩
  have e0 : Evo z H (upd H r (.dK [])) := (Evo.refl _ _).new hr
  have zr : ¬ z.Z r := fun q => o.zal r q hr
  refine g2 z X H0 _ σ env _ _ (o.go e0) (fun y v2 H2 e2 r2 hy => ?_) hp
  cases y with
  | int m =>
    cases Is.intI r2
    have st : H2 r = some (.dK []) := e2.old _ _ upd_same zr
    refine ⟨st, [(Sum.inr s, V.int m)], rfl, by show 1 ≤ 15; decide, c (.dic [(.inr s, .int m)]) (.ref r) _ ((e0.trans e2).mut hr zr) ⟨r, rfl, hr, _, upd_same, ?_⟩ hy⟩
    exact .cons (.int m) .nil
  | _ => exact (show False from hy).elim
theorem eDicS_i {s : Str} {q : PX} {env : List SV} {k : D → Prop} (h : q env fun y => match y with
  | .int m => k (.dic [(.inr s, .int m)])
  | _ => False) : eDicS s q env k := h
theorem eDic0_i {env : List SV} {k : D → Prop} (h : k (.dic [])) : eDic0 env k := h
end Pu

/-! texts: f-strings, methods of a text, signs of a text, int(text) -/
namespace Pu
open PySem PySem.Spec PyProof.Rows L2
variable [Tbs]
def strK (d : D) (k : Str → Prop) : Prop := match d with
  | .str s => k s
  | _ => False
theorem strK_of {d : D} {k : Str → Prop} (h : strK d k) : ∃ s, d = .str s ∧ k s := by
  unfold strK at h
  split at h
  · exact ⟨_, rfl, h⟩
  · exact h.elim
theorem strK_i {s : Str} {k : Str → Prop} (h : k s) : strK (.str s) k := h
theorem Rel.strB {z : Zn} {X : AP} {H H' : Hp} {σ : Sl} {env : List SV} {v : V} {s : Str} (h : Rel .b z X H H' σ env v (.str s)) : v = .str s := by
  cases (show Is z _ H' v (.str s) from h); rfl
/-! f'..{x}..' -/
def eFmt (p : PX) : PX := fun env k => p env fun d => match d with
  | .str y => y.length ≤ 100000 ∧ k (.str y)
  | .int i => i.natAbs.log2 < 1920 ∧ k (.str (strI i))
  | _ => False
theorem e_fmt {C : Cx} {e : Expr} {p : PX} {pos : Pos} (h : E .b C e p) : E .e C (.FormattedValue e (-1) none pos) (eFmt p) := by
  obtain ⟨t, h1, h2⟩ := h
  refine ⟨_, pe_fmt h1, fun z X H0 H σ env Q k o c hp => h2 z X H0 H σ env _ _ o (fun d v H1 e1 r1 hx => ?_) hp⟩
  cases d with
  | str y =>
    cases r1.strB
    exact .inl ⟨y, rfl, sz hx.1, c _ _ H1 e1 (Is.str _) hx.2⟩
  | int i =>
    cases Is.intI r1
    exact .inr ⟨i, rfl, hx.1, c _ _ H1 e1 (Is.str _) hx.2⟩
  | _ => exact (show False from hx).elim
theorem eFmt_s {p : PX} {env : List SV} {k : D → Prop} (h : p env fun d => match d with
  | .str y => y.length ≤ 100000 ∧ k (.str y)
  | .int i => i.natAbs.log2 < 1920 ∧ k (.str (strI i))
  | _ => False) : eFmt p env k := h
def jsP : List PX → Str → List SV → (D → Prop) → Prop
  | [], acc, _, k => k (.str acc)
  | p :: ps, acc, env, k => p env fun d => strK d fun y => (acc ++ y).length ≤ 100000 ∧ jsP ps (acc ++ y) env k
inductive Js (C : Cx) : List Expr → List PX → Prop where
  | nil : Js C [] []
  | cons {e : Expr} {p : PX} {es : List Expr} {ps : List PX} (h : E .b C e p) (r : Js C es ps) : Js C (e :: es) (p :: ps)
theorem js_run {C : Cx} {es : List Expr} {ps : List PX} (h : Js C es ps) : ∃ ts, PJ C es ts ∧ ∀ (z : Zn) (X : AP) (H0 H : Hp) (σ : Sl) (env : List SV) (acc : Str) (Q : Str → Hp → Prop) (k : D → Prop), Ok z X H0 H σ env → (∀ y H', Evo z H H' → k (.str y) → Q y H') → jsP ps acc env k → tJs ts acc σ H Q := by
  induction h with
  | nil => exact ⟨[], .nil, fun z X H0 H σ env acc Q k o c hp => c _ H (Evo.refl _ _) hp⟩
  | @cons e p es ps he hr ih =>
    obtain ⟨ts, t1, t2⟩ := ih
    obtain ⟨t, h1, h2⟩ := he
    refine ⟨t :: ts, .cons h1 t1, fun z X H0 H σ env acc Q k o c hp => ?_⟩
    refine h2 z X H0 H σ env _ _ o (fun d v H1 e1 r1 hx => ?_) hp
    obtain ⟨y, rfl, hl, hx⟩ := strK_of hx
    exact ⟨y, r1.strB, sz hl, t2 z X H0 H1 σ env _ _ _ (o.go e1) (fun y' H2 e2 hk => c y' H2 (e1.trans e2) hk) hx⟩
def eJs (ps : List PX) : PX := jsP ps Str.empty
theorem e_js {C : Cx} {v1 v2 : Expr} {rest : List Expr} {ps : List PX} {pos : Pos} (h : Js C (v1 :: v2 :: rest) ps) : E .e C (.JoinedStr (v1 :: v2 :: rest) pos) (eJs ps) := by
  obtain ⟨ts, t1, t2⟩ := js_run h
  exact ⟨_, pe_joined t1, fun z X H0 H σ env Q k o c hp => t2 z X H0 H σ env _ _ k o (fun y H' e1 hk => c _ _ H' e1 (Is.str _) hk) hp⟩
theorem eJs_i {p : PX} {ps : List PX} {env : List SV} {k : D → Prop} (h : jsP (p :: ps) Str.empty env k) : eJs (p :: ps) env k := h
theorem jsP_c {p : PX} {ps : List PX} {acc : Str} {env : List SV} {k : D → Prop} (h : p env fun d => strK d fun y => (acc ++ y).length ≤ 100000 ∧ jsP ps (acc ++ y) env k) : jsP (p :: ps) acc env k := h
theorem jsP_n {acc : Str} {env : List SV} {k : D → Prop} (h : k (.str acc)) : jsP [] acc env k := h
/-! methods of a text with one argument -/
theorem rel_back {z : Zn} {X : AP} {H H2 H3 : Hp} {σ : Sl} {env : List SV} {v : V} {d : D} {m : Mode} (e : Evo z H H2) (h : Rel m z X H2 H3 σ env v d) : Rel m z X H H3 σ env v d := by
  cases m with
  | f =>
    obtain ⟨a, q, hn, hc⟩ := h
    exact ⟨a, q, e.fresh hn, hc⟩
  | e => exact h
  | c => exact h
  | b => exact h
def eM1 (g : Str → D → (D → Prop) → Prop) (p q : PX) : PX := fun env k => p env fun x => strK x fun a => q env fun y => g a y k
def MtD (mo : Mode) (r : V → List V → Hp → VK → Prop) (g : Str → D → (D → Prop) → Prop) : Prop := ∀ (z : Zn) (X : AP) (H0 H : Hp) (σ : Sl) (env : List SV) (v : V) (a : Str) (y : D) (Q : VK) (k : D → Prop), Ok z X H0 H σ env → Rel .b z X H H σ env v y →
  (∀ d w H', Evo z H H' → Rel mo z X H H' σ env w d → k d → Q w H') → g a y k → r (.str a) [v] H Q
theorem e_m1 {C : Cx} {o e : Expr} {p q : PX} {m m' mo : Mode} {r : V → List V → Hp → VK → Prop} {g : Str → D → (D → Prop) → Prop} {id : String} {name : Str} {apos pos : Pos} (slot : Slot "str" name id) (ty : typeOf (.builtin id) = pure (.type "method_descriptor")) (rule : MtR C id r) (hd : MtD mo r g)
    (ha : E m C o p) (hb : E m' C e q) (hs : starEach [e] C.env = [(false, eval e C.env)] := by rfl) (hbase : attributeBase o name C.env (eval o C.env) = eval o C.env := by rfl) (hline : (apos.endLine == pos.line) = true := by rfl) : E mo C (.Call (.Attribute o name apos) [e] [] pos) (eM1 g p q) := by
  obtain ⟨t, a1, a2⟩ := ha.toB
  obtain ⟨u, b1, b2⟩ := hb.toB
  refine ⟨_, pe_m1 slot ty rule a1 b1 hs hbase hline, fun z X H0 H σ env Q k o c hp => a2 z X H0 H σ env _ _ o (fun d v H1 e1 r1 hx => ?_) hp⟩
  obtain ⟨a, rfl, hx⟩ := strK_of hx
  cases r1.strB
  refine ⟨⟨a, rfl⟩, b2 z X H0 H1 σ env _ _ (o.go e1) (fun y w H2 e2 r2 hy => ?_) hx⟩
  exact hd z X H0 H2 σ env w a y _ k ((o.go e1).go e2) r2 (fun d w' H3 e3 r3 kd => c d w' H3 ((e1.trans e2).trans e3) (rel_back (e1.trans e2) r3) kd) hy
theorem eM1_i {g : Str → D → (D → Prop) → Prop} {p q : PX} {env : List SV} {k : D → Prop} (h : p env fun x => strK x fun a => q env fun y => g a y k) : eM1 g p q env k := h
/-- startswith, removeprefix, split, join -/
def gStarts : Str → D → (D → Prop) → Prop := fun a y k => strK y fun b => k (.bl (Txt.startswith a b))
def gRemove : Str → D → (D → Prop) → Prop := fun a y k => strK y fun b => a.length ≤ 100000 ∧ k (.str (Txt.removeprefix a b))
def gSplit : Str → D → (D → Prop) → Prop := fun a y k => strK y fun b => (b.length == 0) = false ∧ a.length ≤ 100000 ∧ k (.lst ((Txt.split a b).map D.str))
def gJoin : Str → D → (D → Prop) → Prop := fun a y k => ∃ ys : List Str, (y = .lst (ys.map D.str) ∨ y = .tup (ys.map D.str)) ∧ (ys.map (·.length)).sum + ys.length * a.length ≤ 16777216 ∧ k (.str (Txt.join a ys))
theorem isA_strs {z : Zn} {M : AP} {H : Hp} : ∀ {ys : List Str} {vs : List V}, IsA z M H vs (ys.map D.str) → vs = ys.map V.str
  | [], _, h => by cases h; rfl
  | y :: ys, _, h => by
    cases h with
    | cons h t =>
      cases h
      rw [isA_strs t]
      rfl
theorem strs_is {z : Zn} {M : AP} {H : Hp} : ∀ ys : List Str, IsA z M H (ys.map V.str) (ys.map D.str)
  | [] => .nil
  | y :: ys => .cons (.str y) (strs_is ys)
theorem md_starts : MtD .e (fun x xs H Q => ∃ a b, x = .str a ∧ xs = [.str b] ∧ Q (.bl (Txt.startswith a b)) H) gStarts := fun z X H0 H σ env v a y Q k o r c hp => by
  obtain ⟨b, rfl, hk⟩ := strK_of hp
  cases r.strB
  exact ⟨a, b, rfl, rfl, c _ _ H (Evo.refl _ _) (Is.bl _) hk⟩
theorem md_remove : MtD .e (fun x xs H Q => ∃ a b, x = .str a ∧ xs = [.str b] ∧ a.length ≤ sizeLine ∧ Q (.str (Txt.removeprefix a b)) H) gRemove := fun z X H0 H σ env v a y Q k o r c hp => by
  obtain ⟨b, rfl, hl, hk⟩ := strK_of hp
  cases r.strB
  exact ⟨a, b, rfl, rfl, sz hl, c _ _ H (Evo.refl _ _) (Is.str _) hk⟩
theorem md_split : MtD .f (fun x xs H Q => ∃ a b, x = .str a ∧ xs = [.str b] ∧ (b.length == 0) = false ∧ a.length + 2 ≤ sizeLine ∧ rNewStrs (Txt.split a b) H Q) gSplit := fun z X H0 H σ env v a y Q k o r c hp => by
  obtain ⟨b, rfl, hb, hl, hk⟩ := strK_of hp
  cases r.strB
  refine ⟨a, b, rfl, rfl, hb, by rw [sizeLine_eq]; omega, fun p hpn => ?_⟩
  exact c (.lst ((Txt.split a b).map D.str)) _ _ ((Evo.refl _ _).new hpn) ⟨p, rfl, hpn, _, upd_same, strs_is _⟩ hk
theorem md_join {K : PySem.W.Frag} : MtD .e (fun x xs H Q => ∃ a p, ∃ ys : List Str, x = .str a ∧ xs = [.ref p] ∧ (SqL K H p (ys.map V.str) ∨ SqT K H p (ys.map V.str)) ∧ (ys.map (·.length)).sum + ys.length * a.length ≤ 16777216 ∧ Q (.str (Txt.join a ys)) H) gJoin := fun z X H0 H σ env v a y Q k o r c hp => by
  obtain ⟨ys, hy, hl, hk⟩ := hp
  rcases hy with rfl | rfl
  · cases (show Is z _ H v (.lst (ys.map D.str)) from r) with
    | lst h1 h2 h3 =>
      rw [isA_strs h3] at h1
      exact ⟨a, _, ys, rfl, rfl, .inl (SqL.of h1), hl, c _ _ H (Evo.refl _ _) (Is.str _) hk⟩
  · cases (show Is z _ H v (.tup (ys.map D.str)) from r) with
    | tup h1 h2 h3 =>
      rw [isA_strs h3] at h1
      exact ⟨a, _, ys, rfl, rfl, .inr (SqT.of h1), hl, c _ _ H (Evo.refl _ _) (Is.str _) hk⟩
theorem gStarts_i {a b : Str} {k : D → Prop} (h : k (.bl (Txt.startswith a b))) : gStarts a (.str b) k := h
theorem gRemove_i {a b : Str} {k : D → Prop} (hl : a.length ≤ 100000) (h : k (.str (Txt.removeprefix a b))) : gRemove a (.str b) k := ⟨hl, h⟩
theorem gSplit_i {a b : Str} {k : D → Prop} (hb : (b.length == 0) = false) (hl : a.length ≤ 100000) (h : k (.lst ((Txt.split a b).map D.str))) : gSplit a (.str b) k := ⟨hb, hl, h⟩
theorem gJoin_l {a : Str} {ys : List Str} {k : D → Prop} (hl : (ys.map (·.length)).sum + ys.length * a.length ≤ 16777216) (h : k (.str (Txt.join a ys))) : gJoin a (.lst (ys.map D.str)) k := ⟨ys, .inl rfl, hl, h⟩
/-! int(text) -/
def gIntS : List D → (D → Prop) → Prop := fun ds k => ∃ a n, ds = [.str a] ∧ PySem.intText? a = some n ∧ a.length ≤ 640 ∧ k (.int n)
theorem cd_intS {l : Bool} : CallD l .e (fun xs H Q => ∃ a n, xs = [.str a] ∧ PySem.intText? a = some n ∧ a.length ≤ 640 ∧ Q (.int n) H) gIntS := fun z X H0 H σ env vs ds Q k o h c hp => by
  obtain ⟨a, n, rfl, hi, hl, hk⟩ := hp
  obtain ⟨v, rfl, hv⟩ := h.one
  cases hv
  exact ⟨a, n, rfl, hi, hl, c _ _ H (Evo.refl _ _) (Is.int _) hk⟩
theorem gIntS_i {a : Str} {n : Int} {k : D → Prop} (h : PySem.intText? a = some n) (hl : a.length ≤ 640) (hk : k (.int n)) : gIntS [.str a] k := ⟨a, n, rfl, h, hl, hk⟩
/-! signs of a text -/
def sgD (c : Nat) : D := .str ⟨#[c]⟩
def iStr' (p : PX) : PIt := fun env k => p env fun d => strK d fun s => k (s.cps.toList.map sgD)
theorem yl_str {z : Zn} {X : AP} {M : AP} {H : Hp} {s : Str} : Yields z X M H (Its s) (s.cps.toList.map sgD) := fun M' H' f => by
  refine ⟨by show s.cps.size ≤ _; simp, fun i d hd => ?_⟩
  rw [List.getElem?_map] at hd
  cases hc : s.cps.toList[i]? with
  | none => rw [hc] at hd; cases hd
  | some c =>
    rw [hc] at hd
    cases hd
    rw [Array.getElem?_toList] at hc
    refine ⟨(Array.getElem?_eq_some_iff.mp hc).1, fun x H2 yy => ?_⟩
    obtain ⟨rfl, c', hc', rfl⟩ := yy
    rw [hc] at hc'
    cases hc'
    exact ⟨Evo.refl _ _, fun _ _ => Is.str _⟩
theorem i_str {C : Cx} {tg e : Expr} {p : PX} {m : Mode} (h : E m C e p) : I C tg e (iStr' p) := by
  obtain ⟨t, h1, h2⟩ := h.toB
  refine ⟨_, pi_str h1, fun z X H0 H σ env R k o c hp => h2 z X H0 H σ env _ _ o (fun d v H1 e1 r1 hx => ?_) hp⟩
  obtain ⟨s, rfl, hx⟩ := strK_of hx
  cases r1.strB
  exact ⟨s, rfl, c _ _ H1 e1 yl_str hx⟩
theorem iStr_i {p : PX} {env : List SV} {k : List D → Prop} (h : p env fun d => strK d fun s => k (s.cps.toList.map sgD)) : iStr' p env k := h
/-! one sign in a text -/
def dSin' (neg : Bool) : D → D → (D → Prop) → Prop := fun x y k => ∃ c s, x = sgD c ∧ y = .str s ∧ k (.bl (if neg then !decide (c ∈ s.cps.toList) else decide (c ∈ s.cps.toList)))
theorem opd_sgin : OpD .b .e (fun x y H Q => ∃ (c : Nat) (z : Str), x = .str ⟨#[c]⟩ ∧ y = .str z ∧ Q (.bl (decide (c ∈ z.cps.toList))) H) (dSin' false) := fun z X H0 H σ env v u x y Q k o r1 r2 c hp => by
  obtain ⟨n, s, rfl, rfl, hk⟩ := hp
  cases (show Rel .b z X H H σ env v (.str ⟨#[n]⟩) from r1).strB
  cases r2.strB
  exact ⟨n, s, rfl, rfl, c _ _ H (Evo.refl _ _) (Is.bl _) hk⟩
theorem dSin_i' {c : Nat} {s : Str} {k : D → Prop} (h : k (.bl (decide (c ∈ s.cps.toList)))) : dSin' false (sgD c) (.str s) k := ⟨c, s, rfl, rfl, h⟩
/-! xs += ys, xs a list of the def's own -/
def lsK (d : D) (k : List D → Prop) : Prop := match d with
  | .lst ys => k ys
  | _ => False
theorem lsK_of {d : D} {k : List D → Prop} (h : lsK d k) : ∃ ys, d = .lst ys ∧ k ys := by
  unfold lsK at h
  split at h
  · exact ⟨_, rfl, h⟩
  · exact h.elim
def sExtL (i : Nat) (p : PX) : PSt := fun env k => match env[i]? with
  | some (.own (.lst xs)) => p env fun d => lsK d fun ys => xs.length + ys.length ≤ 100000 ∧ k.nx (env.set i (.own (.lst (xs ++ ys))))
  | _ => False
theorem ip_ext {C : Cx} : PIp C .Add rExt2 := fun pins s σ H x y v u Q I rx ry h => iop_ext pins s σ H x y v u Q I rx ry h
theorem set_same {α : Type} : ∀ {l : List α} {i : Nat} {x : α}, l[i]? = some x → l.set i x = l
  | [], _, _, h => by cases h
  | _ :: _, 0, _, h => by cases h; rfl
  | a :: l, i + 1, x, h => by
    show a :: l.set i x = a :: l
    rw [set_same (show l[i]? = some x from h)]
theorem s_extL {fr : Bool} {C : Cx} {e : Expr} {pe : PX} {pos p2 : Pos} (i : Nat) {x : Str} (h : E .e C e pe) (hN : C.N.Nodup) (hi : C.N[i]? = some x) (hx : Loc C.env.scope x) (hf : C.fn x = true ∨ C.env.scope.names.lookup x = some .local := by first | exact .inl rfl | exact .inr rfl | assumption) :
    S fr C (.AugAssign (.Name x p2) .Add e pos) (sExtL i pe) := by
  obtain ⟨t, h1, h2⟩ := h
  refine ⟨_, ps_aug hN hi hx h1 ip_ext hf, fun z X H0 H σ env G k o s hp => ?_⟩
  unfold sExtL at hp
  split at hp
  · rename_i xs he
    obtain ⟨a, q1, ⟨vs, q5, q6⟩, q3, q4⟩ := o.own i _ he
    refine ⟨_, q1, h2 z X H0 H σ env _ _ o (fun d v H1 e1 r1 hx => ?_) hp⟩
    obtain ⟨ys, rfl, hl, hk⟩ := lsK_of hx
    cases (show Is z (Ms z X σ env) H1 v (.lst ys) from r1) with
    | @lst b ws _ eb nb rb =>
      have o1 := o.go e1
      have q5' := e1.old a _ q5 q3
      have q6' := IsA.evo (fun _ q => .inl q) e1 q6
      refine ⟨a, b, vs, ws, rfl, rfl, q5', eb, by rw [q6.length, rb.length]; exact sz hl, ?_⟩
      obtain ⟨o2, f2⟩ := mutL o1 he q1 q3 (q6'.append rb)
      rw [set_same q1]
      exact s.nx _ _ _ o2 ((o.fr e1).trans f2) hk
  · exact hp.elim
theorem sExtL_i {i : Nat} {p : PX} {env : List SV} {xs : List D} {K : PK'} (e : env[i]? = some (.own (.lst xs))) (h : p env fun d => lsK d fun ys => xs.length + ys.length ≤ 100000 ∧ K.nx (env.set i (.own (.lst (xs ++ ys))))) : sExtL i p env K := by
  unfold sExtL
  rw [e]
  exact h
theorem sSeq_extL {i : Nat} {p : PX} {Q : PSt} {env : List SV} {K : PK'} (h : sExtL i p env { K with nx := fun env' => Q env' K }) : sSeq (sExtL i p) Q env K := h
theorem lsK_i {ys : List D} {k : List D → Prop} (h : k ys) : lsK (.lst ys) k := h
end Pu

namespace Ew
open PySem PySem.Spec PyProof.Rows L2 Pu
variable [Tbs]
def wp__law_draw : List D → (D → Prop) → Prop := fun ds k => match ds with
  | [.deck 1, .int m] => (0 < m ∧ m < 1073741824) ∧ ∀ t : Int, 0 ≤ t → t < m → k (.int t)
  | _ => False
def P_is_whole : PSt := (sRet (eAnd (eCall gIsi (aCons (eV 0) (aCons (eC (.ty "int")) aNil))) (eUn dNot (eCall gIsi (aCons (eV 0) (aCons (eC (.ty "bool")) aNil))))))
def wp_is_whole : List D → (D → Prop) → Prop := wpOf false 1 P_is_whole
def P_are_wholes : PSt := (sSeq (sIf (tOrP (tNotP (tOf (eCall gIsi (aCons (eV 0) (aCons (eC (.ty "tuple")) aNil))))) (tOf (eOp dNe (eCall gLen (aCons (eV 0) aNil)) (eV 1)))) (sRet (eC (.bl false))) sNext)
    (sRet (eAsk true [2] (iSeq (eV 0)) (gtName 2) (eCall (fun ds k => ds.length = 1 ∧ wp_is_whole ds k) (aCons (eV 2) aNil)))))
def wp_are_wholes : List D → (D → Prop) → Prop := wpOf false 3 P_are_wholes
def P_is_end : PSt := (sRet (eAnd (eCall (fun ds k => ds.length = 2 ∧ wp_are_wholes ds k) (aCons (eV 0) (aCons (eC (.int 4)) aNil))) (eAnd (eOp dGe (eOp dIx (eV 0) (eC (.int 2))) (eC (.int 0))) (eOp dGe (eOp dIx (eV 0) (eC (.int 3))) (eC (.int 0))))))
def wp_is_end : List D → (D → Prop) → Prop := wpOf false 1 P_is_end
def P_is_ends : PSt := (sSeq (sIf (tOrP (tNotP (tOf (eCall gIsi (aCons (eV 0) (aCons (eC (.ty "tuple")) aNil))))) (tOf (eOp dEq (eCall gLen (aCons (eV 0) aNil)) (eC (.int 0))))) (sRet (eC (.bl false))) sNext)
    (sRet (eAsk true [1] (iSeq (eV 0)) (gtName 1) (eCall (fun ds k => ds.length = 1 ∧ wp_is_end ds k) (aCons (eV 1) aNil)))))
def wp_is_ends : List D → (D → Prop) → Prop := wpOf false 2 P_is_ends
def P_joins_below : PSt := (sSeq (sIf (tNotP (tOf (eCall (fun ds k => ds.length = 2 ∧ wp_are_wholes ds k) (aCons (eV 1) (aCons (eC (.int 2)) aNil))))) (sRet (eC (.bl false))) sNext)
    (sSeq (sAsg (eV 1) (gtTup 2 (gtCons (gtName 2) (gtCons (gtName 3) gtNil))))
    (sRet (eAnd (eOp dNe (eV 2) (eV 3)) (eAnd (eChain dLe dLt (eC (.int 0)) (eV 2) (eV 0)) (eChain dLe dLt (eC (.int 0)) (eV 3) (eV 0)))))))
def wp_joins_below : List D → (D → Prop) → Prop := wpOf false 4 P_joins_below
def P_is_joining : PSt := (sSeq (sIf (tOrP (tNotP (tOf (eCall gIsi (aCons (eV 1) (aCons (eC (.ty "tuple")) aNil))))) (tOf (eOp dNe (eCall gLen (aCons (eV 1) aNil)) (eOp dSub (eV 0) (eC (.int 1)))))) (sRet (eC (.bl false))) sNext)
    (sSeq (sOwn 2 eSet0)
    (sSeq (sFor (Pu.iEnumS (eV 1) (eV 0)) (gtTup 2 (gtCons (gtName 3) (gtCons (gtName 4) gtNil)))
    (sSeq (sIf (tNotP (tOf (eCall (fun ds k => ds.length = 2 ∧ wp_joins_below ds k) (aCons (eV 3) (aCons (eV 4) aNil))))) (sRet (eC (.bl false))) sNext)
    (sSeq (sAsg (eV 4) (gtTup 2 (gtCons (gtName 5) (gtCons (gtName 6) gtNil))))
    (sSeq (sIf (tOrP (tOf (eOp dSin (eV 5) (eO 2))) (tOf (eOp dSin (eV 6) (eO 2)))) (sRet (eC (.bl false))) sNext)
    (sSeq (sSAdd 2 (eV 5))
    (sSAdd 2 (eV 6)))))))
    (sFrz 2 (sRet (eC (.bl true)))))))
def wp_is_joining : List D → (D → Prop) → Prop := wpOf false 7 P_is_joining
def P_show_wires : PSt := (sSeq (sOwn 2 (eLst (aCons (eJs ((eC (.str (Str.ofString "wires "))) :: ((eFmt (eCall gLen (aCons (eV 0) aNil))) :: []))) aNil)))
    (sSeq (sExtL 2 (eLc [3, 4, 5, 6] (iSeq (eV 0)) (gtTup 4 (gtCons (gtName 3) (gtCons (gtName 4) (gtCons (gtName 5) (gtCons (gtName 6) gtNil))))) (fun _ k => k true) (eJs ((eC (.str (Str.ofString "end "))) :: ((eFmt (eV 3)) :: ((eC (.str (Str.ofString " "))) :: ((eFmt (eV 4)) :: ((eC (.str (Str.ofString " "))) :: ((eFmt (eV 5)) :: ((eC (.str (Str.ofString " "))) :: ((eFmt (eV 6)) :: [])))))))))))
    (sSeq (sExtL 2 (eLc [7, 8] (iSeq (eV 1)) (gtTup 2 (gtCons (gtName 7) (gtCons (gtName 8) gtNil))) (fun _ k => k true) (eJs ((eC (.str (Str.ofString "join "))) :: ((eFmt (eV 7)) :: ((eC (.str (Str.ofString " "))) :: ((eFmt (eV 8)) :: [])))))))
    (sFrz 2 (sRet (eM1 gJoin (eC (.str (Str.ofString "\n"))) (eV 2)))))))
def wp_show_wires : List D → (D → Prop) → Prop := wpOf false 9 P_show_wires
def P_lines_of : PSt := (sSeq (sIf (tNotP (tOf (eCall gIsi (aCons (eV 0) (aCons (eC (.ty "str")) aNil))))) sNever sNext)
    (sRet (eM1 gSplit (eV 0) (eC (.str (Str.ofString "\n"))))))
def wp_lines_of : List D → (D → Prop) → Prop := wpOf false 1 P_lines_of
def P_is_number : PSt := (sSeq (sSet 1 (eM1 gRemove (eV 0) (eC (.str (Str.ofString "-")))))
    (sSeq (sIf (tOrP (tNotP (tOf (eChain dLe dLe (eC (.int 1)) (eCall gLen (aCons (eV 1) aNil)) (eC (.int 30))))) (tNotP (tOf (eAsk true [2] (iStr' (eV 1)) (gtName 2) (eOp (dSin' false) (eV 2) (eC (.str (Str.ofString "0123456789")))))))) (sRet (eC (.bl false))) sNext)
    (sRet (eOr (eOp dNe (eOp dIx (eV 1) (eC (.int 0))) (eC (.str (Str.ofString "0")))) (eOp dEq (eV 0) (eC (.str (Str.ofString "0"))))))))
def wp_is_number : List D → (D → Prop) → Prop := wpOf false 3 P_is_number
def P_numbers_of : PSt := (sSeq (sSet 2 (eM1 gSplit (eV 0) (eC (.str (Str.ofString " ")))))
    (sSeq (sIf (tOrP (tOf (eOp dNe (eCall gLen (aCons (eV 2) aNil)) (eV 1))) (tNotP (tOf (eAsk true [3] (iSeq (eV 2)) (gtName 3) (eCall (fun ds k => ds.length = 1 ∧ wp_is_number ds k) (aCons (eV 3) aNil)))))) sNever sNext)
    (sRet (eUn dTuple (eLc [3] (iSeq (eV 2)) (gtName 3) (fun _ k => k true) (eCall gIntS (aCons (eV 3) aNil)))))))
def wp_numbers_of : List D → (D → Prop) → Prop := wpOf false 4 P_numbers_of
def P_numbers_behind : PSt := (sSeq (sIf (tNotP (tOf (eM1 gStarts (eV 1) (eV 0)))) sNever sNext)
    (sRet (eCall (fun ds k => ds.length = 2 ∧ wp_numbers_of ds k) (aCons (eM1 gRemove (eV 1) (eV 0)) (aCons (eV 2) aNil)))))
def wp_numbers_behind : List D → (D → Prop) → Prop := wpOf false 3 P_numbers_behind
def P_read_wires : PSt := (sSeq (sSet 1 (eCall (fun ds k => ds.length = 1 ∧ wp_lines_of ds k) (aCons (eV 0) aNil)))
    (sSeq (sSet 2 (eOp dIx (eCall (fun ds k => ds.length = 3 ∧ wp_numbers_behind ds k) (aCons (eC (.str (Str.ofString "wires "))) (aCons (eOp dIx (eV 1) (eC (.int 0))) (aCons (eC (.int 1)) aNil)))) (eC (.int 0))))
    (sSeq (sIf (tOrP (tNotP (tOf (eChain dLe dLe (eC (.int 1)) (eV 2) (eC (.int 24))))) (tOf (eOp dNe (eCall gLen (aCons (eV 1) aNil)) (eOp dMul (eC (.int 2)) (eV 2))))) sNever sNext)
    (sSeq (sSet 3 (eUn dTuple (eLc [4] (iSeq (eSl (eV 1) (oPart (eC (.int 1))) (oPart (eOp dAdd (eV 2) (eC (.int 1)))))) (gtName 4) (fun _ k => k true) (eCall (fun ds k => ds.length = 3 ∧ wp_numbers_behind ds k) (aCons (eC (.str (Str.ofString "end "))) (aCons (eV 4) (aCons (eC (.int 4)) aNil)))))))
    (sSeq (sSet 5 (eUn dTuple (eLc [4] (iSeq (eSl (eV 1) (oPart (eOp dAdd (eV 2) (eC (.int 1)))) oNo)) (gtName 4) (fun _ k => k true) (eCall (fun ds k => ds.length = 3 ∧ wp_numbers_behind ds k) (aCons (eC (.str (Str.ofString "join "))) (aCons (eV 4) (aCons (eC (.int 2)) aNil)))))))
    (sSeq (sIf (tOrP (tNotP (tOf (eCall (fun ds k => ds.length = 1 ∧ wp_is_ends ds k) (aCons (eV 3) aNil)))) (tNotP (tOf (eCall (fun ds k => ds.length = 2 ∧ wp_is_joining ds k) (aCons (eV 2) (aCons (eV 5) aNil)))))) sNever sNext)
    (sRet (eTup (aCons (eV 3) (aCons (eV 5) aNil))))))))))
def wp_read_wires : List D → (D → Prop) → Prop := wpOf false 6 P_read_wires
def P__law_number : PSt := (sSeq (sIf (tOf (eOp dEq (eV 1) (eC (.int 0)))) (sRet (eCall (fun ds k => ds.length = 2 ∧ wp__law_draw ds k) (aCons (eV 0) (aCons (eC (.int 7)) aNil)))) sNext)
    (sSeq (sIf (tOf (eOp dEq (eV 1) (eC (.int 1)))) (sRet (eOp dDiv (eOp dIx (eLst (aCons (eC (.int 1000000)) (aCons (eUn dNeg (eC (.int 1000000))) aNil))) (eCall (fun ds k => ds.length = 2 ∧ wp__law_draw ds k) (aCons (eV 0) (aCons (eC (.int 2)) aNil)))) (eOp dAdd (eC (.int 1)) (eCall (fun ds k => ds.length = 2 ∧ wp__law_draw ds k) (aCons (eV 0) (aCons (eC (.int 3)) aNil)))))) sNext)
    (sRet (eOp dSub (eCall (fun ds k => ds.length = 2 ∧ wp__law_draw ds k) (aCons (eV 0) (aCons (eOp dAdd (eOp dMul (eC (.int 2)) (eC (.int 1000000))) (eC (.int 1))) aNil))) (eC (.int 1000000))))))
def wp__law_number : List D → (D → Prop) → Prop := wpOf false 2 P__law_number
def P__law_end : PSt := (sSeq (sSet 3 (eLst (aCons (eCall (fun ds k => ds.length = 2 ∧ wp__law_number ds k) (aCons (eV 0) (aCons (eV 1) aNil))) (aCons (eCall (fun ds k => ds.length = 2 ∧ wp__law_number ds k) (aCons (eV 0) (aCons (eV 1) aNil))) aNil))))
    (sSeq (sSet 4 (eC (.int 0)))
    (sSeq (sIf (tNotP (tOf (eV 2))) (sSet 4 (eOp dIx (eLst (aCons (eC (.int 0)) (aCons (eCall (fun ds k => ds.length = 2 ∧ wp__law_draw ds k) (aCons (eV 0) (aCons (eC (.int 6)) aNil))) (aCons (eCall (fun ds k => ds.length = 2 ∧ wp__law_draw ds k) (aCons (eV 0) (aCons (eOp dAdd (eC (.int 1000000)) (eC (.int 1))) aNil))) (aCons (eC (.int 1000000)) aNil))))) (eCall (fun ds k => ds.length = 2 ∧ wp__law_draw ds k) (aCons (eV 0) (aCons (eC (.int 4)) aNil))))) sNext)
    (sRet (eTup (aCons (eOp dIx (eV 3) (eC (.int 0))) (aCons (eOp dIx (eV 3) (eC (.int 1))) (aCons (eV 4) (aCons (eOp dIx (eLst (aCons (eCall (fun ds k => ds.length = 2 ∧ wp__law_draw ds k) (aCons (eV 0) (aCons (eC (.int 10)) aNil))) (aCons (eCall (fun ds k => ds.length = 2 ∧ wp__law_draw ds k) (aCons (eV 0) (aCons (eOp dAdd (eC (.int 1000000)) (eC (.int 1))) aNil))) aNil))) (eCall (fun ds k => ds.length = 2 ∧ wp__law_draw ds k) (aCons (eV 0) (aCons (eC (.int 2)) aNil)))) aNil)))))))))
def wp__law_end : List D → (D → Prop) → Prop := wpOf false 5 P__law_end
def P__law_ends : PSt := (sSeq (sSet 1 (eOp dAdd (eC (.int 1)) (eCall (fun ds k => ds.length = 2 ∧ wp__law_draw ds k) (aCons (eV 0) (aCons (eOp dIx (eLst (aCons (eC (.int 6)) (aCons (eC (.int 24)) aNil))) (eCall gInt (aCons (eOp dEq (eCall (fun ds k => ds.length = 2 ∧ wp__law_draw ds k) (aCons (eV 0) (aCons (eC (.int 8)) aNil))) (eC (.int 5))) aNil))) aNil)))))
    (sSeq (sSet 2 (eCall (fun ds k => ds.length = 2 ∧ wp__law_draw ds k) (aCons (eV 0) (aCons (eC (.int 3)) aNil))))
    (sSeq (sSet 3 (eOp dEq (eCall (fun ds k => ds.length = 2 ∧ wp__law_draw ds k) (aCons (eV 0) (aCons (eC (.int 2)) aNil))) (eC (.int 0))))
    (sSeq (sOwn 4 (eLst aNil))
    (sSeq (sFor (iRange1 (aCons (eV 1) aNil)) (gtName 5)
    (sSeq (sSet 6 (eOp dEq (eCall (fun ds k => ds.length = 2 ∧ wp__law_draw ds k) (aCons (eV 0) (aCons (eC (.int 4)) aNil))) (eC (.int 1))))
    (sSeq (sSet 7 (eCall (fun ds k => ds.length = 3 ∧ wp__law_end ds k) (aCons (eV 0) (aCons (eV 2) (aCons (eV 3) aNil)))))
    (sSeq (sIf (tAndP (tOf (eV 6)) (tOf (eOp dNe (eO 4) (eLst aNil)))) (sSet 7 (eOp dAdd (eSl (eOp dIx (eO 4) (eCall (fun ds k => ds.length = 2 ∧ wp__law_draw ds k) (aCons (eV 0) (aCons (eCall gLen (aCons (eO 4) aNil)) aNil)))) oNo (oPart (eC (.int 2)))) (eSl (eV 7) (oPart (eC (.int 2))) oNo))) sNext)
    (sAppend 4 (eV 7))))))
    (sFrz 4 (sRet (eUn dTuple (eV 4)))))))))
def wp__law_ends : List D → (D → Prop) → Prop := wpOf false 8 P__law_ends
def P__law_joining : PSt := (sSeq (sOwn 2 (eRg1 .lst (eV 1)))
    (sSeq (sSet 3 (eOp dEq (eCall (fun ds k => ds.length = 2 ∧ wp__law_draw ds k) (aCons (eV 0) (aCons (eC (.int 8)) aNil))) (eC (.int 3))))
    (sSeq (sOwn 4 (eLst aNil))
    (sSeq (sFor (iRange1 (aCons (eOp dSub (eV 1) (eC (.int 1))) aNil)) (gtName 5)
    (sSeq (sSet 6 (eCall (fun ds k => ds.length = 2 ∧ wp__law_draw ds k) (aCons (eV 0) (aCons (eC (.int 2)) aNil))))
    (sSeq (sIf (tOf (eV 3)) (sSetM 7 (mLst (mCons (mPop0 2) (mCons (mPop 2 (eC (.int 0))) mNil)))) (sSetM 7 (mLst (mCons (mPop 2 (eCall (fun ds k => ds.length = 2 ∧ wp__law_draw ds k) (aCons (eV 0) (aCons (eCall gLen (aCons (eO 2) aNil)) aNil)))) (mCons (mPop 2 (eCall (fun ds k => ds.length = 2 ∧ wp__law_draw ds k) (aCons (eV 0) (aCons (eCall gLen (aCons (eO 2) aNil)) aNil)))) mNil)))))
    (sSeq (sAppend 4 (eTup (aCons (eOp dIx (eV 7) (eV 6)) (aCons (eOp dIx (eV 7) (eOp dSub (eC (.int 1)) (eV 6))) aNil))))
    (sAppend 2 (eOp dAdd (eV 1) (eV 5)))))))
    (sFrz 2 (sFrz 4 (sRet (eUn dTuple (eV 4)))))))))
def wp__law_joining : List D → (D → Prop) → Prop := wpOf false 8 P__law_joining
def P__law_great : PSt := (sSeq (sSet 3 (eCall (fun ds k => ds.length = 2 ∧ wp__law_draw ds k) (aCons (eV 0) (aCons (eC (.int 4)) aNil))))
    (sSeq (sSet 4 (eOp dIx (eLst (aCons (eOp dAdd (eC (.int 1)) (eCall (fun ds k => ds.length = 2 ∧ wp__law_draw ds k) (aCons (eV 0) (aCons (eV 1) aNil)))) (aCons (eV 1) aNil))) (eCall gInt (aCons (eOp dEq (eV 3) (eC (.int 3))) aNil))))
    (sSeq (sSet 5 (eOp dAdd (eC (.int 1)) (eCall (fun ds k => ds.length = 2 ∧ wp__law_draw ds k) (aCons (eV 0) (aCons (eC (.int 9)) aNil)))))
    (sSeq (sFor (iRange1 (aCons (eOp dSub (eV 4) (eC (.int 1))) aNil)) (gtName 6)
    (sSet 5 (eOp dAdd (eOp dMul (eC (.int 10)) (eV 5)) (eCall (fun ds k => ds.length = 2 ∧ wp__law_draw ds k) (aCons (eV 0) (aCons (eC (.int 10)) aNil))))))
    (sSeq (sIf (tOf (eOp dEq (eV 3) (eC (.int 0)))) (sRet (eC (.int 0))) sNext)
    (sRet (eOp dIx (eLst (aCons (eV 5) (aCons (eUn dNeg (eV 5)) aNil))) (eCall gInt (aCons (eAnd (eV 2) (eOp dEq (eV 3) (eC (.int 1)))) aNil)))))))))
def wp__law_great : List D → (D → Prop) → Prop := wpOf false 7 P__law_great
def P__law_written : PSt := (sSeq (sSet 2 (eOp dAdd (eC (.str (Str.ofString "wires "))) (eCall gStrI (aCons (eCall gLen (aCons (eV 0) aNil)) aNil))))
    (sSeq (sFor (iSeq (eV 0)) (gtTup 4 (gtCons (gtName 3) (gtCons (gtName 4) (gtCons (gtName 5) (gtCons (gtName 6) gtNil)))))
    (sSeq (sSet 2 (eOp dAdd (eOp dAdd (eOp dAdd (eOp dAdd (eV 2) (eC (.str (Str.ofString "\nend ")))) (eCall gStrI (aCons (eV 3) aNil))) (eC (.str (Str.ofString " ")))) (eCall gStrI (aCons (eV 4) aNil))))
    (sSet 2 (eOp dAdd (eOp dAdd (eOp dAdd (eOp dAdd (eV 2) (eC (.str (Str.ofString " ")))) (eCall gStrI (aCons (eV 5) aNil))) (eC (.str (Str.ofString " ")))) (eCall gStrI (aCons (eV 6) aNil))))))
    (sSeq (sFor (iSeq (eV 1)) (gtTup 2 (gtCons (gtName 7) (gtCons (gtName 8) gtNil)))
    (sSet 2 (eOp dAdd (eOp dAdd (eOp dAdd (eOp dAdd (eV 2) (eC (.str (Str.ofString "\njoin ")))) (eCall gStrI (aCons (eV 7) aNil))) (eC (.str (Str.ofString " ")))) (eCall gStrI (aCons (eV 8) aNil)))))
    (sRet (eV 2)))))
def wp__law_written : List D → (D → Prop) → Prop := wpOf false 9 P__law_written
def P__law_is_pair : PSt := (sSeq (sIf (tOrP (tNotP (tOf (eCall gIsi (aCons (eV 0) (aCons (eC (.ty "tuple")) aNil))))) (tOf (eOp dNe (eV 0) (eTup (aCons (eV 1) (aCons (eV 2) aNil)))))) (sRet (eC (.bl false))) sNext)
    (sSeq (sFor (iSeq (eV 0)) (gtName 3)
    (sFor (iSeq (eV 3)) (gtName 4)
    (sSeq (sIf (tNotP (tOf (eCall gIsi (aCons (eV 4) (aCons (eC (.ty "tuple")) aNil))))) (sRet (eC (.bl false))) sNext)
    (sIf (tOf (eOp dNe (eLc [5] (iSeq (eV 4)) (gtName 5) (tOf (eCall gIsi (aCons (eV 5) (aCons (eC (.ty "bool")) aNil)))) (eV 5)) (eLst aNil))) (sRet (eC (.bl false))) sNext))))
    (sRet (eC (.bl true)))))
def wp__law_is_pair : List D → (D → Prop) → Prop := wpOf false 6 P__law_is_pair
def P__law_greater : PSt := (sSeq (sOwn 2 (eLst aNil))
    (sSeq (sFor (iSeq (eV 1)) (gtName 3)
    (sSeq (sSet 3 (eTup (aCons (eCall (fun ds k => ds.length = 3 ∧ wp__law_great ds k) (aCons (eV 0) (aCons (eC (.int 30)) (aCons (eC (.bl true)) aNil)))) (aCons (eCall (fun ds k => ds.length = 3 ∧ wp__law_great ds k) (aCons (eV 0) (aCons (eC (.int 30)) (aCons (eC (.bl true)) aNil)))) aNil))))
    (sSeq (sSet 3 (eOp dAdd (eV 3) (eTup (aCons (eCall (fun ds k => ds.length = 3 ∧ wp__law_great ds k) (aCons (eV 0) (aCons (eC (.int 30)) (aCons (eC (.bl false)) aNil)))) (aCons (eCall (fun ds k => ds.length = 3 ∧ wp__law_great ds k) (aCons (eV 0) (aCons (eC (.int 30)) (aCons (eC (.bl false)) aNil)))) aNil)))))
    (sAppend 2 (eV 3)))))
    (sFrz 2 (sRet (eUn dTuple (eV 2))))))
def wp__law_greater : List D → (D → Prop) → Prop := wpOf false 4 P__law_greater
def P_law : PSt := (sSeq (sFor (iRange1 (aCons (eC (.int 2)) aNil)) (gtName 2)
    (sSeq (sSet 3 (eCall (fun ds k => ds.length = 1 ∧ wp__law_ends ds k) (aCons (eV 1) aNil)))
    (sSeq (sSet 4 (eCall (fun ds k => ds.length = 2 ∧ wp__law_joining ds k) (aCons (eV 1) (aCons (eCall gLen (aCons (eV 3) aNil)) aNil))))
    (sSeq (sSet 5 (eCall (fun ds k => ds.length = 2 ∧ wp__law_written ds k) (aCons (eV 3) (aCons (eV 4) aNil))))
    (sSeq (sFor (iRange1 (aCons (eC (.int 2)) aNil)) (gtName 6)
    (sSeq (sSet 7 (eCall (fun ds k => ds.length = 2 ∧ wp_show_wires ds k) (aCons (eV 3) (aCons (eV 4) aNil))))
    (sIf (tOrP (tNotP (tOf (eCall gIsi (aCons (eV 7) (aCons (eC (.ty "str")) aNil))))) (tOrP (tOf (eOp dNe (eV 7) (eV 5))) (tNotP (tOf (eCall (fun ds k => ds.length = 3 ∧ wp__law_is_pair ds k) (aCons (eCall (fun ds k => ds.length = 1 ∧ wp_read_wires ds k) (aCons (eV 5) aNil)) (aCons (eV 3) (aCons (eV 4) aNil)))))))) (sRet (eC (.bl false))) sNext)))
    (sSeq (sSet 8 (eCall (fun ds k => ds.length = 2 ∧ wp__law_greater ds k) (aCons (eV 1) (aCons (eV 3) aNil))))
    (sSeq (sIf (tNotP (tOf (eCall (fun ds k => ds.length = 3 ∧ wp__law_is_pair ds k) (aCons (eCall (fun ds k => ds.length = 1 ∧ wp_read_wires ds k) (aCons (eCall (fun ds k => ds.length = 2 ∧ wp__law_written ds k) (aCons (eV 8) (aCons (eV 4) aNil))) aNil)) (aCons (eV 8) (aCons (eV 4) aNil)))))) (sRet (eC (.bl false))) sNext)
    (sIf (tNotP (tOf (eCall (fun ds k => ds.length = 3 ∧ wp__law_is_pair ds k) (aCons (eCall (fun ds k => ds.length = 1 ∧ wp_read_wires ds k) (aCons (eCall (fun ds k => ds.length = 2 ∧ wp_show_wires ds k) (aCons (eV 3) (aCons (eV 4) aNil))) aNil)) (aCons (eV 3) (aCons (eV 4) aNil)))))) (sRet (eC (.bl false))) sNext))))))))
    (sRet (eC (.bl true))))
end Ew
namespace Ew
open PySem PySem.Spec PyProof.Rows L2 Pu
variable [Tbs]
section
local macro_rules | `(tactic| walk_at "pscall") => `(tactic| fail)
local macro_rules | `(tactic| walk_at "psside") => `(tactic| first
  | exact Or.inl ⟨by decide, by decide⟩
  | exact Or.inr ⟨by decide, by decide⟩
  | exact ⟨by decide, by decide, by decide⟩
  | exact ⟨by decide, by decide⟩
  | decide
  | omega
  | (unfold CMul; omega)
  | (unfold CDiv; omega))
local macro_rules | `(tactic| walk_at "ps") => `(tactic| first
  | with_reducible refine nx_i ?_
  | with_reducible refine rt_i ?_
  | with_reducible refine blK_i ?_
  | with_reducible refine sSeq_set ?_
  | with_reducible refine sSeq_setM ?_
  | with_reducible refine sSetM_i ?_
  | ((with_reducible refine' sDput_i ?ps1 ?_); (case ps1 => exact rfl))
  | ((with_reducible refine' eO_d ?ps1 ?_); (case ps1 => exact rfl))
  | with_reducible refine dDin_i ?_
  | with_reducible refine mE_i ?_
  | with_reducible refine mLst_i ?_
  | with_reducible refine mTup_i ?_
  | with_reducible refine mCons_i ?_
  | with_reducible refine mNil_i ?_
  | ((with_reducible refine' mPop_i ?ps1 ?_); (case ps1 => exact rfl))
  | ((with_reducible refine' mPop0_i ?ps1 ?_); (case ps1 => exact rfl))
  | with_reducible refine sSeq_ifr ?_
  | with_reducible refine sSeq_asg ?_
  | with_reducible refine sSeq_own ?_
  | with_reducible refine sSeq_app ?_
  | with_reducible refine sSeq_for ?_
  | with_reducible refine sSeq_par ?_
  | with_reducible refine sSeq_drop ?_
  | with_reducible refine sSeq_put ?_
  | with_reducible refine sSeq_pop ?_
  | with_reducible refine sSeq_ifn ?_
  | ((with_reducible refine' eV_i ?ps1 ?_); (case ps1 => exact rfl))
  | with_reducible refine eOp_i ?_
  | with_reducible refine eC_i ?_
  | ((with_reducible refine' dIx_t ?ps1 ?_); (case ps1 => exact rfl))
  | with_reducible refine dI0_i ?_
  | with_reducible refine dAdd_i ?_
  | with_reducible refine aCons_i ?_
  | with_reducible refine dEq_int ?_
  | with_reducible refine dNe_int ?_
  | with_reducible refine aNil_i ?_
  | with_reducible refine eCall_i ?_
  | walk_at "pscall"
  | ((with_reducible refine' and_rfl ?ps1 ?_); (case ps1 => exact rfl))
  | with_reducible refine sSet_i ?_
  | with_reducible refine sNext_i ?_
  | with_reducible refine sRet_i ?_
  | with_reducible refine eTup_i ?_
  | ((with_reducible refine' and_le ?ps1 ?_); (case ps1 => exact rfl))
  | with_reducible refine tOf_i ?_
  | with_reducible refine sIf_i ?_
  | with_reducible refine tAndP_i ?_
  | with_reducible refine tOrP_i ?_
  | with_reducible refine tNotP_i ?_
  | with_reducible refine gMax_2 ?_
  | with_reducible refine gMin_2 ?_
  | with_reducible refine gMax_3 ?_
  | with_reducible refine gMin_3 ?_
  | with_reducible refine gMax_4 ?_
  | with_reducible refine gMin_4 ?_
  | with_reducible refine gMax_5 ?_
  | with_reducible refine gAbs_i ?_
  | with_reducible refine gLen_t ?_
  | with_reducible refine gLen_l ?_
  | with_reducible refine gInt_i ?_
  | with_reducible refine gInt_b ?_
  | ((with_reducible refine' gIsi_i ?ps1 ?ps2 ?_); (case ps1 => exact rfl); (case ps2 => exact rfl))
  | with_reducible refine sAsg_i ?_
  | ((with_reducible refine' gtTup_i ?ps1 ?_); (case ps1 => exact rfl))
  | with_reducible refine gtCons_i ?_
  | with_reducible refine gtNil_i ?_
  | with_reducible refine gtName_i ?_
  | with_reducible refine sPar_i ?_
  | with_reducible refine prK_i ?_
  | with_reducible refine inK_i ?_
  | with_reducible refine sqK_t ?_
  | with_reducible refine sqK_l ?_
  | with_reducible refine bk_i ?_
  | with_reducible refine ct_i ?_
  | with_reducible refine eUn_i ?_
  | with_reducible refine dNeg_i ?_
  | with_reducible refine dNot_i ?_
  | with_reducible refine eAnd_i ?_
  | with_reducible refine eOr_i ?_
  | with_reducible refine eChain_i ?_
  | with_reducible refine eIf_i ?_
  | ((with_reducible refine' dIx_l ?ps1 ?_); (case ps1 => exact rfl))
  | with_reducible refine eLst_i ?_
  | with_reducible refine dTuple_l ?_
  | with_reducible refine dTuple_t ?_
  | with_reducible refine dList_l ?_
  | with_reducible refine dList_t ?_
  | ((with_reducible refine' eO_i ?ps1 ?_); (case ps1 => exact rfl))
  | with_reducible refine sOwn_i ?_
  | ((with_reducible refine' and_lt ?ps1 ?_); (case ps1 => exact rfl))
  | ((with_reducible refine' sAppend_i ?ps1 ?_); (case ps1 => exact rfl))
  | ((with_reducible refine' sFrz_i ?ps1 ?_); (case ps1 => exact rfl))
  | ((with_reducible refine' sRetO_i ?ps1 ?_); (case ps1 => exact rfl))
  | with_reducible refine sRetN_i ?_
  | with_reducible refine sDrop_i ?_
  | with_reducible refine sFor_i ?_
  | with_reducible refine iRange1_i ?_
  | with_reducible refine iRange2_i ?_
  | with_reducible refine iSeq_i ?_
  | with_reducible refine iEnumS_i ?_
  | with_reducible refine iEnum0_i ?_
  | with_reducible refine en0K_t ?_
  | with_reducible refine en0K_l ?_
  | with_reducible refine iRev1_i ?_
  | with_reducible refine sSeq_ins ?_
  | with_reducible refine sSeq_aug ?_
  | ((with_reducible refine' sAug_i ?ps1 ?_); (case ps1 => exact rfl))
  | ((with_reducible refine' sInsert_i ?ps1 ?_); (case ps1 => exact rfl))
  | ((with_reducible refine' sPopAt_i ?ps1 ?_); (case ps1 => exact rfl))
  | with_reducible refine eSl_i ?_
  | with_reducible refine eLc_i ?_
  | with_reducible refine eLc2_i ?_
  | with_reducible refine oNo_i ?_
  | with_reducible refine oPart_i ?_
  | with_reducible refine dSl_t ?_
  | with_reducible refine dSl_l ?_
  | with_reducible refine dRevL_i ?_
  | with_reducible refine eRg1_i ?_
  | with_reducible refine bCase_t ?_
  | with_reducible refine bCase_f ?_
  | with_reducible refine ite_t ?_
  | with_reducible refine ite_f ?_
  | with_reducible refine ite_nt ?_
  | with_reducible refine ite_nf ?_
  | ((with_reducible refine' dII_i ?ps1 ?_); (case ps1 => walk_at "psside")))

local macro_rules | `(tactic| walk_at "psenv") => `(tactic| simp only [List.map_cons, List.map_nil, List.cons_append, List.nil_append, List.length_cons, List.length_nil, Nat.reduceAdd, Nat.reduceSub, List.replicate])
theorem draw_i {m : Int} {k : D → Prop} (m0 : 0 < m) (m1 : m < 1073741824) (h : ∀ t : Int, 0 ≤ t → t < m → k (.int t)) : wp__law_draw [.deck 1, .int m] k := ⟨⟨m0, m1⟩, h⟩
theorem rangeD_at {lo : Int} {n i : Nat} {d : D} (h : (rangeD lo n)[i]? = some d) : d = .int (lo + (i : Nat)) ∧ i < n := by
  have hl := (List.getElem?_eq_some_iff.mp h).1
  have hi : i < n := by simpa [rangeD] using hl
  refine ⟨?_, hi⟩
  simpa [rangeD, hi, List.getElem?_map, List.getElem?_range] using h.symm
theorem rangeD_len {lo : Int} {n : Nat} : (rangeD lo n).length = n := by simp [rangeD]
abbrev Jn := List (Int × Int)
abbrev jD (r : Int × Int) : D := .tup [.int r.1, .int r.2]
theorem perm_er {α : Type} : ∀ {W : List α} {i : Nat} {x : α}, W[i]? = some x → W.Perm (x :: W.eraseIdx i)
  | [], i, x, h => by simp at h
  | w :: W, 0, x, h => by simp at h; subst h; exact List.Perm.refl _
  | w :: W, i + 1, x, h => by
    have := perm_er (W := W) (i := i) (x := x) (by simpa using h)
    exact (this.cons w).trans (List.Perm.swap x w _)
theorem er_map {α β : Type} (f : α → β) : ∀ (W : List α) (i : Nat), (W.map f).eraseIdx i = (W.eraseIdx i).map f
  | [], i => by simp
  | w :: W, 0 => by simp
  | w :: W, i + 1 => by simp [er_map f W i]
def rgI (n : Nat) : List Int := (List.range n).map fun i : Nat => ((i : Nat) : Int)
theorem rgI_succ (n : Nat) : rgI (n + 1) = rgI n ++ [(n : Int)] := by
  unfold rgI
  rw [List.range_succ, List.map_append]
  rfl
def at? {α : Type} (L : List (List α)) (i : Int) : List α := (L[i.toNat]?).getD []
def ext {α : Type} (L : List (List α)) : Jn → List (List α)
  | [] => L
  | r :: J => ext (L ++ [at? L r.1 ++ at? L r.2]) J
def JV : Nat → Jn → Prop
  | _, [] => True
  | n, r :: J => (0 ≤ r.1 ∧ r.1 < n ∧ 0 ≤ r.2 ∧ r.2 < n) ∧ JV (n + 1) J
def sds (J : Jn) : List Int := J.flatMap fun r => [r.1, r.2]
structure JInv (n i : Nat) (W : List Int) (J : Jn) : Prop where
  wl : W.length + i = n
  jl : J.length = i
  v : JV n J
  use : (sds J ++ W).Perm (rgI (n + i))
  few : ∀ {α : Type} (L : List (List α)), L.length = n → ∀ i, (at? (ext L J) i).length ≤ L.flatten.length
  all : ∀ {α : Type} (L : List (List α)), L.length = n → (W.flatMap fun w => at? (ext L J) w).Perm L.flatten
/-- a joining of n ends, each knot but the last one in just one row -/
structure JOk (n : Nat) (J : Jn) : Prop where
  v : JV n J
  len : J.length + 1 = n
  use : (sds J ++ [(n : Int) + J.length - 1]).Perm (rgI (n + J.length))
  all : ∀ {α : Type} (L : List (List α)), L.length = n → (at? (ext L J) ((n : Int) + J.length - 1)).Perm L.flatten
  few : ∀ {α : Type} (L : List (List α)), L.length = n → ∀ i, (at? (ext L J) i).length ≤ L.flatten.length
theorem len_fl {α : Type} : ∀ {L : List (List α)} {l : List α}, l ∈ L → l.length ≤ L.flatten.length
  | a :: L, l, h => by
    rw [List.flatten_cons, List.length_append]
    rcases List.mem_cons.mp h with q | q
    · rw [q]; omega
    · have := len_fl q; omega
theorem at_len {α : Type} {L : List (List α)} {i : Int} : (at? L i).length ≤ L.flatten.length := by
  unfold at?
  cases q : L[i.toNat]? with
  | none => simp
  | some l => exact len_fl (List.mem_of_getElem? q)
theorem rgI_len (n : Nat) : (rgI n).length = n := by simp [rgI]
theorem JInv.start (n : Nat) : JInv n 0 (rgI n) [] := by
  refine ⟨by rw [rgI_len]; rfl, rfl, trivial, List.Perm.refl _, fun L _ i => at_len, ?_⟩
  intro α L hL
  have : (rgI n).flatMap (fun w => at? (ext L []) w) = L.flatten := by
    unfold rgI
    rw [List.flatMap_map, ← hL]
    show (List.range L.length).flatMap (fun i => at? L ((i : Nat) : Int)) = _
    have e : L = (List.range L.length).map fun i => at? L ((i : Nat) : Int) := by
      apply List.ext_getElem?
      intro i
      by_cases hi : i < L.length
      · rw [List.getElem?_map, List.getElem?_range hi]
        show _ = some (at? L (i : Int))
        unfold at?
        rw [Int.toNat_natCast, List.getElem?_eq_getElem hi]
        rfl
      · rw [List.getElem?_eq_none (by omega), List.getElem?_eq_none (by simp; omega)]
    rw [List.flatMap_def, ← e]
  rw [this]
theorem ext_len {α : Type} : ∀ (J : Jn) (L : List (List α)), (ext L J).length = L.length + J.length
  | [], L => rfl
  | r :: J, L => by unfold ext; rw [ext_len J]; simp; omega
theorem ext_snoc {α : Type} : ∀ (J : Jn) (L : List (List α)) (r : Int × Int), ext L (J ++ [r]) = ext L J ++ [at? (ext L J) r.1 ++ at? (ext L J) r.2]
  | [], L, r => rfl
  | q :: J, L, r => by
    show ext (L ++ [at? L q.1 ++ at? L q.2]) (J ++ [r]) = _
    rw [ext_snoc J]
    rfl
theorem jv_snoc : ∀ (J : Jn) (n : Nat) (r : Int × Int), JV n J → 0 ≤ r.1 → r.1 < (n + J.length : Nat) → 0 ≤ r.2 → r.2 < (n + J.length : Nat) → JV n (J ++ [r])
  | [], n, r, _, h1, h2, h3, h4 => ⟨⟨h1, by simpa using h2, h3, by simpa using h4⟩, trivial⟩
  | q :: J, n, r, hv, h1, h2, h3, h4 => ⟨hv.1, jv_snoc J (n + 1) r hv.2 h1 (by simp at h2 ⊢; omega) h3 (by simp at h4 ⊢; omega)⟩
theorem rgI_mem {n : Nat} {w : Int} : w ∈ rgI n ↔ 0 ≤ w ∧ w < n := by
  unfold rgI
  rw [List.mem_map]
  constructor
  · rintro ⟨i, hi, rfl⟩
    have := List.mem_range.mp hi
    omega
  · rintro ⟨h0, h1⟩
    exact ⟨w.toNat, List.mem_range.mpr (by omega), by omega⟩
theorem JInv.bnd {n i : Nat} {W : List Int} {J : Jn} (h : JInv n i W J) {w : Int} (hw : w ∈ W) : 0 ≤ w ∧ w < (n + i : Nat) := rgI_mem.mp (h.use.mem_iff.mp (List.mem_append_right _ hw))
theorem JInv.step {n i : Nat} {W W2 W' : List Int} {J : Jn} {x y : Int} {r : Int × Int} (h : JInv n i W J) (hx : W.Perm (x :: y :: W2)) (hr : r = (x, y) ∨ r = (y, x)) (hW' : W'.Perm (((n + i : Nat) : Int) :: W2)) : JInv n (i + 1) W' (J ++ [r]) := by
  have bx := h.bnd (hx.mem_iff.mpr List.mem_cons_self)
  have by' := h.bnd (hx.mem_iff.mpr (List.mem_cons_of_mem _ List.mem_cons_self))
  have hr1 : 0 ≤ r.1 ∧ r.1 < (n + i : Nat) ∧ 0 ≤ r.2 ∧ r.2 < (n + i : Nat) := by
    rcases hr with rfl | rfl
    · exact ⟨bx.1, bx.2, by'.1, by'.2⟩
    · exact ⟨by'.1, by'.2, bx.1, bx.2⟩
  have hjl := h.jl
  have hw2 : ∀ w ∈ W2, 0 ≤ w ∧ w < (n + i : Nat) := fun w q => h.bnd (hx.mem_iff.mpr (List.mem_cons_of_mem _ (List.mem_cons_of_mem _ q)))
  have p1 : ∀ {α : Type} (L : List (List α)), (W.flatMap fun w => at? (ext L J) w).Perm (at? (ext L J) x ++ (at? (ext L J) y ++ W2.flatMap fun w => at? (ext L J) w)) := fun L => by
    refine (List.Perm.flatMap_right _ hx).trans ?_
    rw [List.flatMap_cons, List.flatMap_cons]
  refine ⟨?_, by simp [hjl], jv_snoc J n r h.v hr1.1 (by rw [hjl]; exact hr1.2.1) hr1.2.2.1 (by rw [hjl]; exact hr1.2.2.2), ?_, fun {α} L hL j => ?_, fun {α} L hL => ?_⟩
  · have l1 := hx.length_eq
    have l2 := hW'.length_eq
    have l3 := h.wl
    simp only [List.length_cons] at l1 l2
    omega
  · have e : sds (J ++ [r]) = sds J ++ [r.1, r.2] := by simp [sds]
    rw [e, show n + (i + 1) = (n + i) + 1 by omega, rgI_succ]
    have q1 : (sds J ++ [r.1, r.2] ++ W').Perm (sds J ++ (x :: y :: W2) ++ [((n + i : Nat) : Int)]) := by
      rw [List.append_assoc, List.append_assoc]
      refine List.Perm.append_left _ ?_
      have q2 : ([r.1, r.2] : List Int).Perm [x, y] := by
        rcases hr with rfl | rfl
        · exact List.Perm.refl _
        · exact List.Perm.swap _ _ _
      refine (List.Perm.append q2 hW').trans ?_
      show (x :: y :: ((n + i : Nat) : Int) :: W2).Perm (x :: y :: (W2 ++ [((n + i : Nat) : Int)]))
      exact ((List.perm_append_singleton _ _).symm.cons y).cons x
    refine q1.trans (List.Perm.append_right _ ?_)
    exact (List.Perm.append_left _ hx.symm).trans h.use
  · have p2 := (p1 L).length_eq
    rw [(h.all L hL).length_eq, List.length_append, List.length_append] at p2
    rw [ext_snoc]
    unfold at?
    by_cases q : j.toNat < (ext L J).length
    · rw [List.getElem?_append_left q]
      exact h.few L hL j
    · rw [List.getElem?_append_right (Nat.not_lt.mp q)]
      cases w : j.toNat - (ext L J).length with
      | zero =>
        show (at? (ext L J) r.1 ++ at? (ext L J) r.2).length ≤ _
        rw [List.length_append]
        rcases hr with rfl | rfl
        · show (at? (ext L J) x).length + (at? (ext L J) y).length ≤ _
          omega
        · show (at? (ext L J) y).length + (at? (ext L J) x).length ≤ _
          omega
      | succ w => simp
  · have el : (ext L J).length = n + i := by rw [ext_len, hL, hjl]
    have o : ∀ w : Int, 0 ≤ w → w < (n + i : Nat) → at? (ext L (J ++ [r])) w = at? (ext L J) w := fun w w0 w1 => by
      rw [ext_snoc]
      unfold at?
      rw [List.getElem?_append_left (by omega)]
    have nw : at? (ext L (J ++ [r])) ((n + i : Nat) : Int) = at? (ext L J) r.1 ++ at? (ext L J) r.2 := by
      rw [ext_snoc]
      unfold at?
      rw [Int.toNat_natCast, ← el]
      simp
    refine (List.Perm.flatMap_right _ hW').trans ?_
    rw [List.flatMap_cons, nw]
    have e2 : (W2.flatMap fun w => at? (ext L (J ++ [r])) w) = W2.flatMap fun w => at? (ext L J) w := by
      rw [List.flatMap_def, List.flatMap_def]
      congr 1
      exact List.map_congr_left fun w q => o w (hw2 w q).1 (hw2 w q).2
    rw [e2]
    refine List.Perm.trans ?_ (h.all L hL)
    refine List.Perm.trans ?_ (p1 L).symm
    rcases hr with rfl | rfl
    · rw [List.append_assoc]
    · rw [← List.append_assoc]
      exact List.Perm.append_right _ List.perm_append_comm
theorem JInv.done {n i : Nat} {w : Int} {J : Jn} (h : JInv n i [w] J) (hw : w = (n : Int) + i - 1) : JOk n J := by
  have h1 := h.wl
  have h2 := h.jl
  simp only [List.length_singleton] at h1
  subst h2
  subst hw
  refine ⟨h.v, by omega, h.use, fun {α} L hL => ?_, h.few⟩
  have := h.all L hL
  rw [List.flatMap_cons, List.flatMap_nil, List.append_nil] at this
  exact this
theorem seqIx {i : Int} {n : Nat} (h0 : 0 ≤ i) (h1 : i < n) : seqIndex? i n = some i.toNat := by
  unfold seqIndex?
  simp
  omega
theorem joining_i {n : Nat} {k : D → Prop} (n0 : 1 ≤ n) (n1 : n ≤ 24) (h : ∀ J, JOk n J → k (.tup (J.map jD))) : wp__law_joining [.deck 1, .int n] k := by
  unfold wp__law_joining wpOf
  walk_at "psenv"
  unfold P__law_joining
  repeat walk_at "ps"
  refine dRg_i (by omega) ?_
  repeat walk_at "ps"
  refine draw_i (by decide) (by decide) fun t t0 t1 => ?_
  repeat walk_at "ps"
  refine rgK1_i (by omega) (by omega) ?_
  generalize decide (t = 3) = bb
  have hr : rangeD 0 ((n : Int) - 0).toNat = (rgI n).map D.int := by
    unfold rangeD rgI
    rw [List.map_map, show ((n : Int) - 0).toNat = n by omega]
    apply List.map_congr_left
    intro i _
    show D.int (0 + (i : Int)) = D.int (i : Int)
    rw [Int.zero_add]
  rw [hr]
  refine forP_i (fun i env => ∃ (W : List Int) (J : Jn) (v5 v6 v7 : SV), env = [SV.val (.deck 1), SV.val (.int n), SV.own (.lst (W.map D.int)), SV.val (.bl bb), SV.own (.lst (J.map jD)), v5, v6, v7] ∧ JInv n i W J ∧ W.getLast? = some ((n : Int) + i - 1)) _ 0 ⟨rgI n, [], _, _, _, rfl, JInv.start n, ?_⟩ ?_ ?_
  · obtain ⟨m, rfl⟩ : ∃ m, n = m + 1 := ⟨n - 1, by omega⟩
    rw [rgI_succ, List.getLast?_append]
    simp
  · rintro i d env hd ⟨W, J, v5, v6, v7, rfl, hI, hla⟩ N hN
    obtain ⟨rfl, hi⟩ := rangeD_at hd
    have hW := hI.wl
    have hJ := hI.jl
    have hW2 : 2 ≤ W.length := by omega
    repeat walk_at "ps"
    refine draw_i (by decide) (by decide) fun tu tu0 tu1 => ?_
    repeat walk_at "ps"
    have two : ∀ (W : List Int) (a : Nat), a < W.length → ∃ x W1, (W.map D.int)[a]? = some (.int x) ∧ (W.map D.int).eraseIdx a = W1.map D.int ∧ W.Perm (x :: W1) := fun W a ha =>
      ⟨W[a], W.eraseIdx a, by rw [List.getElem?_map, List.getElem?_eq_getElem ha]; rfl, er_map _ _ _, perm_er (List.getElem?_eq_getElem ha)⟩
    refine sSeq_mid (fun env => ∃ (x y : Int) (W2 : List Int), W.Perm (x :: y :: W2) ∧ env = [SV.val (.deck 1), SV.val (.int n), SV.own (.lst (W2.map D.int)), SV.val (.bl bb), SV.own (.lst (J.map jD)), SV.val (.int (0 + (i : Nat))), SV.val (.int tu), SV.val (.lst [.int x, .int y])]) ?_ ?_
    · intro N' hN'
      repeat walk_at "ps"
      cases bb with
      | true =>
        repeat walk_at "ps"
        obtain ⟨x, W1, h1, h2, h3⟩ := two W (W.length - 1) (by omega)
        have hl3 := h3.length_eq
        simp only [List.length_cons] at hl3
        refine ⟨.int x, by rw [List.length_map]; exact h1, ?_⟩
        have h4 : (W.map D.int).dropLast = W1.map D.int := by
          rw [← h2, ← List.eraseIdx_length_sub_one, List.length_map]
        rw [h4]
        repeat walk_at "ps"
        obtain ⟨y, W2, g1, g2, g3⟩ := two W1 0 (by omega)
        refine ⟨by decide, 0, .int y, seqIx (i := 0) (by decide) (by rw [List.length_map]; omega), g1, ?_⟩
        rw [g2]
        repeat walk_at "ps"
        exact hN' _ ⟨x, y, W2, h3.trans (g3.cons x), rfl⟩
      | false =>
        repeat walk_at "ps"
        rw [List.length_map]
        refine draw_i (by omega) (by omega) fun a a0 a1 => ?_
        obtain ⟨x, W1, h1, h2, h3⟩ := two W a.toNat (by omega)
        have hl3 := h3.length_eq
        simp only [List.length_cons] at hl3
        refine ⟨by omega, a.toNat, .int x, seqIx a0 a1, h1, ?_⟩
        rw [h2]
        repeat walk_at "ps"
        rw [List.length_map]
        refine draw_i (by omega) (by omega) fun b b0 b1 => ?_
        obtain ⟨y, W2, g1, g2, g3⟩ := two W1 b.toNat (by omega)
        refine ⟨by omega, b.toNat, .int y, seqIx b0 b1, g1, ?_⟩
        rw [g2]
        repeat walk_at "ps"
        exact hN' _ ⟨x, y, W2, h3.trans (g3.cons x), rfl⟩
    rintro env ⟨x, y, W2, hxy, rfl⟩
    have hl3 := hxy.length_eq
    simp only [List.length_cons] at hl3
    have fin : ∀ r : Int × Int, (r = (x, y) ∨ r = (y, x)) → ∀ v5 v6 v7, N [SV.val (.deck 1), SV.val (.int n), SV.own (.lst ((W2 ++ [(n : Int) + i]).map D.int)), SV.val (.bl bb), SV.own (.lst ((J ++ [r]).map jD)), v5, v6, v7] := by
      intro r hr v5 v6 v7
      refine hN _ ⟨_, _, _, _, _, rfl, ?_, ?_⟩
      · rw [Nat.zero_add] at hI ⊢
        exact hI.step hxy hr (List.perm_append_singleton _ _)
      · rw [List.getLast?_append]
        simp
        omega
    have : tu = 0 ∨ tu = 1 := by omega
    rcases this with rfl | rfl
    · repeat walk_at "ps"
      refine ⟨by rw [List.length_map]; omega, ?_⟩
      repeat walk_at "ps"
      refine ⟨by rw [List.length_map]; omega, ?_⟩
      have := fin (x, y) (.inl rfl)
      rw [List.map_append, List.map_append] at this
      rw [Int.zero_add]
      exact this _ _ _
    · repeat walk_at "ps"
      refine ⟨by rw [List.length_map]; omega, ?_⟩
      repeat walk_at "ps"
      refine ⟨by rw [List.length_map]; omega, ?_⟩
      have := fin (y, x) (.inr rfl)
      rw [List.map_append, List.map_append] at this
      rw [Int.zero_add]
      exact this _ _ _
  · rintro env ⟨W, J, v5, v6, v7, rfl, hI, hla⟩
    rw [rangeD_len] at *
    have hW := hI.wl
    repeat walk_at "ps"
    obtain ⟨w, rfl⟩ : ∃ w, W = [w] := List.length_eq_one_iff.mp (by omega)
    refine h J (hI.done ?_)
    simpa using hla
theorem askP_d {fin : Bool} {pg : PGt} {pe : PX} {env : List SV} {k : D → Prop} (b : D → Bool) (ds : List D) (hs : ∀ x ∈ ds, ∀ k' : D → Prop, k' (.bl (b x)) → pg x env fun env1 => pe env1 k') (hk : k (.bl (if fin = true then ds.all b else ds.any b))) : askP fin pg pe env ds k := by
  have := askP_i (fun x : D => x) b ds hs hk
  rw [List.map_id'] at this
  exact this
def isTup : D → Bool
  | .tup _ => true
  | _ => false
theorem isi_tup {d : D} {k : D → Prop} (h : tyD d ≠ none) (hk : k (.bl (isTup d))) : gIsi [d, .ty "tuple"] k := by
  cases d <;> first | exact (h rfl).elim | exact gIsi_i rfl rfl hk
def Gd0 (d : D) : Prop := tyD d ≠ none
def Gd1 (d : D) : Prop := tyD d ≠ none ∧ ∀ xs, d = .tup xs → ∀ x ∈ xs, Gd0 x
def Gd2 (d : D) : Prop := tyD d ≠ none ∧ ∀ xs, d = .tup xs → ∀ x ∈ xs, Gd1 x
def endB : D → Bool
  | .tup [.int _, .int _, .int c, .int d] => decide (0 ≤ c) && decide (0 ≤ d)
  | _ => false
def endsB : D → Bool
  | .tup xs => !xs.isEmpty && xs.all endB
  | _ => false
def isWh : D → Bool
  | .int _ => true
  | _ => false
def whB (n : Int) : D → Bool
  | .tup xs => decide ((xs.length : Int) = n) && xs.all isWh
  | _ => false
theorem not_tup {d : D} (h : isTup d = false) (n : Int) : whB n d = false ∧ endB d = false ∧ endsB d = false := by
  cases d <;> first | exact ⟨rfl, rfl, rfl⟩ | cases h
theorem tup_of {d : D} (h : isTup d = true) : ∃ xs, d = .tup xs := by
  cases d with
  | tup xs => exact ⟨xs, rfl⟩
  | _ => cases h
def isIntB : D → Bool
  | .int _ => true
  | .bl _ => true
  | _ => false
def isBl : D → Bool
  | .bl _ => true
  | _ => false
theorem isi_int {d : D} {k : D → Prop} (h : tyD d ≠ none) (hk : k (.bl (isIntB d))) : gIsi [d, .ty "int"] k := by
  cases d <;> first | exact (h rfl).elim | exact gIsi_i rfl rfl hk
theorem isi_bl {d : D} {k : D → Prop} (h : tyD d ≠ none) (hk : k (.bl (isBl d))) : gIsi [d, .ty "bool"] k := by
  cases d <;> first | exact (h rfl).elim | exact gIsi_i rfl rfl hk
theorem is_whole_g {d : D} {k : D → Prop} (h : Gd0 d) (hk : k (.bl (isWh d))) : wp_is_whole [d] k := by
  unfold wp_is_whole wpOf
  walk_at "psenv"
  unfold P_is_whole
  repeat walk_at "ps"
  refine isi_int h ?_
  have hk' : k (.bl (isIntB d && !isBl d)) := by
    have e : (isIntB d && !isBl d) = isWh d := by cases d <;> rfl
    rw [e]; exact hk
  cases hi : isIntB d
  · rw [hi] at hk'
    exact hk'
  · rw [hi] at hk'
    repeat walk_at "ps"
    refine isi_bl h ?_
    repeat walk_at "ps"
    exact hk'
theorem are_wholes_g {d : D} {n : Int} {k : D → Prop} (h : Gd1 d) (hk : k (.bl (whB n d))) : wp_are_wholes [d, .int n] k := by
  unfold wp_are_wholes wpOf
  walk_at "psenv"
  unfold P_are_wholes
  repeat walk_at "ps"
  refine isi_tup h.1 ?_
  cases ht : isTup d with
  | false =>
    rw [(not_tup ht n).1] at hk
    repeat walk_at "ps"
    exact hk
  | true =>
    obtain ⟨xs, rfl⟩ := tup_of ht
    repeat walk_at "ps"
    refine ite_n (fun q => ?_) (fun q => ?_)
    · repeat walk_at "ps"
      rw [show whB n (.tup xs) = (decide ((xs.length : Int) = n) && xs.all isWh) from rfl, decide_eq_false q] at hk
      exact hk
    · repeat walk_at "ps"
      refine eAsk_i ?_
      repeat walk_at "ps"
      refine ⟨by simp [noOwn], ?_⟩
      rw [show whB n (.tup xs) = (decide ((xs.length : Int) = n) && xs.all isWh) from rfl, decide_eq_true q, Bool.true_and] at hk
      refine askP_d isWh xs (fun x hx k' hk' => ?_) (by rw [if_pos rfl]; exact hk)
      repeat walk_at "ps"
      exact is_whole_g (h.2 xs rfl x hx) hk'
theorem four_of {d : D} (h : whB 4 d = true) : ∃ a b c e : Int, d = .tup [.int a, .int b, .int c, .int e] := by
  have w : ∀ x : D, isWh x = true → ∃ a, x = .int a := fun x hx => by
    cases x with
    | int a => exact ⟨a, rfl⟩
    | _ => cases hx
  cases d with
  | tup xs =>
    unfold whB at h
    rw [Bool.and_eq_true] at h
    obtain ⟨h1, h2⟩ := h
    have h1 := of_decide_eq_true h1
    match xs, h1, h2 with
    | [x, y, z, u], _, h2 =>
      simp only [List.all_cons, List.all_nil, Bool.and_true, Bool.and_eq_true] at h2
      obtain ⟨a, rfl⟩ := w _ h2.1
      obtain ⟨b, rfl⟩ := w _ h2.2.1
      obtain ⟨c, rfl⟩ := w _ h2.2.2.1
      obtain ⟨e, rfl⟩ := w _ h2.2.2.2
      exact ⟨a, b, c, e, rfl⟩
    | [], h1, _ => simp at h1
    | [_], h1, _ => simp at h1
    | [_, _], h1, _ => simp at h1
    | [_, _, _], h1, _ => simp at h1
    | _ :: _ :: _ :: _ :: _ :: _, h1, _ => simp at h1; omega
  | _ => cases h
theorem endB_wh {d : D} (h : whB 4 d = false) : endB d = false := by
  cases he : endB d with
  | false => rfl
  | true =>
    unfold endB at he
    split at he
    · cases h
    · cases he
theorem is_end_g {d : D} {k : D → Prop} (h : Gd1 d) (hk : k (.bl (endB d))) : wp_is_end [d] k := by
  unfold wp_is_end wpOf
  walk_at "psenv"
  unfold P_is_end
  repeat walk_at "ps"
  refine are_wholes_g h ?_
  cases hw : whB 4 d with
  | false =>
    rw [endB_wh hw] at hk
    exact hk
  | true =>
    obtain ⟨a, b, c, e, rfl⟩ := four_of hw
    rw [show endB (.tup [.int a, .int b, .int c, .int e]) = (decide (0 ≤ c) && decide (0 ≤ e)) from rfl] at hk
    repeat walk_at "ps"
    refine bCase_d (fun q => ?_) (fun q => ?_)
    · rw [decide_eq_true q, Bool.true_and] at hk
      repeat walk_at "ps"
      exact hk
    · rw [decide_eq_false q, Bool.false_and] at hk
      exact hk
theorem is_ends_g {d : D} {k : D → Prop} (h : Gd2 d) (hk : k (.bl (endsB d))) : wp_is_ends [d] k := by
  unfold wp_is_ends wpOf
  walk_at "psenv"
  unfold P_is_ends
  repeat walk_at "ps"
  refine isi_tup h.1 ?_
  cases ht : isTup d with
  | false =>
    rw [(not_tup ht 0).2.2] at hk
    repeat walk_at "ps"
    exact hk
  | true =>
    obtain ⟨xs, rfl⟩ := tup_of ht
    repeat walk_at "ps"
    refine ite_d (fun q => ?_) (fun q => ?_)
    · repeat walk_at "ps"
      have e : xs = [] := List.eq_nil_of_length_eq_zero (by omega)
      subst e
      exact hk
    · repeat walk_at "ps"
      refine eAsk_i ?_
      repeat walk_at "ps"
      refine ⟨by simp [noOwn], ?_⟩
      have e : endsB (.tup xs) = xs.all endB := by
        cases xs with
        | nil => exact (q rfl).elim
        | cons x xs => rfl
      rw [e] at hk
      refine askP_d endB xs (fun x hx k' hk' => ?_) (by rw [if_pos rfl]; exact hk)
      repeat walk_at "ps"
      exact is_end_g (h.2 xs rfl x hx) hk'
def okR (m : Int) (seen : List Int) (a b : Int) : Bool := decide (a ≠ b ∧ 0 ≤ a ∧ a < m ∧ 0 ≤ b ∧ b < m ∧ a ∉ seen ∧ b ∉ seen)
def rowB (m : Int) (seen : List Int) : D → Option (List Int)
  | .tup [.int a, .int b] => if okR m seen a b = true then some (seen ++ [a, b]) else none
  | _ => none
def rowsB : Int → List Int → List D → Bool
  | _, _, [] => true
  | m, seen, d :: ds => match rowB m seen d with
    | some s => rowsB (m + 1) s ds
    | none => false
def joinB (n : Int) : D → Bool
  | .tup xs => decide ((xs.length : Int) = n - 1) && rowsB n [] xs
  | _ => false
theorem rowB_wh {m : Int} {seen : List Int} {d : D} (h : whB 2 d = false) : rowB m seen d = none := by
  unfold rowB
  split
  · cases h
  · rfl
theorem rowsB_no {m : Int} {seen : List Int} {d : D} {ds : List D} (h : rowB m seen d = none) : rowsB m seen (d :: ds) = false := by
  unfold rowsB
  rw [h]
theorem rowsB_yes {m : Int} {seen s : List Int} {d : D} {ds : List D} (h : rowB m seen d = some s) : rowsB m seen (d :: ds) = rowsB (m + 1) s ds := by
  show (match rowB m seen d with | some s => rowsB (m + 1) s ds | none => false) = _
  rw [h]
theorem rowB_at (m : Int) (seen : List Int) (a b : Int) : rowB m seen (.tup [.int a, .int b]) = if okR m seen a b = true then some (seen ++ [a, b]) else none := rfl
theorem wh_of {x : D} (hx : isWh x = true) : ∃ a, x = .int a := by
  cases x with
  | int a => exact ⟨a, rfl⟩
  | _ => cases hx
theorem two_of {d : D} (h : whB 2 d = true) : ∃ a b : Int, d = .tup [.int a, .int b] := by
  cases d with
  | tup xs =>
    unfold whB at h
    rw [Bool.and_eq_true] at h
    obtain ⟨h1, h2⟩ := h
    have h1 := of_decide_eq_true h1
    match xs, h1, h2 with
    | [x, y], _, h2 =>
      simp only [List.all_cons, List.all_nil, Bool.and_true, Bool.and_eq_true] at h2
      obtain ⟨a, rfl⟩ := wh_of h2.1
      obtain ⟨b, rfl⟩ := wh_of h2.2
      exact ⟨a, b, rfl⟩
    | [], h1, _ => simp at h1
    | [_], h1, _ => simp at h1
    | _ :: _ :: _ :: _, h1, _ => simp at h1; omega
  | _ => cases h
theorem joins_g {m : Int} {d : D} {k : D → Prop} (h : Gd1 d) (hf : whB 2 d = false → k (.bl false)) (ht : ∀ a b : Int, d = .tup [.int a, .int b] → k (.bl (decide (a ≠ b ∧ 0 ≤ a ∧ a < m ∧ 0 ≤ b ∧ b < m)))) : wp_joins_below [.int m, d] k := by
  unfold wp_joins_below wpOf
  walk_at "psenv"
  unfold P_joins_below
  repeat walk_at "ps"
  refine are_wholes_g h ?_
  cases hw : whB 2 d with
  | false =>
    repeat walk_at "ps"
    exact hf hw
  | true =>
    obtain ⟨a, b, rfl⟩ := two_of hw
    have hk := ht a b rfl
    repeat walk_at "ps"
    have no : ∀ p : Prop, [Decidable p] → ¬ p → decide p = false := fun p _ q => decide_eq_false q
    by_cases q1 : a = b
    · rw [decide_eq_false (fun w => w.1 q1)] at hk
      rw [decide_eq_true q1]
      exact hk
    · rw [decide_eq_false q1]
      repeat walk_at "ps"
      refine bCase_d (fun q2 => ?_) (fun q2 => ?_)
      · repeat walk_at "ps"
        refine bCase_d (fun q3 => ?_) (fun q3 => ?_)
        · repeat walk_at "ps"
          refine bCase_d (fun q4 => ?_) (fun q4 => ?_)
          · repeat walk_at "ps"
            by_cases q5 : b < m
            · rw [decide_eq_true (show a ≠ b ∧ 0 ≤ a ∧ a < m ∧ 0 ≤ b ∧ b < m from ⟨q1, q2, q3, q4, q5⟩)] at hk
              rw [decide_eq_true q5]
              exact hk
            · rw [decide_eq_false (fun w => q5 w.2.2.2.2)] at hk
              rw [decide_eq_false q5]
              exact hk
          · rw [decide_eq_false (fun w => q4 w.2.2.2.1)] at hk
            exact hk
        · rw [decide_eq_false (fun w => q3 w.2.2.1)] at hk
          exact hk
      · rw [decide_eq_false (fun w => q2 w.2.1)] at hk
        exact hk
theorem sSeq_sadd {i : Nat} {p : PX} {Q : PSt} {env : List SV} {K : PK'} (h : sSAdd i p env { K with nx := fun env' => Q env' K }) : sSeq (sSAdd i p) Q env K := h
theorem not_join {d : D} (h : isTup d = false) (n : Int) : joinB n d = false := by
  cases d <;> first | exact rfl | cases h
set_option maxHeartbeats 1000000 in
theorem is_joining_g {n : Int} {d : D} {k : D → Prop} (n0 : 1 ≤ n) (n1 : n ≤ 24) (h : Gd2 d) (hk : k (.bl (joinB n d))) : wp_is_joining [.int n, d] k := by
  unfold wp_is_joining wpOf
  walk_at "psenv"
  unfold P_is_joining
  repeat walk_at "ps"
  refine isi_tup h.1 ?_
  cases ht : isTup d with
  | false =>
    rw [not_join ht n] at hk
    repeat walk_at "ps"
    exact hk
  | true =>
    obtain ⟨xs, rfl⟩ := tup_of ht
    rw [show joinB n (.tup xs) = (decide ((xs.length : Int) = n - 1) && rowsB n [] xs) from rfl] at hk
    repeat walk_at "ps"
    refine ite_n (fun q => ?_) (fun q => ?_)
    · rw [decide_eq_false q, Bool.false_and] at hk
      repeat walk_at "ps"
      exact hk
    rw [decide_eq_true q, Bool.true_and] at hk
    repeat walk_at "ps"
    refine eSet0_i ?_
    repeat walk_at "ps"
    refine enK_i ⟨by omega, by omega⟩ ?_
    refine forP_i (fun i env => ∃ (seen : List Int) (v3 v4 v5 v6 : SV), seen.length = 2 * i ∧ rowsB n [] xs = rowsB (n + (i : Nat)) seen (xs.drop i) ∧ env = [SV.val (.int n), SV.val (.tup xs), SV.own (.st seen), v3, v4, v5, v6]) _ 0 ⟨[], _, _, _, _, rfl, by simp, rfl⟩ ?_ ?_
    · rintro i d env hd ⟨seen, v3, v4, v5, v6, hs, hr, rfl⟩ N hN
      obtain ⟨y, hy, rfl⟩ := enumD_get hd
      have hi : i < xs.length := (List.getElem?_eq_some_iff.mp hy).1
      rw [Nat.zero_add] at hs hr hN
      have ed : xs.drop i = y :: xs.drop (i + 1) := by
        rw [List.drop_eq_getElem_cons hi]
        congr 1
        exact (List.getElem?_eq_some_iff.mp hy).2
      rw [ed] at hr
      have bad : rowB (n + (i : Nat)) seen y = none → k (.bl false) := fun w => by
        rw [hr, rowsB_no w] at hk
        exact hk
      repeat walk_at "ps"
      refine joins_g (h.2 xs rfl y (List.mem_of_getElem? hy)) (fun w => ?_) (fun a b e => ?_)
      · repeat walk_at "ps"
        exact bad (rowB_wh w)
      subst e
      rw [rowB_at] at bad
      by_cases q1 : a ≠ b ∧ 0 ≤ a ∧ a < n + (i : Nat) ∧ 0 ≤ b ∧ b < n + (i : Nat)
      · rw [decide_eq_true q1]
        repeat walk_at "ps"
        refine eO_s rfl ?_
        refine dSin_i ?_
        by_cases q2 : a ∈ seen
        · rw [decide_eq_true q2]
          repeat walk_at "ps"
          refine bad (if_neg ?_)
          unfold okR
          rw [decide_eq_false (fun w => w.2.2.2.2.2.1 q2)]
          exact Bool.false_ne_true
        · rw [decide_eq_false q2]
          repeat walk_at "ps"
          refine eO_s rfl ?_
          refine dSin_i ?_
          by_cases q3 : b ∈ seen
          · rw [decide_eq_true q3]
            repeat walk_at "ps"
            refine bad (if_neg ?_)
            unfold okR
            rw [decide_eq_false (fun w => w.2.2.2.2.2.2 q3)]
            exact Bool.false_ne_true
          · rw [decide_eq_false q3]
            have hok : okR (n + (i : Nat)) seen a b = true := by
              unfold okR
              exact decide_eq_true ⟨q1.1, q1.2.1, q1.2.2.1, q1.2.2.2.1, q1.2.2.2.2, q2, q3⟩
            repeat walk_at "ps"
            refine sSeq_sadd (sSAdd_i rfl ?_)
            repeat walk_at "ps"
            refine ⟨by omega, ?_⟩
            repeat walk_at "ps"
            refine sSAdd_i rfl ?_
            repeat walk_at "ps"
            refine ⟨by simp; omega, hN _ ⟨seen ++ [a, b], SV.val (.int (n + (i : Nat))), SV.val (.tup [.int a, .int b]), SV.val (.int a), SV.val (.int b), by simp; omega, ?_, ?_⟩⟩
            · rw [hr, rowsB_yes (s := seen ++ [a, b]) (by rw [rowB_at, if_pos hok])]
              rw [show n + ((i + 1 : Nat) : Int) = n + (i : Nat) + 1 by omega]
            · rw [show seen ++ [a, b] = (seen ++ [a]) ++ [b] by simp]
              rfl
      · rw [decide_eq_false q1]
        repeat walk_at "ps"
        refine bad (if_neg ?_)
        unfold okR
        rw [decide_eq_false (fun w => q1 ⟨w.1, w.2.1, w.2.2.1, w.2.2.2.1, w.2.2.2.2.1⟩)]
        exact Bool.false_ne_true
    · rintro env ⟨seen, v3, v4, v5, v6, hs, hr, rfl⟩
      have el : (enumD n xs).length = xs.length := by simp [enumD]
      rw [el, Nat.zero_add, List.drop_length] at hr
      rw [hr] at hk
      repeat walk_at "ps"
      exact hk
theorem rgI_nd (n : Nat) : (rgI n).Nodup := by
  induction n with
  | zero => exact List.nodup_nil
  | succ n ih =>
    rw [rgI_succ, List.nodup_append]
    refine ⟨ih, by simp, fun a ha b hb => ?_⟩
    have := rgI_mem.mp ha
    rw [List.mem_singleton.mp hb]
    omega
theorem JOk.nd {n : Nat} {J : Jn} (h : JOk n J) : (sds J).Nodup := by
  have : (sds J ++ [(n : Int) + J.length - 1]).Nodup := h.use.symm.nodup (rgI_nd _)
  exact (List.nodup_append.mp this).1
theorem sds_cons (r : Int × Int) (J : Jn) : sds (r :: J) = r.1 :: r.2 :: sds J := rfl
theorem rowsB_ok : ∀ (J : Jn) (m : Nat) (seen : List Int), JV m J → (seen ++ sds J).Nodup → rowsB (m : Int) seen (J.map jD) = true
  | [], _, _, _, _ => rfl
  | r :: J, m, seen, hv, hn => by
    obtain ⟨⟨h1, h2, h3, h4⟩, hv'⟩ := hv
    rw [sds_cons] at hn
    have hn' : ((seen ++ [r.1, r.2]) ++ sds J).Nodup := by
      rw [List.append_assoc]
      exact hn
    have hok : okR (m : Int) seen r.1 r.2 = true := by
      unfold okR
      refine decide_eq_true ⟨fun e => ?_, h1, h2, h3, h4, fun q => ?_, fun q => ?_⟩
      · have := (List.nodup_append.mp hn).2.1
        exact (List.nodup_cons.mp this).1 (by rw [e]; exact List.mem_cons_self)
      · exact (List.nodup_append.mp hn).2.2 _ q _ List.mem_cons_self rfl
      · exact (List.nodup_append.mp hn).2.2 _ q _ (List.mem_cons_of_mem _ List.mem_cons_self) rfl
    rw [List.map_cons, rowsB_yes (s := seen ++ [r.1, r.2]) (by rw [show jD r = .tup [.int r.1, .int r.2] from rfl, rowB_at, if_pos hok])]
    exact rowsB_ok J (m + 1) _ hv' hn'
theorem joinB_ok {n : Nat} {J : Jn} (hJ : JOk n J) : joinB (n : Int) (.tup (J.map jD)) = true := by
  have hl := hJ.len
  show (decide (((J.map jD).length : Int) = (n : Int) - 1) && rowsB (n : Int) [] (J.map jD)) = true
  rw [rowsB_ok J n [] hJ.v (by simpa using hJ.nd), decide_eq_true (by rw [List.length_map]; omega)]
  rfl
abbrev e4 (r : Int × Int × Int × Int) : D := .tup [.int r.1, .int r.2.1, .int r.2.2.1, .int r.2.2.2]
theorem pln4 {rs : List (Int × Int × Int × Int)} {n : Nat} : plnA (n + 2) (rs.map e4) = true := by
  rw [plnA_iff]
  intro x hx
  obtain ⟨r, _, rfl⟩ := List.mem_map.mp hx
  simp [pln, plnA]
theorem cut2L {a b c d : D} : Pu.cutD [a, b, c, d] none (some 2) = [a, b] := rfl
theorem cut2R {a b c d : D} : Pu.cutD [a, b, c, d] (some 2) none = [c, d] := rfl
theorem at_nat {α : Type} {xs : List α} {i : Int} {d : α} (h0 : 0 ≤ i) (h : xs[i.toNat]? = some d) : atI xs i = some d := by
  have hl : i.toNat < xs.length := (List.getElem?_eq_some_iff.mp h).1
  unfold atI ixN
  rw [if_pos h0, if_pos (by omega)]
  exact h
theorem plnJ (S : Jn) {n : Nat} : plnA (n + 2) (S.map jD) = true := by
  rw [plnA_iff]
  intro x hx
  obtain ⟨r, _, rfl⟩ := List.mem_map.mp hx
  simp [pln, plnA]
theorem e4_end {r : Int × Int × Int × Int} (h : 0 ≤ r.2.2.1 ∧ 0 ≤ r.2.2.2) : endB (e4 r) = true := by
  show (decide (0 ≤ r.2.2.1) && decide (0 ≤ r.2.2.2)) = true
  rw [decide_eq_true h.1, decide_eq_true h.2]
  rfl
theorem gd1_tup {xs : List D} (h : ∀ x ∈ xs, Gd0 x) : Gd1 (.tup xs) := ⟨fun q => (nomatch q), fun ys e => by cases e; exact h⟩
theorem e4_gd1 (r : Int × Int × Int × Int) : Gd1 (e4 r) := gd1_tup fun x hx => by
  simp only [List.mem_cons, List.not_mem_nil, or_false] at hx
  rcases hx with rfl | rfl | rfl | rfl <;> exact fun q => (nomatch q)
theorem int_gd (i : Int) : Gd0 (.int i) := fun q => (nomatch q)
theorem jD_gd1 (r : Int × Int) : Gd1 (jD r) := gd1_tup fun x hx => by
  simp only [List.mem_cons, List.not_mem_nil, or_false] at hx
  rcases hx with rfl | rfl <;> exact int_gd _
theorem gd2_tup {xs : List D} (h : ∀ x ∈ xs, Gd1 x) : Gd2 (.tup xs) := ⟨fun q => (nomatch q), fun ys e => by cases e; exact h⟩
theorem sSeq_ifs {s : PTs'} {A B Q : PSt} {env : List SV} {K : PK'} (h : sIf s A B env { K with nx := fun env' => Q env' K }) : sSeq (sIf s A B) Q env K := h
theorem lcP_d {pg : PGt} {pt : PTs'} {pe : PX} {env : List SV} {k : List D → Prop} (c : D → Bool) (ds : List D) (hl : ds.length ≤ 100000) (hs : ∀ x ∈ ds, ∀ (A : D → Prop) (B : Prop), (c x = true → A x) → (c x = false → B) → pg x env fun env1 => pt env1 fun b => if b = true then pe env1 A else B) (hk : k (ds.filter c)) : lcP pg pt pe env ds [] k := by
  have := lcP_flt (k := k) (fun x : D => x) c (fun x : D => x) ds hl hs (by rw [List.map_id']; exact hk)
  rw [List.map_id'] at this
  exact this
/-! numbers as texts -/
open TL
def nL (i : Int) : List Nat := if i < 0 then 45 :: numL i.natAbs else numL i.natAbs
theorem tl_sI (i : Int) : tl (strI i) = nL i := by
  unfold strI nL
  by_cases h : i < 0
  · rw [if_pos h]
    obtain ⟨m, rfl⟩ : ∃ m : Nat, i = Int.negSucc m := ⟨(-i - 1).toNat, by omega⟩
    have e : toString (Int.negSucc m) = "-" ++ toString (((m + 1 : Nat) : Int)) := by
      show Int.repr _ = "-" ++ Int.repr _
      rfl
    rw [e, tl_ofString, String.toList_append, List.map_append, ← tl_ofString (toString (((m + 1 : Nat) : Int))), tl_num]
    rfl
  · rw [if_neg h]
    obtain ⟨m, rfl⟩ : ∃ m : Nat, i = (m : Int) := ⟨i.toNat, by omega⟩
    rw [tl_num]
    rfl
theorem nL_free {i : Int} {s : Nat} (h : s < 45 ∨ 57 < s) : s ∉ nL i := by
  unfold nL
  split
  · intro q
    rcases List.mem_cons.mp q with q | q
    · omega
    · exact numL_free (by omega) q
  · exact numL_free (by omega)
structure Fig (i : Int) : Prop where
  b : i.natAbs < 10 ^ 30
theorem fig_len {i : Int} (h : Fig i) : (numL i.natAbs).length ≤ 30 := numL_len (by decide) h.b
theorem nL_len {i : Int} (h : Fig i) : (nL i).length ≤ 31 := by
  have := fig_len h
  unfold nL
  split
  · rw [List.length_cons]; omega
  · omega
theorem sI_len {i : Int} (h : Fig i) : (strI i).length ≤ 31 := by
  rw [len_tl, tl_sI]
  exact nL_len h
theorem fig_log {i : Int} (h : Fig i) : i.natAbs.log2 < 1920 := by
  by_cases z : i.natAbs = 0
  · rw [z]; decide
  · exact (Nat.log2_lt z).mpr (Nat.lt_trans h.b (by decide +kernel))
theorem int_sI {i : Int} (h : Fig i) : PySem.intText? (strI i) = some i := by
  have hd := numL_digits i.natAbs
  have hn := numL_ne i.natAbs
  have hl := sI_len h
  by_cases c : i < 0
  · have e : (strI i).cps.toList = 45 :: numL i.natAbs := by
      show tl (strI i) = _
      rw [tl_sI]
      unfold nL
      rw [if_pos c]
    rw [PySem.intText_neg e hd hn (by omega), numL_val]
    congr 1
    omega
  · have e : (strI i).cps.toList = numL i.natAbs := by
      show tl (strI i) = _
      rw [tl_sI]
      unfold nL
      rw [if_neg c]
    rw [PySem.intText_digits (by rw [e]; exact hd) (by rw [e]; exact hn) (by omega), e, numL_val]
    congr 1
    omega
/-! a text's first part -/
open TL
theorem sub_eq (x y : Str) : Builtin.Str.subAt x y 0 = ((tl x).take (tl y).length == tl y) := by
  rw [StrLaws.subAt_eq, List.drop_zero, len_tl]
theorem starts_tl (x y : Str) : Txt.startswith x y = decide ((tl x).take (tl y).length = tl y) := by
  unfold Txt.startswith
  rw [sub_eq]
  by_cases h : (tl x).take (tl y).length = tl y
  · rw [h, decide_eq_true rfl, beq_self_eq_true, Bool.and_true]
    refine decide_eq_true ?_
    have := congrArg List.length h
    rw [List.length_take] at this
    rw [len_tl, len_tl]
    omega
  · rw [decide_eq_false h, beq_eq_false_iff_ne.mpr h, Bool.and_false]
theorem rm_tl (x y : Str) : tl (Txt.removeprefix x y) = if (tl x).take (tl y).length = tl y then (tl x).drop (tl y).length else tl x := by
  have e := starts_tl x y
  unfold Txt.startswith at e
  rw [StrLaws.removeprefix_eq, e]
  by_cases h : (tl x).take (tl y).length = tl y
  · rw [if_pos h, if_pos (decide_eq_true h)]
    show ((tl x).drop y.length).take (x.length - y.length) = _
    rw [len_tl y, len_tl x]
    exact List.take_of_length_le (by rw [List.length_drop]; omega)
  · rw [if_neg h, if_neg (by rw [decide_eq_false h]; exact Bool.false_ne_true)]
theorem starts_app (a b : Str) : Txt.startswith (a ++ b) a = true := by
  rw [starts_tl, tl_append, List.take_left]
  exact decide_eq_true rfl
theorem rm_app (a b : Str) : Txt.removeprefix (a ++ b) a = b := by
  refine ext_tl ?_
  rw [rm_tl, tl_append, List.take_left, if_pos rfl, List.drop_left]
/-! is_number -/
theorem numL_head {n : Nat} (h : 0 < n) : ∃ c cs, numL n = c :: cs ∧ c ≠ 48 := by
  induction n using Nat.strongRecOn with
  | _ n ih =>
    by_cases c : n < 10
    · exact ⟨48 + n, [], numL_lt c, by omega⟩
    · obtain ⟨d, ds, e, hd⟩ := ih (n / 10) (by omega) (by omega)
      exact ⟨d, ds ++ [48 + n % 10], by rw [numL_step (by omega), e]; rfl, hd⟩
theorem minus_tl : tl (Str.ofString "-") = [45] := by rw [tl_ofString]; rfl
theorem figs_of {i : Int} : tl (Txt.removeprefix (strI i) (Str.ofString "-")) = numL i.natAbs := by
  rw [rm_tl, minus_tl, tl_sI]
  unfold nL
  by_cases h : i < 0
  · rw [if_pos h]
    rfl
  · rw [if_neg h, if_neg]
    intro q
    have h2 : (45 : Nat) ∈ numL i.natAbs := by
      have : (45 : Nat) ∈ (numL i.natAbs).take 1 := by
        rw [show ([45] : List Nat).length = 1 from rfl] at q
        rw [q]
        exact List.mem_cons_self
      exact List.mem_of_mem_take this
    exact numL_free (by omega) h2
theorem dNe_s {a b : Str} {k : D → Prop} (ha : PyData.strOk a = true) (hb : PyData.strOk b = true) (h : k (.bl (!decide (a = b)))) : dNe (.str a) (.str b) k := by
  refine dNe_i (show pln 60 (.str a) = true from ha) (show pln 60 (.str b) = true from hb) fun c hc => ?_
  have : c = decide (a = b) := by
    by_cases e : a = b
    · rw [decide_eq_true e]
      exact hc.mpr (by rw [e])
    · rw [decide_eq_false e]
      exact Bool.eq_false_iff.mpr fun q => e (by have := hc.mp q; injection this)
  rw [this]
  exact h
theorem dEq_s {a b : Str} {k : D → Prop} (ha : PyData.strOk a = true) (hb : PyData.strOk b = true) (h : k (.bl (decide (a = b)))) : dEq (.str a) (.str b) k := by
  refine dEq_i (show pln 60 (.str a) = true from ha) (show pln 60 (.str b) = true from hb) fun c hc => ?_
  have : c = decide (a = b) := by
    by_cases e : a = b
    · rw [decide_eq_true e]
      exact hc.mpr (by rw [e])
    · rw [decide_eq_false e]
      exact Bool.eq_false_iff.mpr fun q => e (by have := hc.mp q; injection this)
  rw [this]
  exact h
theorem strOk_tl {x : Str} (h : ∀ c ∈ tl x, c < 1000) : PyData.strOk x = true := by
  unfold PyData.strOk
  rw [← Array.all_toList, List.all_eq_true]
  intro c hc
  have := h c hc
  exact decide_eq_true (by omega)
theorem nL_small {i : Int} : ∀ c ∈ nL i, c < 1000 := fun c hc => by
  by_cases q : c < 45 ∨ 57 < c
  · exact absurd hc (nL_free q)
  · omega
theorem is_number_i {i : Int} {k : D → Prop} (hi : Fig i) (h : k (.bl true)) : wp_is_number [.str (strI i)] k := by
  have hf := figs_of (i := i)
  have hl := fig_len hi
  have h31 := sI_len hi
  have hd := numL_digits i.natAbs
  have hne := numL_ne i.natAbs
  unfold wp_is_number wpOf
  walk_at "psenv"
  unfold P_is_number
  repeat walk_at "ps"
  refine eM1_i ?_
  repeat walk_at "ps"
  refine strK_i ?_
  repeat walk_at "ps"
  refine gRemove_i (by omega) ?_
  generalize Txt.removeprefix (strI i) (Str.ofString "-") = w at hf ⊢
  have hw : w.length = (numL i.natAbs).length := by rw [len_tl, hf]
  have h1 : 1 ≤ (numL i.natAbs).length := List.length_pos_iff.mpr hne
  repeat walk_at "ps"
  refine ⟨by omega, ?_⟩
  repeat walk_at "ps"
  rw [decide_eq_true (show (1 : Int) ≤ w.length by omega)]
  repeat walk_at "ps"
  rw [decide_eq_true (show (w.length : Int) ≤ 30 by omega)]
  repeat walk_at "ps"
  refine eAsk_i ?_
  refine iStr_i ?_
  repeat walk_at "ps"
  refine strK_i ?_
  refine ⟨by simp [noOwn], ?_⟩
  have fig : ∀ c ∈ w.cps.toList, c ∈ (Str.ofString "0123456789").cps.toList := fun c hc => by
    have h2 := hd c (by rw [← hf]; exact hc)
    have e : (Str.ofString "0123456789").cps.toList = [48, 49, 50, 51, 52, 53, 54, 55, 56, 57] := by
      show tl _ = _
      rw [tl_ofString]
      rfl
    rw [e]
    simp only [List.mem_cons, List.not_mem_nil, or_false]
    omega
  refine askP_d (fun _ => true) _ (fun x hx k' hk' => ?_) ?_
  · obtain ⟨c, hc, rfl⟩ := List.mem_map.mp hx
    repeat walk_at "ps"
    refine dSin_i' ?_
    rw [decide_eq_true (fig c hc)]
    exact hk'
  rw [if_pos rfl, List.all_eq_true.mpr (fun _ _ => rfl)]
  repeat walk_at "ps"
  obtain ⟨c, cs, hcs⟩ := List.exists_cons_of_ne_nil hne
  have h0 : atI w.cps.toList 0 = some c := by
    refine at_nat (Int.le_refl 0) ?_
    show (tl w)[0]? = _
    rw [hf, hcs]
    rfl
  refine ⟨c, by omega, h0, ?_⟩
  repeat walk_at "ps"
  have h48 : tl (Str.ofString "0") = [48] := by rw [tl_ofString]; rfl
  have c1000 : c < 1000 := by
    have := hd c (by rw [hcs]; exact List.mem_cons_self)
    omega
  refine dNe_s (strOk_tl fun x hx => by rw [List.mem_singleton.mp (show x ∈ [c] from hx)]; exact c1000) (by decide +kernel) ?_
  by_cases z : i = 0
  · have hs : strI i = Str.ofString "0" := ext_tl (by rw [tl_sI, h48, z]; rfl)
    by_cases e : (⟨#[c]⟩ : Str) = Str.ofString "0"
    · rw [decide_eq_true e]
      repeat walk_at "ps"
      refine dEq_s (strOk_tl fun x hx => nL_small (i := i) x (by rw [← tl_sI]; exact hx)) (by decide +kernel) ?_
      rw [decide_eq_true hs]
      exact h
    · rw [decide_eq_false e]
      repeat walk_at "ps"
      exact h
  · have hc48 : c ≠ 48 := by
      obtain ⟨d, ds, e, hd48⟩ := numL_head (n := i.natAbs) (by omega)
      rw [hcs] at e
      injection e with e1 e2
      rw [e1]
      exact hd48
    have e : (⟨#[c]⟩ : Str) ≠ Str.ofString "0" := fun q => hc48 (by
      have := congrArg tl q
      rw [h48] at this
      exact (List.cons.inj (show [c] = [48] from this)).1)
    rw [decide_eq_false e]
    repeat walk_at "ps"
    exact h
open TL
/-! lines of numbers -/
theorem joinL_mem {S : List Nat} {c : Nat} : ∀ {ps : List (List Nat)}, c ∈ joinL S ps → c ∈ S ∨ ∃ p ∈ ps, c ∈ p
  | [], h => by cases h
  | [p], h => .inr ⟨p, List.mem_cons_self, h⟩
  | p :: q :: r, h => by
    rcases List.mem_append.mp (show c ∈ p ++ (S ++ joinL S (q :: r)) from h) with h | h
    · exact .inr ⟨p, List.mem_cons_self, h⟩
    · rcases List.mem_append.mp h with h | h
      · exact .inl h
      · rcases joinL_mem h with h | ⟨x, hx, h⟩
        · exact .inl h
        · exact .inr ⟨x, List.mem_cons_of_mem _ hx, h⟩
theorem joinL_len {S : List Nat} {M : Nat} : ∀ {ps : List (List Nat)}, (∀ p ∈ ps, p.length ≤ M) → (joinL S ps).length ≤ ps.length * (M + S.length)
  | [], _ => Nat.zero_le _
  | [p], h => by
    have := h p List.mem_cons_self
    show p.length ≤ 1 * _
    omega
  | p :: q :: r, h => by
    have h1 := h p List.mem_cons_self
    have ih := joinL_len (S := S) (ps := q :: r) fun x hx => h x (List.mem_cons_of_mem _ hx)
    show (p ++ (S ++ joinL S (q :: r))).length ≤ (r.length + 1 + 1) * (M + S.length)
    rw [List.length_append, List.length_append, Nat.succ_mul]
    have : (q :: r).length = r.length + 1 := rfl
    rw [this] at ih
    omega
def sp1 : Str := Str.ofString " "
def nl1 : Str := Str.ofString "\n"
theorem sp_tl : tl sp1 = [32] := by unfold sp1; rw [tl_ofString]; rfl
theorem nl_tl : tl nl1 = [10] := by unfold nl1; rw [tl_ofString]; rfl
def wsT (ws : List Int) : Str := Txt.join sp1 (ws.map strI)
def lnT (h : Str) (ws : List Int) : Str := h ++ wsT ws
theorem wsT_tl (ws : List Int) : tl (wsT ws) = joinL [32] (ws.map nL) := by
  unfold wsT
  rw [join_eq, tl_join, sp_tl, List.map_map]
  congr 1
  exact List.map_congr_left fun i _ => tl_sI i
theorem wsT_len {ws : List Int} (h : ∀ i ∈ ws, Fig i) : (wsT ws).length ≤ ws.length * 32 := by
  rw [len_tl, wsT_tl]
  have := joinL_len (S := [32]) (M := 31) (ps := ws.map nL) fun p hp => by
    obtain ⟨i, hi, rfl⟩ := List.mem_map.mp hp
    exact nL_len (h i hi)
  rw [List.length_map] at this
  exact this
theorem wsT_mem {ws : List Int} {c : Nat} (h : c ∈ tl (wsT ws)) : c = 32 ∨ (45 ≤ c ∧ c ≤ 57) := by
  rw [wsT_tl] at h
  rcases joinL_mem h with h | ⟨p, hp, h⟩
  · exact .inl (List.mem_singleton.mp h)
  · obtain ⟨i, hi, rfl⟩ := List.mem_map.mp hp
    by_cases q : c < 45 ∨ 57 < c
    · exact absurd h (nL_free q)
    · exact .inr (by omega)
theorem wsT_split {ws : List Int} (hn : ws ≠ []) : Txt.split (wsT ws) sp1 = ws.map strI := by
  unfold wsT
  refine split_join (s := 32) (S := []) sp_tl (by decide +kernel) (fun q => hn (List.map_eq_nil_iff.mp q)) fun p hp => ?_
  obtain ⟨i, hi, rfl⟩ := List.mem_map.mp hp
  rw [tl_sI]
  exact nL_free (by omega)
theorem numbers_of_i {ws : List Int} {m : Int} {k : D → Prop} (hm : m = (ws.length : Int)) (hn : ws ≠ []) (hl : ws.length ≤ 10) (hw : ∀ i ∈ ws, Fig i) (h : k (.tup (ws.map D.int))) : wp_numbers_of [.str (wsT ws), .int m] k := by
  subst hm
  have hlen := wsT_len hw
  unfold wp_numbers_of wpOf
  walk_at "psenv"
  unfold P_numbers_of
  repeat walk_at "ps"
  refine eM1_i ?_
  repeat walk_at "ps"
  refine strK_i ?_
  repeat walk_at "ps"
  refine gSplit_i (by decide +kernel) (by omega) ?_
  rw [show Str.ofString " " = sp1 from rfl, wsT_split hn, List.map_map]
  repeat walk_at "ps"
  refine sSeq_ifs ?_
  repeat walk_at "ps"
  rw [List.length_map]
  rw [decide_eq_true (rfl : (ws.length : Int) = ws.length)]
  repeat walk_at "ps"
  refine eAsk_i ?_
  repeat walk_at "ps"
  refine ⟨by simp [noOwn], askP_d (fun _ => true) _ (fun x hx k' hk' => ?_) ?_⟩
  · obtain ⟨i, hi, rfl⟩ := List.mem_map.mp hx
    repeat walk_at "ps"
    exact is_number_i (hw i hi) hk'
  rw [if_pos rfl, List.all_eq_true.mpr (fun _ _ => rfl)]
  repeat walk_at "ps"
  refine ⟨by simp [noOwn], lcP_m (D.str ∘ strI) D.int ws (by omega) (fun i hi A B hA => ?_) ?_⟩
  · repeat walk_at "ps"
    have := sI_len (hw i hi)
    exact gIntS_i (int_sI (hw i hi)) (by omega) hA
  repeat walk_at "ps"
  exact h
theorem numbers_behind_i {hd : Str} {ws : List Int} {m : Int} {k : D → Prop} (hm : m = (ws.length : Int)) (hh : hd.length ≤ 10) (hn : ws ≠ []) (hl : ws.length ≤ 10) (hw : ∀ i ∈ ws, Fig i) (h : k (.tup (ws.map D.int))) : wp_numbers_behind [.str hd, .str (lnT hd ws), .int m] k := by
  have hlen := wsT_len hw
  unfold wp_numbers_behind wpOf
  walk_at "psenv"
  unfold P_numbers_behind
  refine sSeq_ifs ?_
  repeat walk_at "ps"
  refine eM1_i ?_
  repeat walk_at "ps"
  refine strK_i ?_
  repeat walk_at "ps"
  refine gStarts_i ?_
  rw [show Txt.startswith (lnT hd ws) hd = true from starts_app hd (wsT ws)]
  repeat walk_at "ps"
  refine eM1_i ?_
  repeat walk_at "ps"
  refine strK_i ?_
  repeat walk_at "ps"
  refine gRemove_i (by unfold lnT; rw [Str.length_append]; omega) ?_
  rw [show Txt.removeprefix (lnT hd ws) hd = wsT ws from rm_app hd (wsT ws)]
  repeat walk_at "ps"
  exact numbers_of_i hm hn hl hw h
open TL
/-! a text of wires -/
def e4L (r : Int × Int × Int × Int) : List Int := [r.1, r.2.1, r.2.2.1, r.2.2.2]
def FigE (r : Int × Int × Int × Int) : Prop := ∀ i ∈ e4L r, Fig i
def hW : Str := Str.ofString "wires "
def hE : Str := Str.ofString "end "
def hJ : Str := Str.ofString "join "
def linesT (n : Nat) (E : List (Int × Int × Int × Int)) (J : Jn) : List Str := lnT hW [(n : Int)] :: ((E.map fun r => lnT hE (e4L r)) ++ J.map fun r => lnT hJ [r.1, r.2])
def wiresT (n : Nat) (E : List (Int × Int × Int × Int)) (J : Jn) : Str := Txt.join nl1 (linesT n E J)
theorem join_tl (ls : List Str) : tl (Txt.join nl1 ls) = joinL [10] (ls.map tl) := by rw [join_eq, tl_join, nl_tl]
theorem joinL_snoc {S q : List Nat} : ∀ {ps : List (List Nat)}, ps ≠ [] → joinL S (ps ++ [q]) = joinL S ps ++ (S ++ q)
  | [], h => absurd rfl h
  | [p], _ => rfl
  | p :: r :: t, _ => by
    show p ++ (S ++ joinL S (r :: t ++ [q])) = p ++ (S ++ joinL S (r :: t)) ++ (S ++ q)
    rw [joinL_snoc (ps := r :: t) (by simp)]
    simp only [List.append_assoc]
theorem join_snoc {ls : List Str} {q : Str} (h : ls ≠ []) : Txt.join nl1 (ls ++ [q]) = Txt.join nl1 ls ++ (nl1 ++ q) := by
  refine ext_tl ?_
  rw [join_tl, List.map_append, tl_append, tl_append, join_tl, nl_tl]
  exact joinL_snoc fun e => h (List.map_eq_nil_iff.mp e)
theorem lnT_len {h : Str} {ws : List Int} (hh : h.length ≤ 6) (hl : ws.length ≤ 4) (hw : ∀ i ∈ ws, Fig i) : (lnT h ws).length ≤ 134 := by
  have := wsT_len hw
  unfold lnT
  rw [Str.length_append]
  omega
theorem join_len {ls : List Str} (h : ∀ l ∈ ls, l.length ≤ 134) : (Txt.join nl1 ls).length ≤ ls.length * 135 := by
  rw [len_tl, join_tl]
  have := joinL_len (S := [10]) (M := 134) (ps := ls.map tl) fun p hp => by
    obtain ⟨l, hl, rfl⟩ := List.mem_map.mp hp
    rw [← len_tl]
    exact h l hl
  rw [List.length_map] at this
  exact this
theorem fig_small {i : Int} (h0 : -1000000000 < i) (h1 : i < 1000000000) : Fig i := ⟨Nat.lt_of_lt_of_le (show i.natAbs < 10 ^ 9 by omega) (by decide +kernel)⟩
structure Wr (n : Nat) (E : List (Int × Int × Int × Int)) (J : Jn) : Prop where
  n1 : n ≤ 24
  el : E.length ≤ 24
  jl : J.length ≤ 24
  fe : ∀ r ∈ E, FigE r
  fj : ∀ r ∈ J, Fig r.1 ∧ Fig r.2
section
variable {n : Nat} {E : List (Int × Int × Int × Int)} {J : Jn}
theorem Wr.lines (w : Wr n E J) : ∀ l ∈ linesT n E J, l.length ≤ 134 := fun l hl => by
  have := w.n1
  rcases List.mem_cons.mp hl with rfl | hl
  · exact lnT_len (by decide +kernel) (by simp) fun i hi => by rw [List.mem_singleton.mp hi]; exact fig_small (by omega) (by omega)
  rcases List.mem_append.mp hl with hl | hl
  · obtain ⟨r, hr, rfl⟩ := List.mem_map.mp hl
    exact lnT_len (by decide +kernel) (by simp [e4L]) (w.fe r hr)
  · obtain ⟨r, hr, rfl⟩ := List.mem_map.mp hl
    obtain ⟨h1, h2⟩ := w.fj r hr
    refine lnT_len (by decide +kernel) (by simp) fun i hi => ?_
    simp only [List.mem_cons, List.not_mem_nil, or_false] at hi
    rcases hi with rfl | rfl
    · exact h1
    · exact h2
theorem lines_len : (linesT n E J).length = 1 + E.length + J.length := by
  unfold linesT
  rw [List.length_cons, List.length_append, List.length_map, List.length_map]
  omega
theorem Wr.len (w : Wr n E J) : (wiresT n E J).length ≤ 7000 := by
  have h1 := join_len w.lines
  have h2 := w.el
  have h3 := w.jl
  rw [lines_len] at h1
  unfold wiresT
  omega
theorem Wr.cut (w : Wr n E J) (i : Nat) : Wr n (E.take i) [] := ⟨w.n1, by have := w.el; rw [List.length_take]; omega, by decide, fun r hr => w.fe r (List.mem_of_mem_take hr), fun r hr => by cases hr⟩
theorem Wr.cutJ (w : Wr n E J) (i : Nat) : Wr n E (J.take i) := ⟨w.n1, w.el, by have := w.jl; rw [List.length_take]; omega, w.fe, fun r hr => w.fj r (List.mem_of_mem_take hr)⟩
theorem wires_end {r : Int × Int × Int × Int} {i : Nat} (h : E[i]? = some r) : wiresT n (E.take (i + 1)) [] = wiresT n (E.take i) [] ++ (nl1 ++ lnT hE (e4L r)) := by
  unfold wiresT
  rw [← join_snoc (by simp [linesT])]
  congr 1
  unfold linesT
  rw [List.take_succ, h]
  simp
theorem wires_row {r : Int × Int} {i : Nat} (h : J[i]? = some r) : wiresT n E (J.take (i + 1)) = wiresT n E (J.take i) ++ (nl1 ++ lnT hJ [r.1, r.2]) := by
  unfold wiresT
  rw [← join_snoc (by simp [linesT])]
  congr 1
  unfold linesT
  rw [List.take_succ, h]
  simp
end
theorem tl_emp : tl Str.empty = [] := rfl
/-- the parts of an f-string -/
inductive JVs (env : List SV) : List PX → List Str → Prop where
  | nil : JVs env [] []
  | cons {p : PX} {y : Str} {ps : List PX} {ys : List Str} (h : ∀ k : D → Prop, k (.str y) → p env k) (r : JVs env ps ys) : JVs env (p :: ps) (y :: ys)
theorem jsP_all {env : List SV} {k : D → Prop} {ps : List PX} {ys : List Str} (h : JVs env ps ys) : ∀ acc : Str, acc.length + (ys.map Str.length).sum ≤ 100000 → k (.str (ys.foldl (· ++ ·) acc)) → jsP ps acc env k := by
  induction h with
  | nil => intro acc _ hk; exact hk
  | @cons p y ps ys h r ih =>
    intro acc hl hk
    rw [List.map_cons, List.sum_cons] at hl
    refine jsP_c (h _ (strK_i ⟨by rw [Str.length_append]; omega, ih (acc ++ y) (by rw [Str.length_append]; omega) hk⟩))
theorem eJs_all {env : List SV} {k : D → Prop} {ps : List PX} {ys : List Str} (h : JVs env ps ys) (hl : (ys.map Str.length).sum ≤ 100000) (hk : k (.str (ys.foldl (· ++ ·) Str.empty))) : eJs ps env k :=
  jsP_all h Str.empty (by show 0 + _ ≤ _; omega) hk
theorem fold_end {r : Int × Int × Int × Int} : [hE, strI r.1, sp1, strI r.2.1, sp1, strI r.2.2.1, sp1, strI r.2.2.2].foldl (· ++ ·) Str.empty = lnT hE (e4L r) := by
  refine ext_tl ?_
  unfold lnT
  simp only [List.foldl, tl_append, tl_emp, wsT_tl, e4L, List.map, joinL, sp_tl, tl_sI, List.nil_append, List.append_assoc]
theorem fold_row {r : Int × Int} : [hJ, strI r.1, sp1, strI r.2].foldl (· ++ ·) Str.empty = lnT hJ [r.1, r.2] := by
  refine ext_tl ?_
  unfold lnT
  simp only [List.foldl, tl_append, tl_emp, wsT_tl, List.map, joinL, sp_tl, tl_sI, List.nil_append, List.append_assoc]
theorem fold_head {n : Int} : [hW, strI n].foldl (· ++ ·) Str.empty = lnT hW [n] := by
  refine ext_tl ?_
  unfold lnT
  simp only [List.foldl, tl_append, tl_emp, wsT_tl, List.map, joinL, tl_sI, List.nil_append]
open TL
theorem eFmt_v {env : List SV} {k : D → Prop} {p : PX} {i : Int} (hi : Fig i) (h : ∀ k : D → Prop, k (.int i) → p env k) (hk : k (.str (strI i))) : eFmt p env k := eFmt_s (h _ ⟨fig_log hi, hk⟩)
theorem sum4 {a b c d e f g h : Nat} : [a, b, c, d, e, f, g, h].sum = a + b + c + d + e + f + g + h := by
  simp only [List.sum_cons, List.sum_nil]
  omega
theorem sum2 {a b c d : Nat} : [a, b, c, d].sum = a + b + c + d := by
  simp only [List.sum_cons, List.sum_nil]
  omega
theorem hE_len : hE.length = 4 := by decide +kernel
theorem hJ_len : hJ.length = 5 := by decide +kernel
theorem hW_len : hW.length = 6 := by decide +kernel
theorem sp_len : sp1.length = 1 := by decide +kernel
set_option maxHeartbeats 2000000 in
theorem show_i {n : Nat} {E : List (Int × Int × Int × Int)} {J : Jn} {k : D → Prop} (w : Wr n E J) (hn : E.length = n) (h : k (.str (wiresT n E J))) : wp_show_wires [.tup (E.map e4), .tup (J.map jD)] k := by
  have h24 := w.n1
  have hel := w.el
  have hjl := w.jl
  have hfn : Fig (n : Int) := fig_small (by omega) (by omega)
  have l0 := sI_len hfn
  have lE := hE_len; have lJ := hJ_len; have lW := hW_len; have l1 := sp_len
  unfold wp_show_wires wpOf
  walk_at "psenv"
  unfold P_show_wires
  repeat walk_at "ps"
  refine eJs_all (ys := [hW, strI (n : Int)]) (.cons (fun k hk => by (repeat walk_at "ps"); exact hk) (.cons (fun k hk => eFmt_v hfn (fun k hk => by (repeat walk_at "ps"); rw [List.length_map, hn]; exact hk) hk) .nil)) (by show hW.length + ((strI (n : Int)).length + 0) ≤ _; omega) ?_
  rw [fold_head]
  repeat walk_at "ps"
  refine sSeq_extL ?_
  refine sExtL_i rfl ?_
  repeat walk_at "ps"
  refine ⟨by simp [noOwn], lcP_m e4 (fun r => D.str (lnT hE (e4L r))) E (by omega) (fun r hr A B hA => ?_) ?_⟩
  · have f := w.fe r hr
    have f1 := f r.1 (by simp [e4L]); have f2 := f r.2.1 (by simp [e4L]); have f3 := f r.2.2.1 (by simp [e4L]); have f4 := f r.2.2.2 (by simp [e4L])
    have g1 := sI_len f1; have g2 := sI_len f2; have g3 := sI_len f3; have g4 := sI_len f4
    repeat walk_at "ps"
    refine eJs_all (ys := [hE, strI r.1, sp1, strI r.2.1, sp1, strI r.2.2.1, sp1, strI r.2.2.2]) (.cons (fun k hk => by (repeat walk_at "ps"); exact hk) (.cons (fun k hk => eFmt_v f1 (fun k hk => by (repeat walk_at "ps"); exact hk) hk) (.cons (fun k hk => by (repeat walk_at "ps"); exact hk) (.cons (fun k hk => eFmt_v f2 (fun k hk => by (repeat walk_at "ps"); exact hk) hk) (.cons (fun k hk => by (repeat walk_at "ps"); exact hk) (.cons (fun k hk => eFmt_v f3 (fun k hk => by (repeat walk_at "ps"); exact hk) hk) (.cons (fun k hk => by (repeat walk_at "ps"); exact hk) (.cons (fun k hk => eFmt_v f4 (fun k hk => by (repeat walk_at "ps"); exact hk) hk) .nil)))))))) (by rw [show List.map Str.length [hE, strI r.1, sp1, strI r.2.1, sp1, strI r.2.2.1, sp1, strI r.2.2.2] = [hE.length, (strI r.1).length, sp1.length, (strI r.2.1).length, sp1.length, (strI r.2.2.1).length, sp1.length, (strI r.2.2.2).length] from rfl, sum4]; omega) ?_
    rw [fold_end]
    exact hA
  refine lsK_i ⟨by rw [List.length_map]; show 1 + _ ≤ _; omega, ?_⟩
  repeat walk_at "ps"
  refine sSeq_extL ?_
  refine sExtL_i rfl ?_
  repeat walk_at "ps"
  refine ⟨by simp [noOwn], lcP_m jD (fun r => D.str (lnT hJ [r.1, r.2])) J (by omega) (fun r hr A B hA => ?_) ?_⟩
  · obtain ⟨f1, f2⟩ := w.fj r hr
    have g1 := sI_len f1; have g2 := sI_len f2
    repeat walk_at "ps"
    refine eJs_all (ys := [hJ, strI r.1, sp1, strI r.2]) (.cons (fun k hk => by (repeat walk_at "ps"); exact hk) (.cons (fun k hk => eFmt_v f1 (fun k hk => by (repeat walk_at "ps"); exact hk) hk) (.cons (fun k hk => by (repeat walk_at "ps"); exact hk) (.cons (fun k hk => eFmt_v f2 (fun k hk => by (repeat walk_at "ps"); exact hk) hk) .nil)))) (by rw [show List.map Str.length [hJ, strI r.1, sp1, strI r.2] = [hJ.length, (strI r.1).length, sp1.length, (strI r.2).length] from rfl, sum2]; omega) ?_
    rw [fold_row]
    exact hA
  refine lsK_i ⟨by rw [List.length_map, List.length_append, List.length_map]; show 1 + _ + _ ≤ _; omega, ?_⟩
  repeat walk_at "ps"
  refine eM1_i ?_
  repeat walk_at "ps"
  refine strK_i ?_
  repeat walk_at "ps"
  have el : ([D.str (lnT hW [(n : Int)])] ++ E.map (fun r => D.str (lnT hE (e4L r)))) ++ J.map (fun r => D.str (lnT hJ [r.1, r.2])) = (linesT n E J).map D.str := by
    unfold linesT
    rw [List.map_cons, List.map_append, List.map_map, List.map_map]
    rfl
  rw [el]
  have hs : ((linesT n E J).map (·.length)).sum ≤ (linesT n E J).length * 134 := by
    have := w.lines
    generalize linesT n E J = ls at this ⊢
    induction ls with
    | nil => exact Nat.le_refl _
    | cons l ls ih =>
      have h1 := this l List.mem_cons_self
      have h2 := ih fun q hq => this q (List.mem_cons_of_mem _ hq)
      rw [List.map_cons, List.sum_cons, List.length_cons, Nat.succ_mul]
      omega
  have hll := lines_len (n := n) (E := E) (J := J)
  refine gJoin_l ?_ ?_
  · have : (Str.ofString "\n").length = 1 := by decide +kernel
    rw [this]
    omega
  exact h
open TL
theorem nlE_tl : tl (Str.ofString "\nend ") = 10 :: tl hE := by unfold hE; rw [tl_ofString, tl_ofString]; rfl
theorem nlJ_tl : tl (Str.ofString "\njoin ") = 10 :: tl hJ := by unfold hJ; rw [tl_ofString, tl_ofString]; rfl
theorem spo_tl : tl (Str.ofString " ") = [32] := sp_tl
theorem glue_end {T : Str} {r : Int × Int × Int × Int} : T ++ Str.ofString "\nend " ++ strI r.1 ++ Str.ofString " " ++ strI r.2.1 ++ Str.ofString " " ++ strI r.2.2.1 ++ Str.ofString " " ++ strI r.2.2.2 = T ++ (nl1 ++ lnT hE (e4L r)) := by
  refine ext_tl ?_
  unfold lnT
  simp only [tl_append, nlE_tl, spo_tl, nl_tl, wsT_tl, e4L, List.map, joinL, tl_sI, List.append_assoc, List.cons_append, List.nil_append]
theorem glue_row {T : Str} {r : Int × Int} : T ++ Str.ofString "\njoin " ++ strI r.1 ++ Str.ofString " " ++ strI r.2 = T ++ (nl1 ++ lnT hJ [r.1, r.2]) := by
  refine ext_tl ?_
  unfold lnT
  simp only [tl_append, nlJ_tl, spo_tl, nl_tl, wsT_tl, List.map, joinL, tl_sI, List.append_assoc, List.cons_append, List.nil_append]
theorem wires_head {n : Nat} : wiresT n [] [] = Str.ofString "wires " ++ strI (n : Int) := by
  refine ext_tl ?_
  unfold wiresT linesT lnT
  rw [join_tl]
  simp only [List.map, List.append_nil, joinL, tl_append, wsT_tl, tl_sI, hW]
set_option maxHeartbeats 2000000 in
theorem written_i {n : Nat} {E : List (Int × Int × Int × Int)} {J : Jn} {k : D → Prop} (w : Wr n E J) (hn : E.length = n) (h : k (.str (wiresT n E J))) : wp__law_written [.tup (E.map e4), .tup (J.map jD)] k := by
  have h24 := w.n1
  have hfn : Fig (n : Int) := fig_small (by omega) (by omega)
  have l0 := sI_len hfn
  have c1 : (Str.ofString "\nend ").length = 5 := by decide +kernel
  have c2 : (Str.ofString " ").length = 1 := by decide +kernel
  have c3 : (Str.ofString "\njoin ").length = 6 := by decide +kernel
  have c4 : (Str.ofString "wires ").length = 6 := by decide +kernel
  unfold wp__law_written wpOf
  walk_at "psenv"
  unfold P__law_written
  repeat walk_at "ps"
  rw [List.length_map, hn]
  refine gStrI_i (fig_log hfn) ?_
  repeat walk_at "ps"
  refine ⟨by omega, ?_⟩
  rw [← wires_head]
  repeat walk_at "ps"
  refine forP_i (fun i env => ∃ v3 v4 v5 v6 : SV, env = [SV.val (.tup (E.map e4)), SV.val (.tup (J.map jD)), SV.val (.str (wiresT n (E.take i) [])), v3, v4, v5, v6, SV.no, SV.no]) _ 0 ⟨SV.no, SV.no, SV.no, SV.no, rfl⟩ ?_ ?_
  · rintro i d env hd ⟨v3, v4, v5, v6, rfl⟩ N hN
    rw [List.getElem?_map] at hd
    cases hr : E[i]? with
    | none => rw [hr] at hd; cases hd
    | some r =>
      rw [hr] at hd
      cases hd
      rw [Nat.zero_add] at hN ⊢
      have f := w.fe r (List.mem_of_getElem? hr)
      have f1 := f r.1 (by simp [e4L]); have f2 := f r.2.1 (by simp [e4L]); have f3 := f r.2.2.1 (by simp [e4L]); have f4 := f r.2.2.2 (by simp [e4L])
      have g1 := sI_len f1; have g2 := sI_len f2; have g3 := sI_len f3; have g4 := sI_len f4
      have hT := (w.cut i).len
      have hnx := wires_end (n := n) hr
      rw [← glue_end] at hnx
      generalize wiresT n (E.take i) [] = T at hT hnx ⊢
      repeat walk_at "ps"
      refine ⟨by omega, ?_⟩
      repeat walk_at "ps"
      refine gStrI_i (fig_log f1) ?_
      repeat walk_at "ps"
      refine ⟨by simp only [Str.length_append]; omega, ?_⟩
      repeat walk_at "ps"
      refine ⟨by simp only [Str.length_append]; omega, ?_⟩
      repeat walk_at "ps"
      refine gStrI_i (fig_log f2) ?_
      repeat walk_at "ps"
      refine ⟨by simp only [Str.length_append]; omega, ?_⟩
      repeat walk_at "ps"
      refine ⟨by simp only [Str.length_append]; omega, ?_⟩
      repeat walk_at "ps"
      refine gStrI_i (fig_log f3) ?_
      repeat walk_at "ps"
      refine ⟨by simp only [Str.length_append]; omega, ?_⟩
      repeat walk_at "ps"
      refine ⟨by simp only [Str.length_append]; omega, ?_⟩
      repeat walk_at "ps"
      refine gStrI_i (fig_log f4) ?_
      repeat walk_at "ps"
      refine ⟨by simp only [Str.length_append]; omega, ?_⟩
      rw [← hnx]
      exact hN _ ⟨_, _, _, _, rfl⟩
  rintro env ⟨v3, v4, v5, v6, rfl⟩
  rw [List.length_map, Nat.zero_add, List.take_length]
  repeat walk_at "ps"
  refine forP_i (fun i env => ∃ v7 v8 : SV, env = [SV.val (.tup (E.map e4)), SV.val (.tup (J.map jD)), SV.val (.str (wiresT n E (J.take i))), v3, v4, v5, v6, v7, v8]) _ 0 ⟨SV.no, SV.no, rfl⟩ ?_ ?_
  · rintro i d env hd ⟨v7, v8, rfl⟩ N hN
    rw [List.getElem?_map] at hd
    cases hr : J[i]? with
    | none => rw [hr] at hd; cases hd
    | some r =>
      rw [hr] at hd
      cases hd
      rw [Nat.zero_add] at hN ⊢
      obtain ⟨f1, f2⟩ := w.fj r (List.mem_of_getElem? hr)
      have g1 := sI_len f1; have g2 := sI_len f2
      have hT := (w.cutJ i).len
      have hnx := wires_row (n := n) (E := E) hr
      rw [← glue_row] at hnx
      generalize wiresT n E (J.take i) = T at hT hnx ⊢
      repeat walk_at "ps"
      refine ⟨by omega, ?_⟩
      repeat walk_at "ps"
      refine gStrI_i (fig_log f1) ?_
      repeat walk_at "ps"
      refine ⟨by simp only [Str.length_append]; omega, ?_⟩
      repeat walk_at "ps"
      refine ⟨by simp only [Str.length_append]; omega, ?_⟩
      repeat walk_at "ps"
      refine gStrI_i (fig_log f2) ?_
      repeat walk_at "ps"
      refine ⟨by simp only [Str.length_append]; omega, ?_⟩
      rw [← hnx]
      exact hN _ ⟨_, _, rfl⟩
  rintro env ⟨v7, v8, rfl⟩
  rw [List.length_map, Nat.zero_add, List.take_length]
  repeat walk_at "ps"
  exact h
open TL
theorem t6_sIx {n m : Nat} {i : Int} (h : 0 ≤ i) : HT.sIx n m (some i) = min i.toNat n := by
  unfold HT.sIx
  simp only
  rw [if_neg (by omega)]
theorem t6_mid {x : D} {A B : List D} : Pu.cutD (x :: (A ++ B)) (some 1) (some ((A.length : Int) + 1)) = A := by
  unfold Pu.cutD
  rw [t6_sIx (i := 1) (by decide), t6_sIx (i := (A.length : Int) + 1) (by omega)]
  have h1 : min (1 : Int).toNat (x :: (A ++ B)).length = 1 := by rw [List.length_cons]; show min 1 _ = 1; omega
  have h2 : min ((A.length : Int) + 1).toNat (x :: (A ++ B)).length = A.length + 1 := by rw [List.length_cons, List.length_append]; omega
  rw [h1, h2]
  show (A ++ B).take (A.length + 1 - 1) = A
  rw [Nat.add_sub_cancel, List.take_left]
theorem t6_end {x : D} {A B : List D} : Pu.cutD (x :: (A ++ B)) (some ((A.length : Int) + 1)) none = B := by
  unfold Pu.cutD
  rw [t6_sIx (by omega)]
  have h2 : min ((A.length : Int) + 1).toNat (x :: (A ++ B)).length = A.length + 1 := by rw [List.length_cons, List.length_append]; omega
  rw [h2]
  show ((A ++ B).drop A.length).take _ = B
  rw [List.drop_left]
  refine List.take_of_length_le ?_
  show B.length ≤ (x :: (A ++ B)).length - _
  rw [List.length_cons, List.length_append]
  omega
theorem lnT_free {h : Str} {ws : List Int} (hh : 10 ∉ tl h) : 10 ∉ tl (lnT h ws) := by
  unfold lnT
  rw [tl_append]
  intro q
  rcases List.mem_append.mp q with q | q
  · exact hh q
  · have := wsT_mem q
    omega
theorem hW_tl : tl hW = [119, 105, 114, 101, 115, 32] := by unfold hW; rw [tl_ofString]; rfl
theorem hE_tl : tl hE = [101, 110, 100, 32] := by unfold hE; rw [tl_ofString]; rfl
theorem hJ_tl : tl hJ = [106, 111, 105, 110, 32] := by unfold hJ; rw [tl_ofString]; rfl
theorem lines_split {n : Nat} {E : List (Int × Int × Int × Int)} {J : Jn} : Txt.split (wiresT n E J) nl1 = linesT n E J := by
  unfold wiresT
  refine split_join (s := 10) (S := []) nl_tl (by decide +kernel) (by simp [linesT]) fun p hp => ?_
  rcases List.mem_cons.mp hp with rfl | hp
  · exact lnT_free (by rw [hW_tl]; decide)
  rcases List.mem_append.mp hp with hp | hp
  · obtain ⟨r, hr, rfl⟩ := List.mem_map.mp hp
    exact lnT_free (by rw [hE_tl]; decide)
  · obtain ⟨r, hr, rfl⟩ := List.mem_map.mp hp
    exact lnT_free (by rw [hJ_tl]; decide)
theorem lines_of_i {n : Nat} {E : List (Int × Int × Int × Int)} {J : Jn} {k : D → Prop} (w : Wr n E J) (h : k (.lst ((linesT n E J).map D.str))) : wp_lines_of [.str (wiresT n E J)] k := by
  have hl := w.len
  unfold wp_lines_of wpOf
  walk_at "psenv"
  unfold P_lines_of
  refine sSeq_ifs ?_
  repeat walk_at "ps"
  refine eM1_i ?_
  repeat walk_at "ps"
  refine strK_i ?_
  repeat walk_at "ps"
  refine gSplit_i (by decide +kernel) (by omega) ?_
  rw [show Str.ofString "\n" = nl1 from rfl, lines_split]
  exact h
theorem fj_all {r : Int × Int} (h : Fig r.1 ∧ Fig r.2) : ∀ i ∈ [r.1, r.2], Fig i := fun i hi => by
  rcases List.mem_cons.mp hi with q | q
  · rw [q]; exact h.1
  · rw [List.mem_singleton.mp q]; exact h.2
theorem join_line {r : Int × Int} {k : D → Prop} (h : Fig r.1 ∧ Fig r.2) (hk : k (jD r)) : wp_numbers_behind [.str (Str.ofString "join "), .str (lnT hJ [r.1, r.2]), .int 2] k :=
  numbers_behind_i (hd := hJ) (ws := [r.1, r.2]) rfl (by decide +kernel) (by simp) (by simp) (fj_all h) hk
theorem end_line {r : Int × Int × Int × Int} {k : D → Prop} (h : FigE r) (hk : k (e4 r)) : wp_numbers_behind [.str (Str.ofString "end "), .str (lnT hE (e4L r)), .int 4] k :=
  numbers_behind_i (hd := hE) (ws := e4L r) rfl (by decide +kernel) (by simp [e4L]) (by simp [e4L]) h hk
set_option maxHeartbeats 600000 in
theorem read_i {n : Nat} {E : List (Int × Int × Int × Int)} {J : Jn} {k : D → Prop} (w : Wr n E J) (hn : E.length = n) (n0 : 1 ≤ n) (hK : JOk n J) (hp : ∀ r ∈ E, 0 ≤ r.2.2.1 ∧ 0 ≤ r.2.2.2) (h : k (.tup [.tup (E.map e4), .tup (J.map jD)])) : wp_read_wires [.str (wiresT n E J)] k := by
  have h24 := w.n1
  have hjl := hK.len
  have hfn : Fig (n : Int) := fig_small (by omega) (by omega)
  have bJ : J.length ≤ 100000 := by omega
  have bE : E.length ≤ 100000 := by omega
  have b0 : (1 : Int) ≤ (n : Int) := by omega
  have b1 : (n : Int) ≤ 24 := by omega
  unfold wp_read_wires wpOf
  walk_at "psenv"
  unfold P_read_wires
  repeat walk_at "ps"
  refine lines_of_i w ?_
  have el : (linesT n E J).map D.str = .str (lnT hW [(n : Int)]) :: (E.map (fun r => D.str (lnT hE (e4L r))) ++ J.map (fun r => D.str (lnT hJ [r.1, r.2]))) := by
    unfold linesT
    rw [List.map_cons, List.map_append, List.map_map, List.map_map]
    rfl
  rw [el]
  repeat walk_at "ps"
  refine dIx_l (at_nat (Int.le_refl 0) rfl) ?_
  repeat walk_at "ps"
  refine numbers_behind_i (hd := hW) (ws := [(n : Int)]) rfl (by decide +kernel) (by simp) (by simp) (fun i hi => by rw [List.mem_singleton.mp hi]; exact hfn) ?_
  repeat walk_at "ps"
  refine sSeq_ifs ?_
  repeat walk_at "ps"
  rw [decide_eq_true b0]
  repeat walk_at "ps"
  rw [decide_eq_true b1]
  repeat walk_at "ps"
  have hlen : ((D.str (lnT hW [(n : Int)]) :: (E.map (fun r => D.str (lnT hE (e4L r))) ++ J.map (fun r => D.str (lnT hJ [r.1, r.2])))).length : Int) = 2 * (n : Int) := by
    rw [List.length_cons, List.length_append, List.length_map, List.length_map]
    omega
  rw [decide_eq_true hlen]
  repeat walk_at "ps"
  have hA : ((E.map (fun r => D.str (lnT hE (e4L r)))).length : Int) = (n : Int) := by rw [List.length_map, hn]
  have cm : ∀ x : D, Pu.cutD (x :: (E.map (fun r => D.str (lnT hE (e4L r))) ++ J.map (fun r => D.str (lnT hJ [r.1, r.2])))) (some 1) (some ((n : Int) + 1)) = E.map (fun r => D.str (lnT hE (e4L r))) := fun x => by
    rw [← hA]
    exact t6_mid
  have ce : ∀ x : D, Pu.cutD (x :: (E.map (fun r => D.str (lnT hE (e4L r))) ++ J.map (fun r => D.str (lnT hJ [r.1, r.2])))) (some ((n : Int) + 1)) none = J.map (fun r => D.str (lnT hJ [r.1, r.2])) := fun x => by
    rw [← hA]
    exact t6_end
  rw [cm]
  refine ⟨⟨trivial, trivial⟩, lcP_m (fun r => D.str (lnT hE (e4L r))) e4 E bE (fun r hr A B hB => ?_) ?_⟩
  · repeat walk_at "ps"
    exact end_line (w.fe r hr) hB
  repeat walk_at "ps"
  rw [ce]
  refine ⟨?_, ?_⟩
  · exact ⟨trivial, trivial⟩
  refine lcP_m (α := Int × Int) (fun r : Int × Int => D.str (lnT hJ [r.1, r.2])) (fun r : Int × Int => jD r) J bJ (fun r hr A B hB => ?_) ?_
  · repeat walk_at "ps"
    exact join_line (w.fj r hr) hB
  repeat walk_at "ps"
  refine sSeq_ifs ?_
  repeat walk_at "ps"
  have he : endsB (.tup (E.map e4)) = true := by
    show (!(E.map e4).isEmpty && (E.map e4).all endB) = true
    have h1 : (E.map e4).isEmpty = false := by
      cases E with
      | nil => rw [← hn] at n0; exact absurd n0 (by decide)
      | cons a b => rfl
    rw [h1, List.all_eq_true.mpr (fun x hx => by
      obtain ⟨r, hr, rfl⟩ := List.mem_map.mp hx
      exact e4_end (hp r hr))]
    rfl
  refine is_ends_g (gd2_tup fun x hx => by
    obtain ⟨r, hr, rfl⟩ := List.mem_map.mp hx
    exact e4_gd1 r) ?_
  rw [he]
  repeat walk_at "ps"
  refine is_joining_g b0 b1 (gd2_tup fun x hx => by
    obtain ⟨r, hr, rfl⟩ := List.mem_map.mp hx
    exact jD_gd1 r) ?_
  rw [joinB_ok hK]
  repeat walk_at "ps"
  exact h
open TL
theorem number6 {w : Int} {k : D → Prop} (h : ∀ i : Int, Fig i → k (.int i)) : wp__law_number [.deck 1, .int w] k := by
  unfold wp__law_number wpOf
  walk_at "psenv"
  unfold P__law_number
  repeat walk_at "ps"
  refine ite_d (fun _ => ?_) (fun _ => ?_)
  · repeat walk_at "ps"
    exact draw_i (by decide) (by decide) fun t t0 t1 => h t (fig_small (by omega) (by omega))
  repeat walk_at "ps"
  refine ite_d (fun _ => ?_) (fun _ => ?_)
  · repeat walk_at "ps"
    refine draw_i (by decide) (by decide) fun t t0 t1 => ?_
    refine dIx_in t0 (by simp; omega) fun d hd => ?_
    have : ∃ i : Int, (i = 1000000 ∨ i = -1000000) ∧ d = .int i := by
      simp only [List.mem_cons, List.not_mem_nil, or_false] at hd
      rcases hd with rfl | rfl
      · exact ⟨_, .inl rfl, rfl⟩
      · exact ⟨_, .inr rfl, rfl⟩
    obtain ⟨i, hi, rfl⟩ := this
    repeat walk_at "ps"
    refine draw_i (by decide) (by decide) fun u u0 u1 => ?_
    repeat walk_at "ps"
    have hu : u = 0 ∨ u = 1 ∨ u = 2 := by omega
    rcases hu with rfl | rfl | rfl <;> rcases hi with rfl | rfl <;> exact h _ (fig_small (by decide) (by decide))
  repeat walk_at "ps"
  refine draw_i (by decide) (by decide) fun t t0 t1 => ?_
  repeat walk_at "ps"
  exact h _ (fig_small (by omega) (by omega))
theorem end6 {w : Int} {b : Bool} {k : D → Prop} (h : ∀ r : Int × Int × Int × Int, FigE r → 0 ≤ r.2.2.1 → 0 ≤ r.2.2.2 → k (e4 r)) : wp__law_end [.deck 1, .int w, .bl b] k := by
  unfold wp__law_end wpOf
  walk_at "psenv"
  unfold P__law_end
  repeat walk_at "ps"
  refine number6 fun x fx => ?_
  repeat walk_at "ps"
  refine number6 fun y fy => ?_
  repeat walk_at "ps"
  refine sSeq_mid (fun env => ∃ s : Int, (0 ≤ s ∧ s ≤ 1000000) ∧ env = [SV.val (.deck 1), SV.val (.int w), SV.val (.bl b), SV.val (.lst [.int x, .int y]), SV.val (.int s)]) ?_ ?_
  · intro N hN
    repeat walk_at "ps"
    cases b with
    | true =>
      repeat walk_at "ps"
      exact hN _ ⟨0, ⟨by decide, by decide⟩, rfl⟩
    | false =>
      repeat walk_at "ps"
      refine draw_i (by decide) (by decide) fun t t0 t1 => ?_
      repeat walk_at "ps"
      refine draw_i (by decide) (by decide) fun u u0 u1 => ?_
      repeat walk_at "ps"
      refine draw_i (by decide) (by decide) fun v v0 v1 => ?_
      refine dIx_in v0 (by simp; omega) fun d hd => ?_
      have : ∃ s : Int, (0 ≤ s ∧ s ≤ 1000000) ∧ d = .int s := by
        simp only [List.mem_cons, List.not_mem_nil, or_false] at hd
        rcases hd with rfl | rfl | rfl | rfl
        · exact ⟨_, ⟨by decide, by decide⟩, rfl⟩
        · exact ⟨_, ⟨t0, by omega⟩, rfl⟩
        · exact ⟨_, ⟨u0, by omega⟩, rfl⟩
        · exact ⟨_, ⟨by decide, by decide⟩, rfl⟩
      obtain ⟨s, s0, rfl⟩ := this
      exact hN _ ⟨s, s0, rfl⟩
  rintro env ⟨s, s0, rfl⟩
  repeat walk_at "ps"
  refine draw_i (by decide) (by decide) fun t t0 t1 => ?_
  repeat walk_at "ps"
  refine draw_i (by decide) (by decide) fun u u0 u1 => ?_
  repeat walk_at "ps"
  refine draw_i (by decide) (by decide) fun v v0 v1 => ?_
  refine dIx_in v0 (by simp; omega) fun d hd => ?_
  have : ∃ s : Int, (0 ≤ s ∧ s ≤ 1000000) ∧ d = .int s := by
    simp only [List.mem_cons, List.not_mem_nil, or_false] at hd
    rcases hd with rfl | rfl
    · exact ⟨_, ⟨t0, by omega⟩, rfl⟩
    · exact ⟨_, ⟨u0, by omega⟩, rfl⟩
  obtain ⟨l, l0, rfl⟩ := this
  repeat walk_at "ps"
  refine h (x, y, s, l) (fun i hi => ?_) s0.1 l0.1
  simp only [e4L, List.mem_cons, List.not_mem_nil, or_false] at hi
  rcases hi with rfl | rfl | rfl | rfl
  · exact fx
  · exact fy
  · exact fig_small (by omega) (by omega)
  · exact fig_small (by omega) (by omega)
theorem ends6 {k : D → Prop} (h : ∀ rs : List (Int × Int × Int × Int), rs ≠ [] → rs.length ≤ 24 → (∀ r ∈ rs, FigE r ∧ 0 ≤ r.2.2.1 ∧ 0 ≤ r.2.2.2) → k (.tup (rs.map e4))) : wp__law_ends [.deck 1] k := by
  unfold wp__law_ends wpOf
  walk_at "psenv"
  unfold P__law_ends
  repeat walk_at "ps"
  refine draw_i (by decide) (by decide) fun t t0 t1 => ?_
  repeat walk_at "ps"
  refine dIx_in (by split <;> decide) (by split <;> decide) fun d hd => ?_
  have : ∃ m : Int, d = .int m ∧ 0 < m ∧ m ≤ 24 := by
    simp only [List.mem_cons, List.not_mem_nil, or_false] at hd
    rcases hd with rfl | rfl
    · exact ⟨_, rfl, by decide, by decide⟩
    · exact ⟨_, rfl, by decide, by decide⟩
  obtain ⟨m, rfl, m0, m1⟩ := this
  repeat walk_at "ps"
  refine draw_i m0 (by omega) fun n n0 n1 => ?_
  repeat walk_at "ps"
  refine draw_i (by decide) (by decide) fun wy _ _ => ?_
  repeat walk_at "ps"
  refine draw_i (by decide) (by decide) fun br _ _ => ?_
  repeat walk_at "ps"
  refine rgK1_i (by omega) (by omega) ?_
  generalize decide (br = 0) = bare
  refine forP_i (fun i env => ∃ (rs : List (Int × Int × Int × Int)) (v5 v6 v7 : SV), rs.length = i ∧ (∀ r ∈ rs, FigE r ∧ 0 ≤ r.2.2.1 ∧ 0 ≤ r.2.2.2) ∧ env = [SV.val (.deck 1), SV.val (.int (1 + n)), SV.val (.int wy), SV.val (.bl bare), SV.own (.lst (rs.map e4)), v5, v6, v7]) _ 0 ⟨[], _, _, _, rfl, (fun r q => nomatch q), rfl⟩ ?_ ?_
  · rintro i d env hd ⟨rs, v5, v6, v7, hl, hr, rfl⟩ N hN
    obtain ⟨rfl, hi⟩ := rangeD_at hd
    rw [Nat.zero_add] at hl
    repeat walk_at "ps"
    refine draw_i (by decide) (by decide) fun ag _ _ => ?_
    repeat walk_at "ps"
    refine end6 fun r rf r0 r1 => ?_
    generalize decide (ag = 1) = again
    walk_at "ps"
    refine sSeq_mid (fun env => ∃ r : Int × Int × Int × Int, FigE r ∧ 0 ≤ r.2.2.1 ∧ 0 ≤ r.2.2.2 ∧ env = [SV.val (.deck 1), SV.val (.int (1 + n)), SV.val (.int wy), SV.val (.bl bare), SV.own (.lst (rs.map e4)), SV.val (.int (0 + (i : Nat))), SV.val (.bl again), SV.val (e4 r)]) ?_ ?_
    · intro N' hN'
      repeat walk_at "ps"
      cases again with
      | false => exact hN' _ ⟨r, rf, r0, r1, rfl⟩
      | true =>
        repeat walk_at "ps"
        refine dNe_nil pln4 ?_
        repeat walk_at "ps"
        refine ite_n (fun q => ?_) (fun q => hN' _ ⟨r, rf, r0, r1, rfl⟩)
        have hp : 0 < rs.length := List.length_pos_iff.mpr fun e => q (by rw [e]; rfl)
        repeat walk_at "ps"
        rw [List.length_map]
        refine draw_i (by omega) (by omega) fun a a0 a1 => ?_
        have hlt : a.toNat < rs.length := by omega
        refine dIx_l (at_nat a0 (d := e4 rs[a.toNat]) (by rw [List.getElem?_map, List.getElem?_eq_getElem hlt]; rfl)) ?_
        repeat walk_at "ps"
        rw [cut2L, cut2R]
        refine dAdd_t (by simp) ?_
        have fa := (hr _ (List.getElem_mem hlt)).1
        refine hN' _ ⟨(rs[a.toNat].1, rs[a.toNat].2.1, r.2.2.1, r.2.2.2), fun i hi => ?_, r0, r1, rfl⟩
        simp only [e4L, List.mem_cons, List.not_mem_nil, or_false] at hi
        rcases hi with rfl | rfl | rfl | rfl
        · exact fa _ (by simp [e4L])
        · exact fa _ (by simp [e4L])
        · exact rf _ (by simp [e4L])
        · exact rf _ (by simp [e4L])
    rintro env ⟨r, rf, r0, r1, rfl⟩
    repeat walk_at "ps"
    refine ⟨by rw [List.length_map]; omega, hN _ ⟨rs ++ [r], SV.val (.int (0 + (i : Nat))), SV.val (.bl again), SV.val (e4 r), by simp; omega, ?_, ?_⟩⟩
    · intro s hs
      rcases List.mem_append.mp hs with q | q
      · exact hr s q
      · rw [List.mem_singleton.mp q]; exact ⟨rf, r0, r1⟩
    · rw [List.map_append]
      rfl
  · rintro env ⟨rs, v5, v6, v7, hl, hr, rfl⟩
    rw [rangeD_len, Nat.zero_add] at hl
    repeat walk_at "ps"
    exact h rs (fun q => by rw [q] at hl; simp at hl; omega) (by omega) hr
open TL
set_option maxHeartbeats 2000000 in
theorem is_pair_i {E : List (Int × Int × Int × Int)} {J : Jn} {k : D → Prop} (lE : E.length ≤ 1000) (lJ : J.length ≤ 1000) (h : k (.bl true)) : wp__law_is_pair [.tup [.tup (E.map e4), .tup (J.map jD)], .tup (E.map e4), .tup (J.map jD)] k := by
  have hp : pln 60 (.tup [.tup (E.map e4), .tup (J.map jD)]) = true := by
    show (plnA 58 (E.map e4) && (plnA 58 (J.map jD) && true)) = true
    rw [pln4 (n := 56), plnJ J (n := 56)]
    rfl
  unfold wp__law_is_pair wpOf
  walk_at "psenv"
  unfold P__law_is_pair
  repeat walk_at "ps"
  refine dNe_i hp hp fun c hc => ?_
  have hct : c = true := hc.mpr rfl
  subst hct
  repeat walk_at "ps"
  refine forP_i (fun _ env => ∃ v3 v4 : SV, env = [SV.val (.tup [.tup (E.map e4), .tup (J.map jD)]), SV.val (.tup (E.map e4)), SV.val (.tup (J.map jD)), v3, v4, SV.no]) _ 0 ⟨SV.no, SV.no, rfl⟩ ?_ ?_
  · rintro i d env hd ⟨v3, v4, rfl⟩ N hN
    have hrs : ∃ rs : List (List Int), (∀ r ∈ rs, r.length ≤ 4) ∧ d = .tup (rs.map fun r => .tup (r.map D.int)) := by
      have := List.mem_of_getElem? hd
      simp only [List.mem_cons, List.not_mem_nil, or_false] at this
      rcases this with rfl | rfl
      · exact ⟨E.map e4L, fun r hr => by obtain ⟨q, _, rfl⟩ := List.mem_map.mp hr; exact Nat.le_refl 4, by rw [List.map_map]; rfl⟩
      · exact ⟨J.map fun r => [r.1, r.2], fun r hr => by obtain ⟨q, _, rfl⟩ := List.mem_map.mp hr; exact (by decide : 2 ≤ 4), by rw [List.map_map]; rfl⟩
    obtain ⟨rs, hr4, rfl⟩ := hrs
    repeat walk_at "ps"
    refine forP_i (fun _ env => ∃ v4 : SV, env = [SV.val (.tup [.tup (E.map e4), .tup (J.map jD)]), SV.val (.tup (E.map e4)), SV.val (.tup (J.map jD)), SV.val (.tup (rs.map fun r => .tup (r.map D.int))), v4, SV.no]) _ 0 ⟨v4, rfl⟩ ?_ ?_
    · rintro i' d env hd ⟨v4, rfl⟩ N' hN'
      have hr : ∃ r : List Int, r.length ≤ 4 ∧ d = .tup (r.map D.int) := by
        obtain ⟨r, hm, rfl⟩ := List.mem_map.mp (List.mem_of_getElem? hd)
        exact ⟨r, hr4 r hm, rfl⟩
      obtain ⟨r, hl4, rfl⟩ := hr
      repeat walk_at "ps"
      refine ⟨⟨trivial, trivial⟩, lcP_d (fun _ => false) (r.map D.int) (by rw [List.length_map]; omega) (fun x hx A B hA hB => ?_) ?_⟩
      · obtain ⟨i, _, rfl⟩ := List.mem_map.mp hx
        repeat walk_at "ps"
        exact hB rfl
      rw [List.filter_eq_nil_iff.mpr (fun _ _ q => Bool.noConfusion q)]
      repeat walk_at "ps"
      refine dNe_i (by decide) (by decide) fun c hc => ?_
      have hct : c = true := hc.mpr rfl
      subst hct
      repeat walk_at "ps"
      exact hN' _ ⟨_, rfl⟩
    · rintro env ⟨v4, rfl⟩
      exact hN _ ⟨_, _, rfl⟩
  · rintro env ⟨v3, v4, rfl⟩
    repeat walk_at "ps"
    exact h
open TL
theorem great_i {b : Bool} {k : D → Prop} (h : ∀ i : Int, Fig i → (b = false → 0 ≤ i) → k (.int i)) : wp__law_great [.deck 1, .int 30, .bl b] k := by
  unfold wp__law_great wpOf
  walk_at "psenv"
  unfold P__law_great
  repeat walk_at "ps"
  refine draw_i (by decide) (by decide) fun way w0 w1 => ?_
  repeat walk_at "ps"
  refine draw_i (by decide) (by decide) fun t t0 t1 => ?_
  repeat walk_at "ps"
  refine dIx_in (by split <;> decide) (by show _ < (2 : Int); split <;> decide) fun d hd => ?_
  have : ∃ m : Int, d = .int m ∧ 1 ≤ m ∧ m ≤ 30 := by
    simp only [List.mem_cons, List.not_mem_nil, or_false] at hd
    rcases hd with rfl | rfl
    · exact ⟨_, rfl, by omega, by omega⟩
    · exact ⟨_, rfl, by decide, by decide⟩
  obtain ⟨m, rfl, m0, m1⟩ := this
  repeat walk_at "ps"
  refine draw_i (by decide) (by decide) fun f f0 f1 => ?_
  repeat walk_at "ps"
  refine rgK1_i (by omega) (by omega) ?_
  refine forP_i (fun i env => ∃ (F : Int) (v6 : SV), 0 ≤ F ∧ F.natAbs < 10 ^ (i + 1) ∧ env = [SV.val (.deck 1), SV.val (.int 30), SV.val (.bl b), SV.val (.int way), SV.val (.int m), SV.val (.int F), v6]) _ 0 ⟨1 + f, SV.no, by omega, by show (1 + f).natAbs < 10; omega, rfl⟩ ?_ ?_
  · rintro i d env hd ⟨F, v6, F0, F1, rfl⟩ N hN
    obtain ⟨rfl, hi⟩ := rangeD_at hd
    rw [Nat.zero_add] at F1 hN
    repeat walk_at "ps"
    refine draw_i (by decide) (by decide) fun t t0 t1 => ?_
    repeat walk_at "ps"
    refine hN _ ⟨10 * F + t, SV.val (.int (0 + (i : Nat))), by omega, ?_, rfl⟩
    rw [Nat.pow_succ]
    generalize 10 ^ (i + 1) = P at F1 ⊢
    omega
  · rintro env ⟨F, v6, F0, F1, rfl⟩
    rw [rangeD_len, Nat.zero_add] at F1
    have fF : Fig F := ⟨Nat.lt_of_lt_of_le F1 (Nat.pow_le_pow_right (by decide) (by omega))⟩
    have fN : Fig (-F) := ⟨by rw [Int.natAbs_neg]; exact fF.b⟩
    repeat walk_at "ps"
    refine ite_d (fun _ => ?_) (fun _ => ?_)
    · repeat walk_at "ps"
      exact h 0 (fig_small (by decide) (by decide)) fun _ => Int.le_refl 0
    repeat walk_at "ps"
    cases b with
    | false =>
      repeat walk_at "ps"
      exact h F fF fun _ => F0
    | true =>
      repeat walk_at "ps"
      refine dIx_in (by split <;> decide) (by show _ < (2 : Int); split <;> decide) fun d hd => ?_
      simp only [List.mem_cons, List.not_mem_nil, or_false] at hd
      rcases hd with rfl | rfl
      · exact h _ fF fun q => by cases q
      · exact h _ fN fun q => by cases q
theorem greater_i {E : List (Int × Int × Int × Int)} {k : D → Prop} (hl : E.length ≤ 24) (h : ∀ G : List (Int × Int × Int × Int), G.length = E.length → (∀ r ∈ G, FigE r ∧ 0 ≤ r.2.2.1 ∧ 0 ≤ r.2.2.2) → k (.tup (G.map e4))) : wp__law_greater [.deck 1, .tup (E.map e4)] k := by
  unfold wp__law_greater wpOf
  walk_at "psenv"
  unfold P__law_greater
  repeat walk_at "ps"
  refine forP_i (fun i env => ∃ (G : List (Int × Int × Int × Int)) (v3 : SV), G.length = i ∧ (∀ r ∈ G, FigE r ∧ 0 ≤ r.2.2.1 ∧ 0 ≤ r.2.2.2) ∧ env = [SV.val (.deck 1), SV.val (.tup (E.map e4)), SV.own (.lst (G.map e4)), v3]) _ 0 ⟨[], SV.no, rfl, (fun r q => nomatch q), rfl⟩ ?_ ?_
  · rintro i d env hd ⟨G, v3, hG, hr, rfl⟩ N hN
    have hi : i < E.length := by
      have := (List.getElem?_eq_some_iff.mp hd).1
      rwa [List.length_map] at this
    rw [Nat.zero_add] at hG hN
    repeat walk_at "ps"
    refine great_i fun x fx _ => ?_
    repeat walk_at "ps"
    refine great_i fun y fy _ => ?_
    repeat walk_at "ps"
    refine great_i fun s fs s0 => ?_
    repeat walk_at "ps"
    refine great_i fun l fl l0 => ?_
    repeat walk_at "ps"
    refine ⟨by show (4 : Nat) ≤ 100000; decide, ?_⟩
    repeat walk_at "ps"
    refine ⟨by rw [List.length_map]; omega, ?_⟩
    refine hN _ ⟨G ++ [(x, y, s, l)], SV.val (e4 (x, y, s, l)), by simp; omega, fun r hr' => ?_, by rw [List.map_append]; rfl⟩
    rcases List.mem_append.mp hr' with q | q
    · exact hr r q
    · rw [List.mem_singleton.mp q]
      refine ⟨fun i hi => ?_, s0 rfl, l0 rfl⟩
      simp only [e4L, List.mem_cons, List.not_mem_nil, or_false] at hi
      rcases hi with rfl | rfl | rfl | rfl
      · exact fx
      · exact fy
      · exact fs
      · exact fl
  · rintro env ⟨G, v3, hG, hr, rfl⟩
    rw [List.length_map, Nat.zero_add] at hG
    repeat walk_at "ps"
    exact h G hG hr
open TL
theorem wr_of {E : List (Int × Int × Int × Int)} {J : Jn} (n0 : 1 ≤ E.length) (n1 : E.length ≤ 24) (hK : JOk E.length J) (hr : ∀ r ∈ E, FigE r) : Wr E.length E J := by
  have hl := hK.len
  have hb : ∀ x ∈ sds J, Fig x := fun x hx => by
    have := rgI_mem.mp (hK.use.mem_iff.mp (List.mem_append_left _ hx))
    exact fig_small (by omega) (by omega)
  refine ⟨n1, n1, by omega, hr, fun r hr => ⟨hb r.1 ?_, hb r.2 ?_⟩⟩
  · exact List.mem_flatMap.mpr ⟨r, hr, by simp⟩
  · exact List.mem_flatMap.mpr ⟨r, hr, by simp⟩
theorem wires_ok {n : Nat} {E : List (Int × Int × Int × Int)} {J : Jn} (w : Wr n E J) : PyData.strOk (wiresT n E J) = true := by
  refine strOk_tl fun c hc => ?_
  unfold wiresT at hc
  rw [join_tl] at hc
  rcases joinL_mem hc with q | ⟨p, hp, q⟩
  · rw [List.mem_singleton.mp q]; decide
  · obtain ⟨l, hl, rfl⟩ := List.mem_map.mp hp
    have big : ∀ (h : Str) (ws : List Int), (∀ c ∈ tl h, c < 1000) → ∀ c ∈ tl (lnT h ws), c < 1000 := fun h ws hh c hc => by
      unfold lnT at hc
      rw [tl_append] at hc
      rcases List.mem_append.mp hc with q | q
      · exact hh c q
      · have := wsT_mem q
        omega
    have mem3 : ∀ h : Str, h = hW ∨ h = hE ∨ h = hJ → ∀ c ∈ tl h, c < 1000 := fun h hh c hc => by
      rcases hh with rfl | rfl | rfl
      · rw [hW_tl] at hc
        simp only [List.mem_cons, List.not_mem_nil, or_false] at hc
        omega
      · rw [hE_tl] at hc
        simp only [List.mem_cons, List.not_mem_nil, or_false] at hc
        omega
      · rw [hJ_tl] at hc
        simp only [List.mem_cons, List.not_mem_nil, or_false] at hc
        omega
    rcases List.mem_cons.mp hl with rfl | hl
    · exact big hW _ (mem3 _ (.inl rfl)) c q
    rcases List.mem_append.mp hl with hl | hl
    · obtain ⟨r, _, rfl⟩ := List.mem_map.mp hl
      exact big hE _ (mem3 _ (.inr (.inl rfl))) c q
    · obtain ⟨r, _, rfl⟩ := List.mem_map.mp hl
      exact big hJ _ (mem3 _ (.inr (.inr rfl))) c q
set_option maxHeartbeats 2000000 in
theorem law_pure : P_law (SV.no :: SV.val (.deck 1) :: List.replicate (9 - 2) SV.no) { nx := fun _ => False, rt := fun d => d = .bl true } := by
  show P_law [SV.no, SV.val (.deck 1), SV.no, SV.no, SV.no, SV.no, SV.no, SV.no, SV.no] _
  unfold P_law
  repeat walk_at "ps"
  refine rgK1_i (by decide) (by decide) ?_
  refine forP_i (fun _ env => ∃ v2 v3 v4 v5 v6 v7 v8 : SV, env = [SV.no, SV.val (.deck 1), v2, v3, v4, v5, v6, v7, v8]) _ 0 ⟨_, _, _, _, _, _, _, rfl⟩ ?_ ?_
  · rintro i d env hd ⟨v2, v3, v4, v5, v6, v7, v8, rfl⟩ N hN
    repeat walk_at "ps"
    refine ends6 fun E e0 e1 he => ?_
    have n0 : 1 ≤ E.length := List.length_pos_iff.mpr e0
    repeat walk_at "ps"
    rw [List.length_map]
    refine joining_i n0 e1 fun J hK => ?_
    have hjl := hK.len
    have w := wr_of n0 e1 hK fun r hr => (he r hr).1
    have hp : ∀ r ∈ E, 0 ≤ r.2.2.1 ∧ 0 ≤ r.2.2.2 := fun r hr => (he r hr).2
    have bE : E.length ≤ 1000 := by omega
    have bJ : J.length ≤ 1000 := by omega
    have hok := wires_ok w
    repeat walk_at "ps"
    refine written_i w rfl ?_
    repeat walk_at "ps"
    refine rgK1_i (by decide) (by decide) ?_
    refine forP_i (fun _ env => ∃ v6 v7 : SV, env = [SV.no, SV.val (.deck 1), SV.val d, SV.val (.tup (E.map e4)), SV.val (.tup (J.map jD)), SV.val (.str (wiresT E.length E J)), v6, v7, v8]) _ 0 ⟨v6, v7, rfl⟩ ?_ ?_
    · rintro i' d' env hd' ⟨v6, v7, rfl⟩ N' hN'
      repeat walk_at "ps"
      refine show_i w rfl ?_
      repeat walk_at "ps"
      refine dNe_s hok hok ?_
      rw [decide_eq_true rfl]
      repeat walk_at "ps"
      refine read_i w rfl n0 hK hp ?_
      repeat walk_at "ps"
      refine is_pair_i bE bJ ?_
      repeat walk_at "ps"
      exact hN' _ ⟨_, _, rfl⟩
    · rintro env ⟨v6, v7, rfl⟩
      repeat walk_at "ps"
      refine greater_i e1 fun G gl hg => ?_
      have w2 : Wr G.length G J := wr_of (by omega) (by omega) (by rw [gl]; exact hK) fun r hr => (hg r hr).1
      have hp2 : ∀ r ∈ G, 0 ≤ r.2.2.1 ∧ 0 ≤ r.2.2.2 := fun r hr => (hg r hr).2
      have hK2 : JOk G.length J := by rw [gl]; exact hK
      have bG : G.length ≤ 1000 := by omega
      have n2 : 1 ≤ G.length := by omega
      repeat walk_at "ps"
      refine written_i w2 rfl ?_
      repeat walk_at "ps"
      refine read_i w2 rfl n2 hK2 hp2 ?_
      repeat walk_at "ps"
      refine is_pair_i bG bJ ?_
      repeat walk_at "ps"
      refine show_i w rfl ?_
      repeat walk_at "ps"
      refine read_i w rfl n0 hK hp ?_
      repeat walk_at "ps"
      refine is_pair_i bE bJ ?_
      repeat walk_at "ps"
      exact hN _ ⟨_, _, _, _, _, _, _, rfl⟩
  · rintro env ⟨v2, v3, v4, v5, v6, v7, v8, rfl⟩
    repeat walk_at "ps"
    rfl
end
end Ew
namespace Ew
open PySem PySem.Spec PyProof.Rows L2
variable [Tbs]
def topS (i : Nat) : Stmt := PySem.Challenge.pw_evenwires_k06_wires_written.main.body.getD i (.Pass ⟨0, 0, 0, 0⟩)
abbrev s_is_whole : Stmt := topS 1
abbrev N_is_whole : List Str := ["thing"]
theorem sc_is_whole : FnScope N_is_whole ["thing"] (defScope s_is_whole) := ⟨rfl, rfl, rfl, by decide +kernel, rfl, by decide +kernel, by decide +kernel⟩
abbrev s_are_wholes : Stmt := topS 2
abbrev N_are_wholes : List Str := ["thing", "many", "part"]
theorem sc_are_wholes : FnScope N_are_wholes ["thing", "many"] (defScope s_are_wholes) := ⟨rfl, rfl, rfl, by decide +kernel, rfl, by decide +kernel, by decide +kernel⟩
abbrev s_is_ends : Stmt := topS 4
abbrev N_is_ends : List Str := ["thing", "part"]
theorem sc_is_ends : FnScope N_is_ends ["thing"] (defScope s_is_ends) := ⟨rfl, rfl, rfl, by decide +kernel, rfl, by decide +kernel, by decide +kernel⟩
abbrev s_is_end : Stmt := topS 5
abbrev N_is_end : List Str := ["thing"]
theorem sc_is_end : FnScope N_is_end ["thing"] (defScope s_is_end) := ⟨rfl, rfl, rfl, by decide +kernel, rfl, by decide +kernel, by decide +kernel⟩
abbrev s_is_joining : Stmt := topS 6
abbrev N_is_joining : List Str := ["many", "thing", "used", "joint", "row", "one", "other"]
theorem sc_is_joining : FnScope N_is_joining ["many", "thing"] (defScope s_is_joining) := ⟨rfl, rfl, rfl, by decide +kernel, rfl, by decide +kernel, by decide +kernel⟩
abbrev s_joins_below : Stmt := topS 7
abbrev N_joins_below : List Str := ["joint", "thing", "one", "other"]
theorem sc_joins_below : FnScope N_joins_below ["joint", "thing"] (defScope s_joins_below) := ⟨rfl, rfl, rfl, by decide +kernel, rfl, by decide +kernel, by decide +kernel⟩
abbrev s_show_wires : Stmt := topS 15
abbrev N_show_wires : List Str := ["ends", "joining", "lines", "x", "y", "start", "load", "one", "other"]
theorem sc_show_wires : FnScope N_show_wires ["ends", "joining"] (defScope s_show_wires) := ⟨rfl, rfl, rfl, by decide +kernel, rfl, by decide +kernel, by decide +kernel⟩
abbrev s_read_wires : Stmt := topS 16
abbrev N_read_wires : List Str := ["thing", "lines", "many", "ends", "line", "joining"]
theorem sc_read_wires : FnScope N_read_wires ["thing"] (defScope s_read_wires) := ⟨rfl, rfl, rfl, by decide +kernel, rfl, by decide +kernel, by decide +kernel⟩
abbrev s_lines_of : Stmt := topS 17
abbrev N_lines_of : List Str := ["thing"]
theorem sc_lines_of : FnScope N_lines_of ["thing"] (defScope s_lines_of) := ⟨rfl, rfl, rfl, by decide +kernel, rfl, by decide +kernel, by decide +kernel⟩
abbrev s_numbers_behind : Stmt := topS 18
abbrev N_numbers_behind : List Str := ["head", "line", "many"]
theorem sc_numbers_behind : FnScope N_numbers_behind ["head", "line", "many"] (defScope s_numbers_behind) := ⟨rfl, rfl, rfl, by decide +kernel, rfl, by decide +kernel, by decide +kernel⟩
abbrev s_numbers_of : Stmt := topS 19
abbrev N_numbers_of : List Str := ["line", "many", "words", "word"]
theorem sc_numbers_of : FnScope N_numbers_of ["line", "many"] (defScope s_numbers_of) := ⟨rfl, rfl, rfl, by decide +kernel, rfl, by decide +kernel, by decide +kernel⟩
abbrev s_is_number : Stmt := topS 20
abbrev N_is_number : List Str := ["word", "figures", "figure"]
theorem sc_is_number : FnScope N_is_number ["word"] (defScope s_is_number) := ⟨rfl, rfl, rfl, by decide +kernel, rfl, by decide +kernel, by decide +kernel⟩
abbrev s__law_deck : Stmt := topS 22
abbrev N__law_deck : List Str := ["_law_script"]
theorem sc__law_deck : FnScope N__law_deck ["_law_script"] (defScope s__law_deck) := ⟨rfl, rfl, rfl, by decide +kernel, rfl, by decide +kernel, by decide +kernel⟩
abbrev s__law_draw : Stmt := topS 23
abbrev N__law_draw : List Str := ["_law_deck_here", "_law_most", "_law_found", "_law_cell", "_law_seed"]
theorem sc__law_draw : FnScope N__law_draw ["_law_deck_here", "_law_most"] (defScope s__law_draw) := ⟨rfl, rfl, rfl, by decide +kernel, rfl, by decide +kernel, by decide +kernel⟩
abbrev s__law_number : Stmt := topS 24
abbrev N__law_number : List Str := ["_law_deck_here", "_law_way"]
theorem sc__law_number : FnScope N__law_number ["_law_deck_here", "_law_way"] (defScope s__law_number) := ⟨rfl, rfl, rfl, by decide +kernel, rfl, by decide +kernel, by decide +kernel⟩
abbrev s__law_end : Stmt := topS 25
abbrev N__law_end : List Str := ["_law_deck_here", "_law_way", "_law_bare", "_law_place", "_law_start"]
theorem sc__law_end : FnScope N__law_end ["_law_deck_here", "_law_way", "_law_bare"] (defScope s__law_end) := ⟨rfl, rfl, rfl, by decide +kernel, rfl, by decide +kernel, by decide +kernel⟩
abbrev s__law_ends : Stmt := topS 26
abbrev N__law_ends : List Str := ["_law_deck_here", "_law_many", "_law_way", "_law_bare", "_law_ends_here", "_law_k", "_law_again", "_law_end_here"]
theorem sc__law_ends : FnScope N__law_ends ["_law_deck_here"] (defScope s__law_ends) := ⟨rfl, rfl, rfl, by decide +kernel, rfl, by decide +kernel, by decide +kernel⟩
abbrev s__law_joining : Stmt := topS 27
abbrev N__law_joining : List Str := ["_law_deck_here", "_law_many", "_law_free", "_law_is_chain", "_law_rows", "_law_k", "_law_turn", "_law_row"]
theorem sc__law_joining : FnScope N__law_joining ["_law_deck_here", "_law_many"] (defScope s__law_joining) := ⟨rfl, rfl, rfl, by decide +kernel, rfl, by decide +kernel, by decide +kernel⟩
abbrev s__law_great : Stmt := topS 28
abbrev N__law_great : List Str := ["_law_deck_here", "_law_most", "_law_below", "_law_way", "_law_size", "_law_found", "_law_k"]
theorem sc__law_great : FnScope N__law_great ["_law_deck_here", "_law_most", "_law_below"] (defScope s__law_great) := ⟨rfl, rfl, rfl, by decide +kernel, rfl, by decide +kernel, by decide +kernel⟩
abbrev s__law_written : Stmt := topS 29
abbrev N__law_written : List Str := ["_law_ends_here", "_law_joining_here", "_law_text", "_law_x", "_law_y", "_law_start", "_law_load", "_law_one", "_law_other"]
theorem sc__law_written : FnScope N__law_written ["_law_ends_here", "_law_joining_here"] (defScope s__law_written) := ⟨rfl, rfl, rfl, by decide +kernel, rfl, by decide +kernel, by decide +kernel⟩
abbrev s__law_is_pair : Stmt := topS 30
abbrev N__law_is_pair : List Str := ["_law_found", "_law_ends_here", "_law_joining_here", "_law_rows", "_law_row", "_law_one"]
theorem sc__law_is_pair : FnScope N__law_is_pair ["_law_found", "_law_ends_here", "_law_joining_here"] (defScope s__law_is_pair) := ⟨rfl, rfl, rfl, by decide +kernel, rfl, by decide +kernel, by decide +kernel⟩
abbrev s__law_greater : Stmt := topS 31
abbrev N__law_greater : List Str := ["_law_deck_here", "_law_ends_here", "_law_found", "_law_end_here"]
theorem sc__law_greater : FnScope N__law_greater ["_law_deck_here", "_law_ends_here"] (defScope s__law_greater) := ⟨rfl, rfl, rfl, by decide +kernel, rfl, by decide +kernel, by decide +kernel⟩
abbrev s_law : Stmt := topS 32
abbrev N_law : List Str := ["_law_script", "_law_deck_here", "_law_turn", "_law_ends_here", "_law_joining_here", "_law_text", "_law_again", "_law_found", "_law_great_here"]
theorem sc_law : FnScope N_law ["_law_script"] (defScope s_law) := ⟨rfl, rfl, rfl, by decide +kernel, rfl, by decide +kernel, by decide +kernel⟩
-- what the top has left: the defs, and the built-ins that are not bound anew
set_option maxHeartbeats 0 in
structure Tx (K : PySem.W.Frag) (mg : Str → Option Value) (base : Heap) where
  a_is_whole : Addr
  d_is_whole : FuncData
  F_is_whole : Fun K "is_whole" "is_whole" s_is_whole a_is_whole d_is_whole
  b_is_whole : Binds K d_is_whole ["thing"] []
  g_is_whole : mg "is_whole" = some (.ref a_is_whole)
  a_are_wholes : Addr
  d_are_wholes : FuncData
  F_are_wholes : Fun K "are_wholes" "are_wholes" s_are_wholes a_are_wholes d_are_wholes
  b_are_wholes : Binds K d_are_wholes ["thing", "many"] []
  g_are_wholes : mg "are_wholes" = some (.ref a_are_wholes)
  q_are_wholes : Addr
  p_are_wholes : Addr
  h_are_wholes : d_are_wholes.code = .ref q_are_wholes
  tb_are_wholes : GxR.TabB base mg q_are_wholes p_are_wholes
  m_are_wholes : p_are_wholes ∈ Tbs.tb
  a_is_ends : Addr
  d_is_ends : FuncData
  F_is_ends : Fun K "is_ends" "is_ends" s_is_ends a_is_ends d_is_ends
  b_is_ends : Binds K d_is_ends ["thing"] []
  g_is_ends : mg "is_ends" = some (.ref a_is_ends)
  q_is_ends : Addr
  p_is_ends : Addr
  h_is_ends : d_is_ends.code = .ref q_is_ends
  tb_is_ends : GxR.TabB base mg q_is_ends p_is_ends
  m_is_ends : p_is_ends ∈ Tbs.tb
  a_is_end : Addr
  d_is_end : FuncData
  F_is_end : Fun K "is_end" "is_end" s_is_end a_is_end d_is_end
  b_is_end : Binds K d_is_end ["thing"] []
  g_is_end : mg "is_end" = some (.ref a_is_end)
  a_is_joining : Addr
  d_is_joining : FuncData
  F_is_joining : Fun K "is_joining" "is_joining" s_is_joining a_is_joining d_is_joining
  b_is_joining : Binds K d_is_joining ["many", "thing"] []
  g_is_joining : mg "is_joining" = some (.ref a_is_joining)
  a_joins_below : Addr
  d_joins_below : FuncData
  F_joins_below : Fun K "joins_below" "joins_below" s_joins_below a_joins_below d_joins_below
  b_joins_below : Binds K d_joins_below ["joint", "thing"] []
  g_joins_below : mg "joins_below" = some (.ref a_joins_below)
  a_show_wires : Addr
  d_show_wires : FuncData
  F_show_wires : Fun K "show_wires" "show_wires" s_show_wires a_show_wires d_show_wires
  b_show_wires : Binds K d_show_wires ["ends", "joining"] []
  g_show_wires : mg "show_wires" = some (.ref a_show_wires)
  a_read_wires : Addr
  d_read_wires : FuncData
  F_read_wires : Fun K "read_wires" "read_wires" s_read_wires a_read_wires d_read_wires
  b_read_wires : Binds K d_read_wires ["thing"] []
  g_read_wires : mg "read_wires" = some (.ref a_read_wires)
  a_lines_of : Addr
  d_lines_of : FuncData
  F_lines_of : Fun K "lines_of" "lines_of" s_lines_of a_lines_of d_lines_of
  b_lines_of : Binds K d_lines_of ["thing"] []
  g_lines_of : mg "lines_of" = some (.ref a_lines_of)
  a_numbers_behind : Addr
  d_numbers_behind : FuncData
  F_numbers_behind : Fun K "numbers_behind" "numbers_behind" s_numbers_behind a_numbers_behind d_numbers_behind
  b_numbers_behind : Binds K d_numbers_behind ["head", "line", "many"] []
  g_numbers_behind : mg "numbers_behind" = some (.ref a_numbers_behind)
  a_numbers_of : Addr
  d_numbers_of : FuncData
  F_numbers_of : Fun K "numbers_of" "numbers_of" s_numbers_of a_numbers_of d_numbers_of
  b_numbers_of : Binds K d_numbers_of ["line", "many"] []
  g_numbers_of : mg "numbers_of" = some (.ref a_numbers_of)
  q_numbers_of : Addr
  p_numbers_of : Addr
  h_numbers_of : d_numbers_of.code = .ref q_numbers_of
  tb_numbers_of : GxR.TabB base mg q_numbers_of p_numbers_of
  m_numbers_of : p_numbers_of ∈ Tbs.tb
  a_is_number : Addr
  d_is_number : FuncData
  F_is_number : Fun K "is_number" "is_number" s_is_number a_is_number d_is_number
  b_is_number : Binds K d_is_number ["word"] []
  g_is_number : mg "is_number" = some (.ref a_is_number)
  q_is_number : Addr
  p_is_number : Addr
  h_is_number : d_is_number.code = .ref q_is_number
  tb_is_number : GxR.TabB base mg q_is_number p_is_number
  m_is_number : p_is_number ∈ Tbs.tb
  a__law_deck : Addr
  d__law_deck : FuncData
  F__law_deck : Fun K "_law_deck" "_law_deck" s__law_deck a__law_deck d__law_deck
  b__law_deck : Binds K d__law_deck ["_law_script"] []
  g__law_deck : mg "_law_deck" = some (.ref a__law_deck)
  a__law_draw : Addr
  d__law_draw : FuncData
  F__law_draw : Fun K "_law_draw" "_law_draw" s__law_draw a__law_draw d__law_draw
  b__law_draw : Binds K d__law_draw ["_law_deck_here", "_law_most"] []
  g__law_draw : mg "_law_draw" = some (.ref a__law_draw)
  a__law_number : Addr
  d__law_number : FuncData
  F__law_number : Fun K "_law_number" "_law_number" s__law_number a__law_number d__law_number
  b__law_number : Binds K d__law_number ["_law_deck_here", "_law_way"] []
  g__law_number : mg "_law_number" = some (.ref a__law_number)
  a__law_end : Addr
  d__law_end : FuncData
  F__law_end : Fun K "_law_end" "_law_end" s__law_end a__law_end d__law_end
  b__law_end : Binds K d__law_end ["_law_deck_here", "_law_way", "_law_bare"] []
  g__law_end : mg "_law_end" = some (.ref a__law_end)
  a__law_ends : Addr
  d__law_ends : FuncData
  F__law_ends : Fun K "_law_ends" "_law_ends" s__law_ends a__law_ends d__law_ends
  b__law_ends : Binds K d__law_ends ["_law_deck_here"] []
  g__law_ends : mg "_law_ends" = some (.ref a__law_ends)
  a__law_joining : Addr
  d__law_joining : FuncData
  F__law_joining : Fun K "_law_joining" "_law_joining" s__law_joining a__law_joining d__law_joining
  b__law_joining : Binds K d__law_joining ["_law_deck_here", "_law_many"] []
  g__law_joining : mg "_law_joining" = some (.ref a__law_joining)
  a__law_great : Addr
  d__law_great : FuncData
  F__law_great : Fun K "_law_great" "_law_great" s__law_great a__law_great d__law_great
  b__law_great : Binds K d__law_great ["_law_deck_here", "_law_most", "_law_below"] []
  g__law_great : mg "_law_great" = some (.ref a__law_great)
  a__law_written : Addr
  d__law_written : FuncData
  F__law_written : Fun K "_law_written" "_law_written" s__law_written a__law_written d__law_written
  b__law_written : Binds K d__law_written ["_law_ends_here", "_law_joining_here"] []
  g__law_written : mg "_law_written" = some (.ref a__law_written)
  a__law_is_pair : Addr
  d__law_is_pair : FuncData
  F__law_is_pair : Fun K "_law_is_pair" "_law_is_pair" s__law_is_pair a__law_is_pair d__law_is_pair
  b__law_is_pair : Binds K d__law_is_pair ["_law_found", "_law_ends_here", "_law_joining_here"] []
  g__law_is_pair : mg "_law_is_pair" = some (.ref a__law_is_pair)
  a__law_greater : Addr
  d__law_greater : FuncData
  F__law_greater : Fun K "_law_greater" "_law_greater" s__law_greater a__law_greater d__law_greater
  b__law_greater : Binds K d__law_greater ["_law_deck_here", "_law_ends_here"] []
  g__law_greater : mg "_law_greater" = some (.ref a__law_greater)
  a_law : Addr
  d_law : FuncData
  F_law : Fun K "law" "law" s_law a_law d_law
  b_law : Binds K d_law ["_law_script"] []
  g_law : mg "law" = some (.ref a_law)
  t_FIGURES : Tok
  c_FIGURES : mg "FIGURES" = some (.str (Str.ofString "0123456789") t_FIGURES)
  t_MOST_FIGURES : Tok
  c_MOST_FIGURES : mg "MOST_FIGURES" = some (.int 30 t_MOST_FIGURES)
  t_MOST_ENDS : Tok
  c_MOST_ENDS : mg "MOST_ENDS" = some (.int 24 t_MOST_ENDS)
  n_sum : mg "sum" = none
  n_list : mg "list" = none
  n_bool : mg "bool" = none
  n_isinstance : mg "isinstance" = none
  n_int : mg "int" = none
  n_len : mg "len" = none
  n_tuple : mg "tuple" = none
  n_all : mg "all" = none
  n_set : mg "set" = none
  n_enumerate : mg "enumerate" = none
  n_str : mg "str" = none
  n_range : mg "range" = none
section
local macro_rules | `(tactic| walk_at "ewc") => `(tactic| first
  | (show (0 : Int) < _; omega)
  | (show (0 : Int) < _; decide)
  | (refine ⟨?_, ?_⟩ <;> omega)
  | exact Or.inl ⟨by omega, by omega⟩
  | exact Or.inr ⟨by omega, by omega⟩)
def dkv (c : Addr) (L s n : Int) : List (Key × V) := [(.inr "cells", .ref c), (.inr "left", .int L), (.inr "seed", .int s), (.inr "count", .int n)]
theorem dkv_pl {c : Addr} {L s n L' : Int} : putK (dkv c L s n) (.inr "left") (.int L') = dkv c L' s n := rfl
theorem dkv_ps {c : Addr} {L s n L' : Int} : putK (dkv c L s n) (.inr "seed") (.int L') = dkv c L L' n := rfl
theorem dkv_pn {c : Addr} {L s n L' : Int} : putK (dkv c L s n) (.inr "count") (.int L') = dkv c L s L' := rfl
/-- a deck stands at dk, its cells at c -/
structure Deck (H : Hp) (dk c : Addr) : Prop where
  ex : ∃ (L s n : Int) (cs : List Int), H dk = some (.dK (dkv c L s n)) ∧ H c = some (.lst (cs.map V.int)) ∧ 0 ≤ s ∧ s < 4294967296
theorem Deck.new {H : Hp} {dk c p : Addr} {o : HO} (h : Deck H dk c) (hp : H p = none) : Deck (upd H p o) dk c := by
  obtain ⟨L, s, n, cs, h1, h2, h3⟩ := h
  exact ⟨L, s, n, cs, get_new hp h1, get_new hp h2, h3⟩
theorem Deck.mut {H : Hp} {dk c p : Addr} {o : HO} (h : Deck H dk c) (hp : p ∉ [dk, c]) : Deck (upd H p o) dk c := by
  obtain ⟨L, s, n, cs, h1, h2, h3⟩ := h
  exact ⟨L, s, n, cs, get_ne (fun e => hp (e ▸ List.mem_cons_self)) h1, get_ne (fun e => hp (e ▸ List.mem_cons_of_mem _ List.mem_cons_self)) h2, h3⟩
theorem Deck.off' {H : Hp} {dk c p : Addr} (hp : H p = none) (h : Deck H dk c) : p ∉ [dk, c] := by
  obtain ⟨L, s, n, cs, h1, h2, h3⟩ := h
  intro m
  rcases List.mem_cons.mp m with e | m
  · rw [e, h1] at hp; cases hp
  · rcases List.mem_cons.mp m with e | m
    · rw [e, h2] at hp; cases hp
    · cases m
theorem Deck.off {H : Hp} {dk c p : Addr} (h : Deck H dk c) (hp : H p = none) : p ∉ [dk, c] := Deck.off' hp h
theorem Deck.evo0 {H H' : Hp} {dk c : Addr} (h : Deck H dk c) (e : Evo [] H H') : Deck H' dk c := by
  obtain ⟨L, s, n, cs, h1, h2, h3⟩ := h
  exact ⟨L, s, n, cs, e.get List.not_mem_nil h1, e.get List.not_mem_nil h2, h3⟩
section
variable {P : Program} {w : World} {K : PySem.W.Frag} {mg : Str → Option Value} {base : Heap}
theorem tabs_evo {H H' : Hp} (h : Pu.Tabs H) (e : Evo [] H H') : Pu.Tabs H' := fun P hP => by
  obtain ⟨ps, q, t⟩ := h P hP
  exact ⟨ps, e.get List.not_mem_nil q, t⟩
inductive sp__law_deck (K : PySem.W.Frag) : List V → Hp → VK → XK → Prop
  | mk {H : Hp} {Q : VK} {E : XK} {a : Addr} {ns : List Int} (hS : SqL K H a (ns.map V.int)) (hn : ns.length ≤ 63) (hT : Pu.Tabs H) (k : ∀ H' dk c, Deck H' dk c → Pu.Tabs H' → True → True → Q (.ref dk) H') : sp__law_deck K [.ref a] H Q E
theorem ok__law_deck (T : Tx K mg base) : FnOk P Tbs.wd K mg base CX0 1 T.a__law_deck T.d__law_deck ["_law_script"] (sp__law_deck K) := by
  refine T.F__law_deck.ok sc__law_deck (fun vs H Q E h => ?_) (fun cdv A outer s H vs Q E hr h => ?_)
  · cases h
    rfl
  · obtain @⟨_, _, _, a, ns, hS, hn, hT, k⟩ := h
    have hlen : (ns.map V.int).length ≤ 63 := by rw [List.length_map]; exact hn
    refine ⟨_, (pss_one (ps_ret (pe_disp (pps_cons pe_str (pe_callTy call_list_of (by rfl) T.n_list (by decide +kernel) (pa_cons (pe_slice (r := Ew.rSlE K) Ew.sl_listE (pv 0) po_none (po_some pe_int)) pa_nil)) (pps_cons pe_str pe_int (pps_cons pe_str (pe_op op_add pe_int (pe_op op_mod (pe_callB (cr_sum rfl) (by rfl) T.n_sum (by decide +kernel) (pa_cons (pe_slice (r := Ew.rSlE K) Ew.sl_listE (pv 0) po_none (po_some pe_int)) pa_nil)) pe_int)) (pps_cons pe_str pe_int pps_nil)))) (by rfl) (by rfl) (fun z => by cases z) (by decide)))), ?_⟩
    intro dk hdk
    -- list(script[:63])
    refine ⟨_, rfl, _, rfl, _, _, _, rfl, sqL_new hdk hS, cut63 hlen, fun q hq => ?_⟩
    refine ⟨_, _, rfl, .inl (SqL.of upd_same), fun c hc => ?_⟩
    -- sum
    refine ⟨_, rfl, _, rfl, _, _, _, rfl, sqL_new hc (sqL_new hq (sqL_new hdk hS)), cut63 hlen, fun r hr' => ?_⟩
    refine ⟨_, ns, rfl, SqL.of upd_same, ?_⟩
    refine ⟨_, _, rfl, rfl, by walk_at "ewc", ?_⟩
    refine ⟨_, _, rfl, rfl, ?_⟩
    have hq' := hq
    have g1 : H q = none := by
      have := hq'; unfold upd at this
      by_cases e : q = dk
      · rw [if_pos e] at this; cases this
      · rw [if_neg e] at this; exact this
    have e0 : Evo [] H (upd H dk (.dK [])) := (Evo.refl [] H).new hdk
    have e1 := e0.new (o := .lst (ns.map V.int)) hq
    have e2 := e1.new (o := .lst (ns.map V.int)) hc
    have e3 := e2.new (o := .lst (ns.map V.int)) hr'
    refine ⟨get_new hr' (get_new hc (get_new hq upd_same)), [(.inr "cells", .ref c), (.inr "left", .int 0), (.inr "seed", .int (48271 + ns.sum % 2147483629)), (.inr "count", .int 0)], rfl, by show 4 ≤ 15; decide, ?_⟩
    have ncd : c ≠ dk := fun e => by rw [e, get_new hq upd_same] at hc; cases hc
    refine k _ dk c ⟨0, 48271 + ns.sum % 2147483629, 0, ns, upd_same, get_ne ncd (get_new hr' upd_same), ?_, ?_⟩ (tabs_evo hT (e3.mut hdk)) trivial trivial
    · omega
    · omega
inductive sp__law_draw : List V → Hp → VK → XK → Prop
  | mk {H : Hp} {Q : VK} {E : XK} {dk c : Addr} {m : Int} (hD : Deck H dk c) (m0 : 0 < m) (m1 : m < 1073741824) (k : ∀ H' r, 0 ≤ r → r < m → Deck H' dk c → Evo [dk, c] H H' → Q (.int r) H') : sp__law_draw [.ref dk, .int m] H Q E
theorem mulU {x y a b : Int} (h0 : 0 ≤ x) (h1 : x ≤ a) (h2 : 0 ≤ y) (h3 : y ≤ b) : 0 ≤ x * y ∧ x * y ≤ a * b := ⟨Int.mul_nonneg h0 h2, Int.mul_le_mul h1 h3 h2 (Int.le_trans h0 h1)⟩
theorem ok__law_draw (T : Tx K mg base) : FnOk P Tbs.wd K mg base CX0 1 T.a__law_draw T.d__law_draw ["_law_deck_here", "_law_most"] sp__law_draw := by
  refine T.F__law_draw.ok sc__law_draw (fun vs H Q E h => ?_) (fun cdv A outer s H vs Q E hr h => ?_)
  · cases h
    rfl
  · obtain @⟨_, _, _, dk, c, m, ⟨L, s, n, cs, hd, hc, hs0, hs1⟩, m0, m1, k⟩ := h
    have hu := hu_of hr
    have ncd : c ≠ dk := ne_of hc hd (by intro z; cases z)
    have hmd : ∀ ys, H dk ≠ some (.tup ys) := fun ys e => by rw [hd] at e; cases e
    have hfd : ∀ u v, H dk ≠ some (.frz u v) := fun ys _ e => by rw [hd] at e; cases e
    have hmc : ∀ ys, H c ≠ some (.tup ys) := fun ys e => by rw [hc] at e; cases e
    have hfc : ∀ u v, H c ≠ some (.frz u v) := fun ys _ e => by rw [hc] at e; cases e
    have i1 : dk ∈ [dk, c] := List.mem_cons_self
    have i2 : c ∈ [dk, c] := List.mem_cons_of_mem _ List.mem_cons_self
    refine ⟨_, (pss_cons (ps_if (pt_cmpR op_gt (pe_dget hu (pv 0) pe_str (fun _ _ => rfl)) pe_int (nomark _)) (pss_cons (ps_set (i := 2) sc__law_draw.nd rfl (Or.inl rfl) (pe_op op_mod (pe_dget hu (pv 0) pe_str (fun _ _ => rfl)) (pv 1)))
      (pss_cons (ps_dput hu (pv 0) pe_str (pe_op op_fdiv (pe_dget hu (pv 0) pe_str (fun _ _ => rfl)) (pv 1)) rfl)
      (pss_one (ps_ret (pv 2))))) pss_nil)
      (pss_cons (ps_set (i := 3) sc__law_draw.nd rfl (Or.inl rfl) pe_int)
      (pss_cons (ps_dput hu (pv 0) pe_str (pe_op op_add (pe_dget hu (pv 0) pe_str (fun _ _ => rfl)) pe_int) rfl)
      (pss_cons (ps_if (pt_cmpR (r := Ew.rNeX K) (Ew.op_neX hr.units) (pe_dget hu (pv 0) pe_str (fun _ _ => rfl)) (pe_lst pa_nil) (nomark _)) (pss_one (ps_set (i := 3) sc__law_draw.nd rfl (Or.inl rfl) (pe_bm PySem.F.plainAttrs_list PySem.F.slot_list_pop PySem.F.type_list_pop mt_popAt (pe_dget hu (pv 0) pe_str (fun _ _ => rfl)) (pa_cons pe_int pa_nil)))) pss_nil)
      (pss_cons (ps_if (pt_cmpR op_ge (pv 3) (pe_op (Ew.op_powC 10 18 1000000000000000000) pe_int pe_int) (nomark _)) (pss_cons (ps_dput hu (pv 0) pe_str (pe_op op_fdiv (pv 3) (pv 1)) rfl)
      (pss_one (ps_ret (pe_op op_mod (pv 3) (pv 1))))) pss_nil)
      (pss_cons (ps_set (i := 4) sc__law_draw.nd rfl (Or.inl rfl) (pe_op op_add (pe_op op_mul (pe_dget hu (pv 0) pe_str (fun _ _ => rfl)) pe_int) (pe_op op_mul (pe_op op_mod (pv 3) pe_int) pe_int)))
      (pss_cons (ps_set (i := 4) sc__law_draw.nd rfl (Or.inl rfl) (pe_op op_mod (pe_op op_add (pv 4) (pe_op op_mul pe_int (pe_dget hu (pv 0) pe_str (fun _ _ => rfl)))) pe_int))
      (pss_cons (ps_dput hu (pv 0) pe_str (pe_op op_mod (pe_op op_mul (pv 4) (pe_op op_add (pe_op op_fdiv (pv 4) pe_int) pe_int)) pe_int) rfl)
      (pss_one (ps_ret (pe_op op_mod (pe_op op_fdiv (pe_op op_mod (pe_op op_add (pe_op op_mul (pe_dget hu (pv 0) pe_str (fun _ _ => rfl)) pe_int) (pe_dget hu (pv 0) pe_str (fun _ _ => rfl))) pe_int) pe_int) (pv 1)))))))))))), ?_⟩
    refine ⟨_, rfl, dgetE hd rfl ⟨_, _, rfl, rfl, _, rfl, iteD (fun hL => ?_) (fun hL => ?_)⟩⟩
    · refine ⟨_, rfl, dgetE hd rfl ⟨_, rfl, ⟨_, _, rfl, rfl, by walk_at "ewc", ?_⟩⟩⟩
      refine ⟨_, rfl, dgetE hd rfl ⟨_, rfl, ⟨_, _, rfl, rfl, by walk_at "ewc", ?_⟩⟩⟩
      refine ⟨_, rfl, dputE hd dkv_pl ?_ (by show 4 ≤ 1000; decide)⟩
      refine ⟨_, rfl, ?_⟩
      refine k _ _ (Int.emod_nonneg _ (by omega)) (Int.emod_lt_of_pos _ m0) ⟨_, _, _, _, upd_same, get_ne ncd hc, hs0, hs1⟩ ((Evo.refl _ H).set i1 hmd hfd)
    · refine ⟨_, rfl, dgetE hd rfl ⟨_, _, rfl, rfl, ?_⟩⟩
      refine ⟨_, rfl, dputE hd dkv_pn ?_ (by show 4 ≤ 1000; decide)⟩
      have E1 : Evo [dk, c] H (upd H dk (.dK (dkv c L s (n + 1)))) := (Evo.refl _ H).set i1 hmd hfd
      have hc1 : upd H dk (.dK (dkv c L s (n + 1))) c = some (.lst (cs.map V.int)) := get_ne ncd hc
      refine ⟨_, rfl, dgetE upd_same rfl ⟨sz (by decide), fun p hp => ?_⟩⟩
      have E2 := E1.new (o := .lst []) hp
      have hd2 : upd (upd H dk (.dK (dkv c L s (n + 1)))) p (.lst []) dk = some (.dK (dkv c L s (n + 1))) := get_new hp upd_same
      have hc2 : upd (upd H dk (.dK (dkv c L s (n + 1)))) p (.lst []) c = some (.lst (cs.map V.int)) := get_new hp hc1
      refine ⟨_, eqL hc2 upd_same (intsOf_of cs) (xs := cs) (ys := []) rfl, ?_⟩
      refine ⟨_, rfl, iteN (fun hne => ?_) (fun he => ?_)⟩
      · obtain ⟨z, cs', rfl⟩ : ∃ z cs', cs = z :: cs' := by
          cases cs with
          | nil => exact absurd rfl hne
          | cons z cs' => exact ⟨z, cs', rfl⟩
        refine ⟨_, rfl, dgetE hd2 rfl ⟨.inl ⟨rfl, _, SqL.of hc2⟩, ?_⟩⟩
        refine ⟨c, _, 0, 0, .int z, rfl, rfl, hc2, by decide, by decide, ?_, rfl, ?_⟩
        · show (if 0 ≤ (0 : Int) && (0 : Int) < ((cs'.map V.int).length + 1 : Nat) then some 0 else none) = some 0
          rw [if_pos (by simp)]
        have hd3 := get_ne (o := .lst (cs'.map V.int)) ncd.symm hd2
        have hc3 : upd (upd (upd H dk (.dK (dkv c L s (n + 1)))) p (.lst [])) c (.lst (cs'.map V.int)) c = some (.lst (cs'.map V.int)) := upd_same
        have E3 := E2.set (o := .lst (cs'.map V.int)) i2 hmc hfc
        -- if cell >= 10 ** 18
        refine ⟨_, rfl, rfl, rfl, _, _, rfl, rfl, _, rfl, iteD (fun hz => ?_) (fun hz => ?_)⟩
        · refine ⟨_, rfl, _, rfl, ⟨_, _, rfl, rfl, by walk_at "ewc", ?_⟩⟩
          refine ⟨_, rfl, dputE hd3 dkv_pl ?_ (by show 4 ≤ 1000; decide)⟩
          refine ⟨_, rfl, _, rfl, ⟨_, _, rfl, rfl, by walk_at "ewc", ?_⟩⟩
          exact k _ _ (Int.emod_nonneg _ (by omega)) (Int.emod_lt_of_pos _ m0) ⟨_, _, _, _, upd_same, get_ne ncd hc3, hs0, hs1⟩ (E3.set i1 hmd hfd)
        · refine ⟨_, rfl, dgetE hd3 rfl ⟨_, _, rfl, rfl, by walk_at "ewc", ?_⟩⟩
          refine ⟨_, rfl, ⟨_, _, rfl, rfl, by walk_at "ewc", ⟨_, _, rfl, rfl, by walk_at "ewc", ⟨_, _, rfl, rfl, ?_⟩⟩⟩⟩
          refine ⟨_, rfl, _, rfl, dgetE hd3 rfl ⟨_, _, rfl, rfl, by walk_at "ewc", ⟨_, _, rfl, rfl, ⟨_, _, rfl, rfl, by walk_at "ewc", ?_⟩⟩⟩⟩
          generalize hsd : (s * 48271 + z % 2147483629 * 69621 + 7919 * (n + 1)) % 2147483587 = sd
          have sd0 : 0 ≤ sd := by omega
          have sd1 : sd < 2147483587 := by omega
          refine ⟨_, rfl, _, rfl, ⟨_, _, rfl, rfl, by walk_at "ewc", ⟨_, _, rfl, rfl, ⟨_, _, rfl, rfl, by walk_at "ewc", ⟨_, _, rfl, rfl, by walk_at "ewc", ?_⟩⟩⟩⟩⟩
          refine ⟨_, rfl, dputE hd3 dkv_ps ?_ (by show 4 ≤ 1000; decide)⟩
          refine ⟨_, rfl, dgetE upd_same rfl ⟨_, _, rfl, rfl, by walk_at "ewc", ?_⟩⟩
          refine ⟨_, rfl, dgetE upd_same rfl ⟨_, _, rfl, rfl, ?_⟩⟩
          refine ⟨_, _, rfl, rfl, by walk_at "ewc", ⟨_, _, rfl, rfl, by walk_at "ewc", ⟨_, rfl, ⟨_, _, rfl, rfl, by walk_at "ewc", ?_⟩⟩⟩⟩
          exact k _ _ (Int.emod_nonneg _ (by omega)) (Int.emod_lt_of_pos _ m0) ⟨_, _, _, _, upd_same, get_ne ncd hc3, Int.emod_nonneg _ (by decide), Int.lt_trans (Int.emod_lt_of_pos _ (by decide)) (by decide)⟩ (E3.set i1 hmd hfd)
      · have hd3 := hd2
        have hc3 := hc2
        have E3 := E2
        -- if cell >= 10 ** 18
        refine ⟨_, rfl, rfl, rfl, _, _, rfl, rfl, _, rfl, iteD (fun hz => ?_) (fun hz => ?_)⟩
        · refine ⟨_, rfl, _, rfl, ⟨_, _, rfl, rfl, by walk_at "ewc", ?_⟩⟩
          refine ⟨_, rfl, dputE hd3 dkv_pl ?_ (by show 4 ≤ 1000; decide)⟩
          refine ⟨_, rfl, _, rfl, ⟨_, _, rfl, rfl, by walk_at "ewc", ?_⟩⟩
          exact k _ _ (Int.emod_nonneg _ (by omega)) (Int.emod_lt_of_pos _ m0) ⟨_, _, _, _, upd_same, get_ne ncd hc3, hs0, hs1⟩ (E3.set i1 hmd hfd)
        · refine ⟨_, rfl, dgetE hd3 rfl ⟨_, _, rfl, rfl, by walk_at "ewc", ?_⟩⟩
          refine ⟨_, rfl, ⟨_, _, rfl, rfl, by walk_at "ewc", ⟨_, _, rfl, rfl, by walk_at "ewc", ⟨_, _, rfl, rfl, ?_⟩⟩⟩⟩
          refine ⟨_, rfl, _, rfl, dgetE hd3 rfl ⟨_, _, rfl, rfl, by walk_at "ewc", ⟨_, _, rfl, rfl, ⟨_, _, rfl, rfl, by walk_at "ewc", ?_⟩⟩⟩⟩
          generalize hsd : (s * 48271 + 0 % 2147483629 * 69621 + 7919 * (n + 1)) % 2147483587 = sd
          have sd0 : 0 ≤ sd := by omega
          have sd1 : sd < 2147483587 := by omega
          refine ⟨_, rfl, _, rfl, ⟨_, _, rfl, rfl, by walk_at "ewc", ⟨_, _, rfl, rfl, ⟨_, _, rfl, rfl, by walk_at "ewc", ⟨_, _, rfl, rfl, by walk_at "ewc", ?_⟩⟩⟩⟩⟩
          refine ⟨_, rfl, dputE hd3 dkv_ps ?_ (by show 4 ≤ 1000; decide)⟩
          refine ⟨_, rfl, dgetE upd_same rfl ⟨_, _, rfl, rfl, by walk_at "ewc", ?_⟩⟩
          refine ⟨_, rfl, dgetE upd_same rfl ⟨_, _, rfl, rfl, ?_⟩⟩
          refine ⟨_, _, rfl, rfl, by walk_at "ewc", ⟨_, _, rfl, rfl, by walk_at "ewc", ⟨_, rfl, ⟨_, _, rfl, rfl, by walk_at "ewc", ?_⟩⟩⟩⟩
          exact k _ _ (Int.emod_nonneg _ (by omega)) (Int.emod_lt_of_pos _ m0) ⟨_, _, _, _, upd_same, get_ne ncd hc3, Int.emod_nonneg _ (by decide), Int.lt_trans (Int.emod_lt_of_pos _ (by decide)) (by decide)⟩ (E3.set i1 hmd hfd)
end

end
end Ew
namespace Ew
open PySem PySem.Spec PyProof.Rows L2 Pu
variable [Tbs]
section
variable {P : Program} {w : World} {K : PySem.W.Frag} {mg : Str → Option Value} {base : Heap}
theorem deck_dkF {H : Hp} {dk c : Addr} (h : Deck H dk c) : DkF 1 H dk c := by
  obtain ⟨a, r, s, cs, h1, h2, h3⟩ := h
  exact ⟨a, r, s, cs, h1, h2, h3⟩
theorem okS__law_draw (T : Tx K mg base) : FnOk P Tbs.wd K mg base CX0 1 T.a__law_draw T.d__law_draw ["_law_deck_here", "_law_most"] (Sf false 2 wp__law_draw) := by
  refine (ok__law_draw T).imp fun vs H Q E h => ?_
  obtain ⟨z, X, ds, k, hl, hz, hx, hA, hw, c⟩ := h
  unfold wp__law_draw at hw
  split at hw
  · obtain ⟨v, u, rfl, hv, hu⟩ := hA.two
    cases hu
    obtain ⟨⟨m0, m1⟩, hk⟩ := hw
    generalize hd : D.deck 1 = d at hv
    cases hv with
    | deck ho =>
      obtain ⟨e1, e2, e3, -⟩ := ho
      injection hd with hd
      rw [← hd] at e3
      have e3' := e3
      obtain ⟨a, r, s, cs, h1, h2, h3⟩ := e3
      rw [e1]
      refine sp__law_draw.mk (c := z.c) ⟨a, r, s, cs, h1, h2, h3⟩ m0 m1 fun H' t t0 t1 hD ev => ?_
      obtain ⟨a', r', s', cs', g1, g2, g3⟩ := hD
      refine c (.int t) (.int t) H' ⟨fun b o q n => ev.old b o q fun m => ?_, fun b q => ?_, fun b q => ?_, tab_deck e3' ev.old⟩ (.int t) (fun q => Bool.noConfusion q) (hk t t0 t1)
      · rcases List.mem_cons.mp m with w | w
        · exact n (.inl ⟨e2, .inl w⟩)
        · exact n (.inl ⟨e2, .inr (List.mem_singleton.mp w)⟩)
      · by_cases hb : b ∈ [z.dk, z.c]
        · rcases List.mem_cons.mp hb with w | w
          · rw [w, g1]; intro q; cases q
          · rw [List.mem_singleton.mp w, g2]; intro q; cases q
        · cases hq : H b with
          | none => exact absurd hq q
          | some o => rw [ev.old b o hq hb]; intro q; cases q
      · obtain ⟨q1, q2, q3⟩ := q
        exact ⟨q1, q2, (by rw [← hd]; exact ⟨a', r', s', cs', g1, g2, g3⟩), (by rw [← hd]; trivial)⟩
    | _ => cases hd
  · exact hw.elim
end
end Ew
namespace Ew
open PySem PySem.Spec PyProof.Rows L2 Pu
variable [Tbs]
section
variable {P : Program} {w : World} {K : PySem.W.Frag} {mg : Str → Option Value} {base : Heap}
theorem ok_is_whole (T : Tx K mg base) : FnOk P Tbs.wd K mg base CX0 1 T.a_is_whole T.d_is_whole ["thing"] (Sf false 1 wp_is_whole) :=
  fn_ok (p := P_is_whole) (k := 0) T.F_is_whole sc_is_whole (fun _ _ _ _ _ _ hr => (b_one (s_ret (E.toB (e_and (E.toB (e_callB call_isi cd_isi (by rfl) T.n_isinstance (by decide +kernel) (a_cons (l := false) (E.toB (e_v 0)) (a_cons (l := false) (E.toB (e_ty (n := "int") (by rfl) T.n_int (by decide +kernel))) a_nil)))) (e_one (e_not (E.toB (e_callB call_isi cd_isi (by rfl) T.n_isinstance (by decide +kernel) (a_cons (l := false) (E.toB (e_v 0)) (a_cons (l := false) (E.toB (e_ty (n := "bool") (by rfl) T.n_bool (by decide +kernel))) a_nil)))))))))))
theorem ok_are_wholes (T : Tx K mg base) : FnOk P Tbs.wd K mg base CX0 3 T.a_are_wholes T.d_are_wholes ["thing", "many"] (Sf false 2 wp_are_wholes) :=
  fn_okT (p := P_are_wholes) (k := 2) T.F_are_wholes T.h_are_wholes sc_are_wholes (fun _ _ _ _ _ hr => (b_cons (s_if (w_t (w_or (t_not (t_val (E.toB (e_callB call_isi cd_isi (by rfl) T.n_isinstance (by decide +kernel) (a_cons (l := false) (E.toB (e_v 0)) (a_cons (l := false) (E.toB (e_ty (n := "tuple") (by rfl) T.n_tuple (by decide +kernel))) a_nil)))))) (w_or1 (t_cmp (op_neD hr.units) (OpD.eb opd_ne) (E.toB (e_callB call_lenA cd_len (by rfl) T.n_len (by decide +kernel) (a_cons (l := false) (E.toB (e_v 0)) a_nil))) (E.toB (e_v 1)) (nomark _))))) (b_one (s_ret (E.toB e_bl))) b_nil)
    (b_one (s_ret (E.toB (e_all (k := 1) (own := [("part", 2)]) hr (i_seq (e_v 0)) (fun _ _ _ _ _ _ => (g_name (i := 2) sc_are_wholes.nd rfl (.inl rfl))) (fun _ _ _ _ _ _ hr => (E.toB (e_call (mo := .e) (ok_is_whole T) (hr.mono (by decide)) rfl T.g_is_whole T.F_is_whole.kp T.b_is_whole (a_cons (l := true) (e_v 2) a_nil) (.inl rfl)))) rfl sc_are_wholes.nd (by rfl) T.n_all T.tb_are_wholes T.m_are_wholes rfl (blkOk_by (N := N_are_wholes) (sc := defScope s_are_wholes) (by decide +kernel)) (by decide +kernel) (fun _ h => h) rg_name))))))
theorem ok_is_end (T : Tx K mg base) : FnOk P Tbs.wd K mg base CX0 4 T.a_is_end T.d_is_end ["thing"] (Sf false 1 wp_is_end) :=
  fn_ok (p := P_is_end) (k := 3) T.F_is_end sc_is_end (fun _ _ _ _ _ _ hr => (b_one (s_ret (E.toB (e_and (E.toB (e_call (mo := .e) (ok_are_wholes T) (hr.mono (by decide)) rfl T.g_are_wholes T.F_are_wholes.kp T.b_are_wholes (a_cons (l := true) (e_v 0) (a_cons (l := true) e_int a_nil)) (.inl rfl))) (e_and (E.toB (e_cmp op_ge opd_ge (E.toB (e_ix (E.ec (e_v 0)) (E.ec e_int))) (E.toB e_int) (nomark _))) (e_one (e_cmp op_ge opd_ge (E.toB (e_ix (E.ec (e_v 0)) (E.ec e_int))) (E.toB e_int) (nomark _)))))))))
theorem ok_is_ends (T : Tx K mg base) : FnOk P Tbs.wd K mg base CX0 6 T.a_is_ends T.d_is_ends ["thing"] (Sf false 1 wp_is_ends) :=
  fn_okT (p := P_is_ends) (k := 5) T.F_is_ends T.h_is_ends sc_is_ends (fun _ _ _ _ _ hr => (b_cons (s_if (w_t (w_or (t_not (t_val (E.toB (e_callB call_isi cd_isi (by rfl) T.n_isinstance (by decide +kernel) (a_cons (l := false) (E.toB (e_v 0)) (a_cons (l := false) (E.toB (e_ty (n := "tuple") (by rfl) T.n_tuple (by decide +kernel))) a_nil)))))) (w_or1 (t_cmp (op_eqD hr.units) (OpD.eb opd_eq) (E.toB (e_callB call_lenA cd_len (by rfl) T.n_len (by decide +kernel) (a_cons (l := false) (E.toB (e_v 0)) a_nil))) (E.toB e_int) (nomark _))))) (b_one (s_ret (E.toB e_bl))) b_nil)
    (b_one (s_ret (E.toB (e_all (k := 4) (own := [("part", 1)]) hr (i_seq (e_v 0)) (fun _ _ _ _ _ _ => (g_name (i := 1) sc_is_ends.nd rfl (.inl rfl))) (fun _ _ _ _ _ _ hr => (E.toB (e_call (mo := .e) (ok_is_end T) (hr.mono (by decide)) rfl T.g_is_end T.F_is_end.kp T.b_is_end (a_cons (l := true) (e_v 1) a_nil) (.inl rfl)))) rfl sc_is_ends.nd (by rfl) T.n_all T.tb_is_ends T.m_is_ends rfl (blkOk_by (N := N_is_ends) (sc := defScope s_is_ends) (by decide +kernel)) (by decide +kernel) (fun _ h => h) rg_name))))))
theorem ok_joins_below (T : Tx K mg base) : FnOk P Tbs.wd K mg base CX0 4 T.a_joins_below T.d_joins_below ["joint", "thing"] (Sf false 2 wp_joins_below) :=
  fn_ok (p := P_joins_below) (k := 3) T.F_joins_below sc_joins_below (fun _ _ _ _ _ _ hr => (b_cons (s_if (t_not (t_val (E.toB (e_call (mo := .e) (ok_are_wholes T) (hr.mono (by decide)) rfl T.g_are_wholes T.F_are_wholes.kp T.b_are_wholes (a_cons (l := true) (e_v 1) (a_cons (l := true) e_int a_nil)) (.inl rfl))))) (b_one (s_ret (E.toB e_bl))) b_nil)
    (b_cons (s_asg (e_v 1) (g_tup (by rfl) (gs_cons (g_name (i := 2) sc_joins_below.nd rfl (.inl rfl)) (gs_cons (g_name (i := 3) sc_joins_below.nd rfl (.inl rfl)) gs_nil))))
    (b_one (s_ret (E.toB (e_and (E.toB (e_cmp (op_neD hr.units) opd_ne (E.toB (e_v 2)) (E.toB (e_v 3)) (nomark _))) (e_and (E.toB (e_chain op_le op_lt (OpD.eb opd_le) opd_lt (E.toB e_int) (E.toB (e_v 2)) (E.toB (e_v 0)))) (e_one (e_chain op_le op_lt (OpD.eb opd_le) opd_lt (E.toB e_int) (E.toB (e_v 3)) (E.toB (e_v 0))))))))))))
theorem ok_is_joining (T : Tx K mg base) : FnOk P Tbs.wd K mg base CX0 5 T.a_is_joining T.d_is_joining ["many", "thing"] (Sf false 2 wp_is_joining) :=
  fn_ok (p := P_is_joining) (k := 4) T.F_is_joining sc_is_joining (fun _ _ _ _ _ _ hr => (b_cons (s_if (w_t (w_or (t_not (t_val (E.toB (e_callB call_isi cd_isi (by rfl) T.n_isinstance (by decide +kernel) (a_cons (l := false) (E.toB (e_v 1)) (a_cons (l := false) (E.toB (e_ty (n := "tuple") (by rfl) T.n_tuple (by decide +kernel))) a_nil)))))) (w_or1 (t_cmp (op_neD hr.units) (OpD.eb opd_ne) (E.toB (e_callB call_lenA cd_len (by rfl) T.n_len (by decide +kernel) (a_cons (l := false) (E.toB (e_v 1)) a_nil))) (E.toB (e_op op_sub opd_sub (E.toB (e_v 0)) (E.toB e_int))) (nomark _))))) (b_one (s_ret (E.toB e_bl))) b_nil)
    (b_cons (s_own (i := 2) (e_set0 rfl (by rfl) T.n_set) sc_is_joining.nd rfl (Or.inl rfl))
    (b_cons (s_for (i_enumS (e_v 1) (E.toB (e_v 0)) (by rfl) T.n_enumerate) (g_tup (by rfl) (gs_cons (g_name (i := 3) sc_is_joining.nd rfl (.inl rfl)) (gs_cons (g_name (i := 4) sc_is_joining.nd rfl (.inl rfl)) gs_nil)))
    (b_cons (s_if (t_not (t_val (E.toB (e_call (mo := .e) (ok_joins_below T) (hr.mono (by decide)) rfl T.g_joins_below T.F_joins_below.kp T.b_joins_below (a_cons (l := true) (e_v 3) (a_cons (l := true) (e_v 4) a_nil)) (.inl rfl))))) (b_one (s_ret (E.toB e_bl))) b_nil)
    (b_cons (s_asg (e_v 4) (g_tup (by rfl) (gs_cons (g_name (i := 5) sc_is_joining.nd rfl (.inl rfl)) (gs_cons (g_name (i := 6) sc_is_joining.nd rfl (.inl rfl)) gs_nil))))
    (b_cons (s_if (w_t (w_or (t_cmp (or_sinW rfl) (OpD.eb opd_sin) (E.ec (e_v 5)) (e_o 2) (by rfl)) (w_or1 (t_cmp (or_sinW rfl) (OpD.eb opd_sin) (E.ec (e_v 6)) (e_o 2) (by rfl))))) (b_one (s_ret (E.toB e_bl))) b_nil)
    (b_cons (s_sadd 2 rfl (E.toB (e_v 5)) (hb := fun _ _ ho he => pe_sadd ho (pa_cons he pa_nil)))
    (b_one (s_sadd 2 rfl (E.toB (e_v 6)) (hb := fun _ _ ho he => pe_sadd ho (pa_cons he pa_nil)))))))) PassesOwn.never rfl)
    (b_frz 2 (b_one (s_ret (E.toB e_bl))))))))
theorem ok_show_wires (T : Tx K mg base) : FnOk P Tbs.wd K mg base CX0 1 T.a_show_wires T.d_show_wires ["ends", "joining"] (Sf false 2 wp_show_wires) :=
  fn_ok (p := P_show_wires) (k := 0) T.F_show_wires sc_show_wires (fun _ _ _ _ _ _ hr => (b_cons (s_own (i := 2) (e_lst (a_cons (l := true) (e_js (Js.cons (E.toB e_str) (Js.cons (E.toB (e_fmt (E.toB (e_callB call_lenA cd_len (by rfl) T.n_len (by decide +kernel) (a_cons (l := false) (E.toB (e_v 0)) a_nil))))) Js.nil))) a_nil)) sc_show_wires.nd rfl (Or.inl rfl))
    (b_cons (s_extL 2 (E.fe (e_lc (own := [("x", 3), ("y", 4), ("start", 5), ("load", 6)]) (i_seq (e_v 0)) (fun _ _ _ _ _ => (g_tup (by rfl) (gs_cons (g_name (i := 3) sc_show_wires.nd rfl (.inl rfl)) (gs_cons (g_name (i := 4) sc_show_wires.nd rfl (.inl rfl)) (gs_cons (g_name (i := 5) sc_show_wires.nd rfl (.inl rfl)) (gs_cons (g_name (i := 6) sc_show_wires.nd rfl (.inl rfl)) gs_nil)))))) (fun _ _ _ _ _ => ts_nil) (fun _ _ _ _ _ => (e_js (Js.cons (E.toB e_str) (Js.cons (E.toB (e_fmt (E.toB (e_v 3)))) (Js.cons (E.toB e_str) (Js.cons (E.toB (e_fmt (E.toB (e_v 4)))) (Js.cons (E.toB e_str) (Js.cons (E.toB (e_fmt (E.toB (e_v 5)))) (Js.cons (E.toB e_str) (Js.cons (E.toB (e_fmt (E.toB (e_v 6)))) Js.nil)))))))))) rfl sc_show_wires.nd (blkOk_by (N := N_show_wires) (sc := defScope s_show_wires) (by decide +kernel)) (fun _ h => h) (rg_tup (rgs_cons rg_name (rgs_cons rg_name (rgs_cons rg_name (rgs_cons rg_name rgs_nil))))))) sc_show_wires.nd rfl (Or.inl rfl))
    (b_cons (s_extL 2 (E.fe (e_lc (own := [("one", 7), ("other", 8)]) (i_seq (e_v 1)) (fun _ _ _ _ _ => (g_tup (by rfl) (gs_cons (g_name (i := 7) sc_show_wires.nd rfl (.inl rfl)) (gs_cons (g_name (i := 8) sc_show_wires.nd rfl (.inl rfl)) gs_nil)))) (fun _ _ _ _ _ => ts_nil) (fun _ _ _ _ _ => (e_js (Js.cons (E.toB e_str) (Js.cons (E.toB (e_fmt (E.toB (e_v 7)))) (Js.cons (E.toB e_str) (Js.cons (E.toB (e_fmt (E.toB (e_v 8)))) Js.nil)))))) rfl sc_show_wires.nd (blkOk_by (N := N_show_wires) (sc := defScope s_show_wires) (by decide +kernel)) (fun _ h => h) (rg_tup (rgs_cons rg_name (rgs_cons rg_name rgs_nil))))) sc_show_wires.nd rfl (Or.inl rfl))
    (b_frz 2 (b_one (s_ret (E.toB (e_m1 PySem.F.slot_str_join PySem.F.type_str_join mt_join md_join e_str (e_v 2))))))))))
theorem ok_lines_of (T : Tx K mg base) : FnOk P Tbs.wd K mg base CX0 1 T.a_lines_of T.d_lines_of ["thing"] (Sf false 1 wp_lines_of) :=
  fn_ok (p := P_lines_of) (k := 0) T.F_lines_of sc_lines_of (fun _ _ _ _ _ _ hr => (b_cons (s_if (t_not (t_val (E.toB (e_callB call_isi cd_isi (by rfl) T.n_isinstance (by decide +kernel) (a_cons (l := false) (E.toB (e_v 0)) (a_cons (l := false) (E.toB (e_ty (n := "str") (by rfl) T.n_str (by decide +kernel))) a_nil)))))) (b_one s_never) b_nil)
    (b_one (s_ret (E.toB (e_m1 PySem.F.slot_str_split PySem.F.type_str_split mt_split md_split (e_v 0) e_str))))))
theorem ok_is_number (T : Tx K mg base) : FnOk P Tbs.wd K mg base CX0 2 T.a_is_number T.d_is_number ["word"] (Sf false 1 wp_is_number) :=
  fn_okT (p := P_is_number) (k := 1) T.F_is_number T.h_is_number sc_is_number (fun _ _ _ _ _ hr => (b_cons (s_set (i := 1) (e_m1 PySem.F.slot_str_removeprefix PySem.F.type_str_removeprefix mt_removeprefix md_remove (e_v 0) e_str) sc_is_number.nd rfl (Or.inl rfl))
    (b_cons (s_if (w_t (w_or (t_not (t_chain op_le op_le (OpD.eb opd_le) opd_le (E.toB e_int) (E.toB (e_callB call_lenA cd_len (by rfl) T.n_len (by decide +kernel) (a_cons (l := false) (E.toB (e_v 1)) a_nil))) (E.toB (e_gint (by rfl) T.c_MOST_FIGURES)))) (w_or1 (t_not (t_val (E.toB (e_all (k := 0) (own := [("figure", 2)]) hr (i_str (e_v 1)) (fun _ _ _ _ _ _ => (g_name (i := 2) sc_is_number.nd rfl (.inl rfl))) (fun _ _ _ _ _ _ hr => (E.toB (e_cmp op_in_sign opd_sgin (E.toB (e_v 2)) (E.toB (e_gstr (by rfl) T.c_FIGURES)) (by rfl)))) rfl sc_is_number.nd (by rfl) T.n_all T.tb_is_number T.m_is_number rfl (blkOk_by (N := N_is_number) (sc := defScope s_is_number) (by decide +kernel)) (by decide +kernel) (fun _ h => h) rg_name))))))) (b_one (s_ret (E.toB e_bl))) b_nil)
    (b_one (s_ret (E.toB (e_or (E.toB (e_cmp (op_neD hr.units) opd_ne (E.toB (e_ix (E.ec (e_v 1)) (E.ec e_int))) (E.toB e_str) (nomark _))) (e_one (e_cmp (op_eqD hr.units) opd_eq (E.toB (e_v 0)) (E.toB e_str) (nomark _))))))))))
theorem ok_numbers_of (T : Tx K mg base) : FnOk P Tbs.wd K mg base CX0 4 T.a_numbers_of T.d_numbers_of ["line", "many"] (Sf false 2 wp_numbers_of) :=
  fn_okT (p := P_numbers_of) (k := 3) T.F_numbers_of T.h_numbers_of sc_numbers_of (fun _ _ _ _ _ hr => (b_cons (s_set (i := 2) (E.fe (e_m1 PySem.F.slot_str_split PySem.F.type_str_split mt_split md_split (e_v 0) e_str)) sc_numbers_of.nd rfl (Or.inl rfl))
    (b_cons (s_if (w_t (w_or (t_cmp (op_neD hr.units) (OpD.eb opd_ne) (E.toB (e_callB call_lenA cd_len (by rfl) T.n_len (by decide +kernel) (a_cons (l := false) (E.toB (e_v 2)) a_nil))) (E.toB (e_v 1)) (nomark _)) (w_or1 (t_not (t_val (E.toB (e_all (k := 2) (own := [("word", 3)]) hr (i_seq (e_v 2)) (fun _ _ _ _ _ _ => (g_name (i := 3) sc_numbers_of.nd rfl (.inl rfl))) (fun _ _ _ _ _ _ hr => (E.toB (e_call (mo := .e) (ok_is_number T) (hr.mono (by decide)) rfl T.g_is_number T.F_is_number.kp T.b_is_number (a_cons (l := true) (e_v 3) a_nil) (.inl rfl)))) rfl sc_numbers_of.nd (by rfl) T.n_all T.tb_numbers_of T.m_numbers_of rfl (blkOk_by (N := N_numbers_of) (sc := defScope s_numbers_of) (by decide +kernel)) (by decide +kernel) (fun _ h => h) rg_name))))))) (b_one s_never) b_nil)
    (b_one (s_ret (E.toB (e_tuple (E.ec (E.fe (e_lc (own := [("word", 3)]) (i_seq (e_v 2)) (fun _ _ _ _ _ => (g_name (i := 3) sc_numbers_of.nd rfl (.inl rfl))) (fun _ _ _ _ _ => ts_nil) (fun _ _ _ _ _ => (e_callTy call_int_str cd_intS (by rfl) T.n_int (by decide +kernel) (a_cons (l := false) (E.toB (e_v 3)) a_nil))) rfl sc_numbers_of.nd (blkOk_by (N := N_numbers_of) (sc := defScope s_numbers_of) (by decide +kernel)) (fun _ h => h) rg_name))) (by rfl) T.n_tuple (by decide +kernel))))))))
theorem ok_numbers_behind (T : Tx K mg base) : FnOk P Tbs.wd K mg base CX0 5 T.a_numbers_behind T.d_numbers_behind ["head", "line", "many"] (Sf false 3 wp_numbers_behind) :=
  fn_ok (p := P_numbers_behind) (k := 4) T.F_numbers_behind sc_numbers_behind (fun _ _ _ _ _ _ hr => (b_cons (s_if (t_not (t_val (E.toB (e_m1 PySem.F.slot_str_startswith PySem.F.type_str_startswith mt_startswith md_starts (e_v 1) (e_v 0))))) (b_one s_never) b_nil)
    (b_one (s_ret (E.toB (e_call (mo := .e) (ok_numbers_of T) (hr.mono (by decide)) rfl T.g_numbers_of T.F_numbers_of.kp T.b_numbers_of (a_cons (l := true) (e_m1 PySem.F.slot_str_removeprefix PySem.F.type_str_removeprefix mt_removeprefix md_remove (e_v 1) (e_v 0)) (a_cons (l := true) (e_v 2) a_nil)) (.inl rfl)))))))
theorem ok_read_wires (T : Tx K mg base) : FnOk P Tbs.wd K mg base CX0 7 T.a_read_wires T.d_read_wires ["thing"] (Sf false 1 wp_read_wires) :=
  fn_ok (p := P_read_wires) (k := 6) T.F_read_wires sc_read_wires (fun _ _ _ _ _ _ hr => (b_cons (s_set (i := 1) (e_call (mo := .e) (ok_lines_of T) (hr.mono (by decide)) rfl T.g_lines_of T.F_lines_of.kp T.b_lines_of (a_cons (l := true) (e_v 0) a_nil) (.inl rfl)) sc_read_wires.nd rfl (Or.inl rfl))
    (b_cons (s_set (i := 2) (e_ix (E.ec (e_call (mo := .e) (ok_numbers_behind T) (hr.mono (by decide)) rfl T.g_numbers_behind T.F_numbers_behind.kp T.b_numbers_behind (a_cons (l := true) e_str (a_cons (l := true) (e_ix (E.ec (e_v 1)) (E.ec e_int)) (a_cons (l := true) e_int a_nil))) (.inl rfl))) (E.ec e_int)) sc_read_wires.nd rfl (Or.inl rfl))
    (b_cons (s_if (w_t (w_or (t_not (t_chain op_le op_le (OpD.eb opd_le) opd_le (E.toB e_int) (E.toB (e_v 2)) (E.toB (e_gint (by rfl) T.c_MOST_ENDS)))) (w_or1 (t_cmp (op_neD hr.units) (OpD.eb opd_ne) (E.toB (e_callB call_lenA cd_len (by rfl) T.n_len (by decide +kernel) (a_cons (l := false) (E.toB (e_v 1)) a_nil))) (E.toB (e_op op_mul opd_mul (E.toB e_int) (E.toB (e_v 2)))) (nomark _))))) (b_one s_never) b_nil)
    (b_cons (s_set (i := 3) (e_tuple (E.ec (E.fe (e_lc (own := [("line", 4)]) (i_seq (e_slice (E.ec (e_v 1)) (o_some (E.toB e_int)) (o_some (E.toB (e_op op_addA opd_add (E.ec (e_v 2)) (E.ec e_int)))))) (fun _ _ _ _ _ => (g_name (i := 4) sc_read_wires.nd rfl (.inl rfl))) (fun _ _ _ _ _ => ts_nil) (fun _ _ _ _ _ => (e_call (mo := .e) (ok_numbers_behind T) (hr.mono (by decide)) rfl T.g_numbers_behind T.F_numbers_behind.kp T.b_numbers_behind (a_cons (l := true) e_str (a_cons (l := true) (e_v 4) (a_cons (l := true) e_int a_nil))) (.inl rfl))) rfl sc_read_wires.nd (blkOk_by (N := N_read_wires) (sc := defScope s_read_wires) (by decide +kernel)) (fun _ h => h) rg_name))) (by rfl) T.n_tuple (by decide +kernel)) sc_read_wires.nd rfl (Or.inl rfl))
    (b_cons (s_set (i := 5) (e_tuple (E.ec (E.fe (e_lc (own := [("line", 4)]) (i_seq (e_slice (E.ec (e_v 1)) (o_some (E.toB (e_op op_addA opd_add (E.ec (e_v 2)) (E.ec e_int)))) o_none)) (fun _ _ _ _ _ => (g_name (i := 4) sc_read_wires.nd rfl (.inl rfl))) (fun _ _ _ _ _ => ts_nil) (fun _ _ _ _ _ => (e_call (mo := .e) (ok_numbers_behind T) (hr.mono (by decide)) rfl T.g_numbers_behind T.F_numbers_behind.kp T.b_numbers_behind (a_cons (l := true) e_str (a_cons (l := true) (e_v 4) (a_cons (l := true) e_int a_nil))) (.inl rfl))) rfl sc_read_wires.nd (blkOk_by (N := N_read_wires) (sc := defScope s_read_wires) (by decide +kernel)) (fun _ h => h) rg_name))) (by rfl) T.n_tuple (by decide +kernel)) sc_read_wires.nd rfl (Or.inl rfl))
    (b_cons (s_if (w_t (w_or (t_not (t_val (E.toB (e_call (mo := .e) (ok_is_ends T) (hr.mono (by decide)) rfl T.g_is_ends T.F_is_ends.kp T.b_is_ends (a_cons (l := true) (e_v 3) a_nil) (.inl rfl))))) (w_or1 (t_not (t_val (E.toB (e_call (mo := .e) (ok_is_joining T) (hr.mono (by decide)) rfl T.g_is_joining T.F_is_joining.kp T.b_is_joining (a_cons (l := true) (e_v 2) (a_cons (l := true) (e_v 5) a_nil)) (.inl rfl)))))))) (b_one s_never) b_nil)
    (b_one (s_ret (E.toB (e_tup (a_cons (l := true) (e_v 3) (a_cons (l := true) (e_v 5) a_nil)))))))))))))
theorem ok__law_number (T : Tx K mg base) : FnOk P Tbs.wd K mg base CX0 2 T.a__law_number T.d__law_number ["_law_deck_here", "_law_way"] (Sf false 2 wp__law_number) :=
  fn_ok (p := P__law_number) (k := 1) T.F__law_number sc__law_number (fun _ _ _ _ _ _ hr => (b_cons (s_if (t_cmp (op_eqD hr.units) (OpD.eb opd_eq) (E.toB (e_v 1)) (E.toB e_int) (nomark _)) (b_one (s_ret (E.toB (e_call (mo := .e) (okS__law_draw T) (hr.mono (by decide)) rfl T.g__law_draw T.F__law_draw.kp T.b__law_draw (a_cons (l := true) (e_v 0) (a_cons (l := true) e_int a_nil)) (.inl rfl))))) b_nil)
    (b_cons (s_if (t_cmp (op_eqD hr.units) (OpD.eb opd_eq) (E.toB (e_v 1)) (E.toB e_int) (nomark _)) (b_one (s_ret (E.toB (e_op op_fdiv opd_div (E.toB (e_ix (E.ec (E.fe (e_lst (a_cons (l := true) (e_powC 10 6 1000000) (a_cons (l := true) (e_neg (E.toB (e_powC 10 6 1000000))) a_nil))))) (E.ec (e_call (mo := .e) (okS__law_draw T) (hr.mono (by decide)) rfl T.g__law_draw T.F__law_draw.kp T.b__law_draw (a_cons (l := true) (e_v 0) (a_cons (l := true) e_int a_nil)) (.inl rfl))))) (E.toB (e_op op_addA opd_add (E.ec e_int) (E.ec (e_call (mo := .e) (okS__law_draw T) (hr.mono (by decide)) rfl T.g__law_draw T.F__law_draw.kp T.b__law_draw (a_cons (l := true) (e_v 0) (a_cons (l := true) e_int a_nil)) (.inl rfl))))))))) b_nil)
    (b_one (s_ret (E.toB (e_op op_sub opd_sub (E.toB (e_call (mo := .e) (okS__law_draw T) (hr.mono (by decide)) rfl T.g__law_draw T.F__law_draw.kp T.b__law_draw (a_cons (l := true) (e_v 0) (a_cons (l := true) (e_op op_addA opd_add (E.ec (e_op op_mul opd_mul (E.toB e_int) (E.toB (e_powC 10 6 1000000)))) (E.ec e_int)) a_nil)) (.inl rfl))) (E.toB (e_powC 10 6 1000000)))))))))
theorem ok__law_end (T : Tx K mg base) : FnOk P Tbs.wd K mg base CX0 3 T.a__law_end T.d__law_end ["_law_deck_here", "_law_way", "_law_bare"] (Sf false 3 wp__law_end) :=
  fn_ok (p := P__law_end) (k := 2) T.F__law_end sc__law_end (fun _ _ _ _ _ _ hr => (b_cons (s_set (i := 3) (E.fe (e_lst (a_cons (l := true) (e_call (mo := .e) (ok__law_number T) (hr.mono (by decide)) rfl T.g__law_number T.F__law_number.kp T.b__law_number (a_cons (l := true) (e_v 0) (a_cons (l := true) (e_v 1) a_nil)) (.inl rfl)) (a_cons (l := true) (e_call (mo := .e) (ok__law_number T) (hr.mono (by decide)) rfl T.g__law_number T.F__law_number.kp T.b__law_number (a_cons (l := true) (e_v 0) (a_cons (l := true) (e_v 1) a_nil)) (.inl rfl)) a_nil)))) sc__law_end.nd rfl (Or.inl rfl))
    (b_cons (s_set (i := 4) e_int sc__law_end.nd rfl (Or.inl rfl))
    (b_cons (s_if (t_not (t_val (E.toB (e_v 2)))) (b_one (s_set (i := 4) (e_ix (E.ec (E.fe (e_lst (a_cons (l := true) e_int (a_cons (l := true) (e_call (mo := .e) (okS__law_draw T) (hr.mono (by decide)) rfl T.g__law_draw T.F__law_draw.kp T.b__law_draw (a_cons (l := true) (e_v 0) (a_cons (l := true) e_int a_nil)) (.inl rfl)) (a_cons (l := true) (e_call (mo := .e) (okS__law_draw T) (hr.mono (by decide)) rfl T.g__law_draw T.F__law_draw.kp T.b__law_draw (a_cons (l := true) (e_v 0) (a_cons (l := true) (e_op op_addA opd_add (E.ec (e_powC 10 6 1000000)) (E.ec e_int)) a_nil)) (.inl rfl)) (a_cons (l := true) (e_powC 10 6 1000000) a_nil))))))) (E.ec (e_call (mo := .e) (okS__law_draw T) (hr.mono (by decide)) rfl T.g__law_draw T.F__law_draw.kp T.b__law_draw (a_cons (l := true) (e_v 0) (a_cons (l := true) e_int a_nil)) (.inl rfl)))) sc__law_end.nd rfl (Or.inl rfl))) b_nil)
    (b_one (s_ret (E.toB (e_tup (a_cons (l := true) (e_ix (E.ec (e_v 3)) (E.ec e_int)) (a_cons (l := true) (e_ix (E.ec (e_v 3)) (E.ec e_int)) (a_cons (l := true) (e_v 4) (a_cons (l := true) (e_ix (E.ec (E.fe (e_lst (a_cons (l := true) (e_call (mo := .e) (okS__law_draw T) (hr.mono (by decide)) rfl T.g__law_draw T.F__law_draw.kp T.b__law_draw (a_cons (l := true) (e_v 0) (a_cons (l := true) e_int a_nil)) (.inl rfl)) (a_cons (l := true) (e_call (mo := .e) (okS__law_draw T) (hr.mono (by decide)) rfl T.g__law_draw T.F__law_draw.kp T.b__law_draw (a_cons (l := true) (e_v 0) (a_cons (l := true) (e_op op_addA opd_add (E.ec (e_powC 10 6 1000000)) (E.ec e_int)) a_nil)) (.inl rfl)) a_nil))))) (E.ec (e_call (mo := .e) (okS__law_draw T) (hr.mono (by decide)) rfl T.g__law_draw T.F__law_draw.kp T.b__law_draw (a_cons (l := true) (e_v 0) (a_cons (l := true) e_int a_nil)) (.inl rfl)))) a_nil))))))))))))
theorem ok__law_ends (T : Tx K mg base) : FnOk P Tbs.wd K mg base CX0 4 T.a__law_ends T.d__law_ends ["_law_deck_here"] (Sf false 1 wp__law_ends) :=
  fn_ok (p := P__law_ends) (k := 3) T.F__law_ends sc__law_ends (fun _ _ _ _ _ _ hr => (b_cons (s_set (i := 1) (e_op op_addA opd_add (E.ec e_int) (E.ec (e_call (mo := .e) (okS__law_draw T) (hr.mono (by decide)) rfl T.g__law_draw T.F__law_draw.kp T.b__law_draw (a_cons (l := true) (e_v 0) (a_cons (l := true) (e_ix (E.ec (E.fe (e_lst (a_cons (l := true) e_int (a_cons (l := true) e_int a_nil))))) (E.ec (e_callTy call_int1 cd_int (by rfl) T.n_int (by decide +kernel) (a_cons (l := false) (E.toB (e_cmp (op_eqD hr.units) opd_eq (E.toB (e_call (mo := .e) (okS__law_draw T) (hr.mono (by decide)) rfl T.g__law_draw T.F__law_draw.kp T.b__law_draw (a_cons (l := true) (e_v 0) (a_cons (l := true) e_int a_nil)) (.inl rfl))) (E.toB e_int) (nomark _))) a_nil)))) a_nil)) (.inl rfl)))) sc__law_ends.nd rfl (Or.inl rfl))
    (b_cons (s_set (i := 2) (e_call (mo := .e) (okS__law_draw T) (hr.mono (by decide)) rfl T.g__law_draw T.F__law_draw.kp T.b__law_draw (a_cons (l := true) (e_v 0) (a_cons (l := true) e_int a_nil)) (.inl rfl)) sc__law_ends.nd rfl (Or.inl rfl))
    (b_cons (s_set (i := 3) (e_cmp (op_eqD hr.units) opd_eq (E.toB (e_call (mo := .e) (okS__law_draw T) (hr.mono (by decide)) rfl T.g__law_draw T.F__law_draw.kp T.b__law_draw (a_cons (l := true) (e_v 0) (a_cons (l := true) e_int a_nil)) (.inl rfl))) (E.toB e_int) (nomark _)) sc__law_ends.nd rfl (Or.inl rfl))
    (b_cons (s_own (i := 4) (e_lst a_nil) sc__law_ends.nd rfl (Or.inl rfl))
    (b_cons (s_for (i_range1 (a_cons (l := false) (E.toB (e_v 1)) a_nil) (by rfl) T.n_range) (g_name (i := 5) sc__law_ends.nd rfl (.inl rfl))
    (b_cons (s_set (i := 6) (e_cmp (op_eqD hr.units) opd_eq (E.toB (e_call (mo := .e) (okS__law_draw T) (hr.mono (by decide)) rfl T.g__law_draw T.F__law_draw.kp T.b__law_draw (a_cons (l := true) (e_v 0) (a_cons (l := true) e_int a_nil)) (.inl rfl))) (E.toB e_int) (nomark _)) sc__law_ends.nd rfl (Or.inl rfl))
    (b_cons (s_set (i := 7) (e_call (mo := .e) (ok__law_end T) (hr.mono (by decide)) rfl T.g__law_end T.F__law_end.kp T.b__law_end (a_cons (l := true) (e_v 0) (a_cons (l := true) (e_v 2) (a_cons (l := true) (e_v 3) a_nil))) (.inl rfl)) sc__law_ends.nd rfl (Or.inl rfl))
    (b_cons (s_if (w_t (w_and (t_val (E.toB (e_v 6))) (w_and1 (t_cmp (op_neD hr.units) (OpD.eb opd_ne) (E.toB (e_o 4)) (E.toB (e_lst a_nil)) (nomark _))))) (b_one (s_set (i := 7) (e_op op_addA opd_add (E.ec (e_slice (E.ec (e_ix (e_o 4) (E.ec (e_call (mo := .e) (okS__law_draw T) (hr.mono (by decide)) rfl T.g__law_draw T.F__law_draw.kp T.b__law_draw (a_cons (l := true) (e_v 0) (a_cons (l := true) (e_callB call_lenA cd_len (by rfl) T.n_len (by decide +kernel) (a_cons (l := false) (E.toB (e_o 4)) a_nil)) a_nil)) (.inl rfl))))) o_none (o_some (E.toB e_int)))) (E.ec (e_slice (E.ec (e_v 7)) (o_some (E.toB e_int)) o_none))) sc__law_ends.nd rfl (Or.inl rfl))) b_nil)
    (b_one (s_append 4 (e_v 7) (hb := fun _ _ ho he => pe_bm PySem.F.plainAttrs_list PySem.F.slot_list_append PySem.F.type_list_append mt_append ho (pa_cons he pa_nil))))))) PassesOwn.never rfl)
    (b_frz 4 (b_one (s_ret (E.toB (e_tuple (E.ec (e_v 4)) (by rfl) T.n_tuple (by decide +kernel))))))))))))
theorem ok__law_joining (T : Tx K mg base) : FnOk P Tbs.wd K mg base CX0 2 T.a__law_joining T.d__law_joining ["_law_deck_here", "_law_many"] (Sf false 2 wp__law_joining) :=
  fn_ok (p := P__law_joining) (k := 1) T.F__law_joining sc__law_joining (fun _ _ _ _ _ _ hr => (b_cons (s_own (i := 2) (e_lstRg1 (E.toB (e_v 1)) rfl (by rfl) T.n_list (by rfl) T.n_range) sc__law_joining.nd rfl (Or.inl rfl))
    (b_cons (s_set (i := 3) (e_cmp (op_eqD hr.units) opd_eq (E.toB (e_call (mo := .e) (okS__law_draw T) (hr.mono (by decide)) rfl T.g__law_draw T.F__law_draw.kp T.b__law_draw (a_cons (l := true) (e_v 0) (a_cons (l := true) e_int a_nil)) (.inl rfl))) (E.toB e_int) (nomark _)) sc__law_joining.nd rfl (Or.inl rfl))
    (b_cons (s_own (i := 4) (e_lst a_nil) sc__law_joining.nd rfl (Or.inl rfl))
    (b_cons (s_for (i_range1 (a_cons (l := false) (E.toB (e_op op_sub opd_sub (E.toB (e_v 1)) (E.toB e_int))) a_nil) (by rfl) T.n_range) (g_name (i := 5) sc__law_joining.nd rfl (.inl rfl))
    (b_cons (s_set (i := 6) (e_call (mo := .e) (okS__law_draw T) (hr.mono (by decide)) rfl T.g__law_draw T.F__law_draw.kp T.b__law_draw (a_cons (l := true) (e_v 0) (a_cons (l := true) e_int a_nil)) (.inl rfl)) sc__law_joining.nd rfl (Or.inl rfl))
    (b_cons (s_if (t_val (E.toB (e_v 3))) (b_one (s_setM (i := 7) (mx_lst (ma_cons (mx_pop0 2 (fun _ ho => pe_bm0 PySem.F.plainAttrs_list PySem.F.slot_list_pop PySem.F.type_list_pop mt_pop ho)) (ma_cons (mx_pop 2 (E.toB e_int) (fun _ _ ho he => pe_bm PySem.F.plainAttrs_list PySem.F.slot_list_pop PySem.F.type_list_pop mt_popAt ho (pa_cons he pa_nil))) ma_nil))) sc__law_joining.nd rfl (Or.inl rfl))) (b_one (s_setM (i := 7) (mx_lst (ma_cons (mx_pop 2 (E.toB (e_call (mo := .e) (okS__law_draw T) (hr.mono (by decide)) rfl T.g__law_draw T.F__law_draw.kp T.b__law_draw (a_cons (l := true) (e_v 0) (a_cons (l := true) (e_callB call_lenA cd_len (by rfl) T.n_len (by decide +kernel) (a_cons (l := false) (E.toB (e_o 2)) a_nil)) a_nil)) (.inl rfl))) (fun _ _ ho he => pe_bm PySem.F.plainAttrs_list PySem.F.slot_list_pop PySem.F.type_list_pop mt_popAt ho (pa_cons he pa_nil))) (ma_cons (mx_pop 2 (E.toB (e_call (mo := .e) (okS__law_draw T) (hr.mono (by decide)) rfl T.g__law_draw T.F__law_draw.kp T.b__law_draw (a_cons (l := true) (e_v 0) (a_cons (l := true) (e_callB call_lenA cd_len (by rfl) T.n_len (by decide +kernel) (a_cons (l := false) (E.toB (e_o 2)) a_nil)) a_nil)) (.inl rfl))) (fun _ _ ho he => pe_bm PySem.F.plainAttrs_list PySem.F.slot_list_pop PySem.F.type_list_pop mt_popAt ho (pa_cons he pa_nil))) ma_nil))) sc__law_joining.nd rfl (Or.inl rfl))))
    (b_cons (s_append 4 (e_tup (a_cons (l := true) (e_ix (E.ec (e_v 7)) (E.ec (e_v 6))) (a_cons (l := true) (e_ix (E.ec (e_v 7)) (E.ec (e_op op_sub opd_sub (E.toB e_int) (E.toB (e_v 6))))) a_nil))) (hb := fun _ _ ho he => pe_bm PySem.F.plainAttrs_list PySem.F.slot_list_append PySem.F.type_list_append mt_append ho (pa_cons he pa_nil)))
    (b_one (s_append 2 (e_op op_addA opd_add (E.ec (e_v 1)) (E.ec (e_v 5))) (hb := fun _ _ ho he => pe_bm PySem.F.plainAttrs_list PySem.F.slot_list_append PySem.F.type_list_append mt_append ho (pa_cons he pa_nil))))))) PassesOwn.never rfl)
    (b_frz 2 (b_frz 4 (b_one (s_ret (E.toB (e_tuple (E.ec (e_v 4)) (by rfl) T.n_tuple (by decide +kernel))))))))))))
theorem ok__law_great (T : Tx K mg base) : FnOk P Tbs.wd K mg base CX0 2 T.a__law_great T.d__law_great ["_law_deck_here", "_law_most", "_law_below"] (Sf false 3 wp__law_great) :=
  fn_ok (p := P__law_great) (k := 1) T.F__law_great sc__law_great (fun _ _ _ _ _ _ hr => (b_cons (s_set (i := 3) (e_call (mo := .e) (okS__law_draw T) (hr.mono (by decide)) rfl T.g__law_draw T.F__law_draw.kp T.b__law_draw (a_cons (l := true) (e_v 0) (a_cons (l := true) e_int a_nil)) (.inl rfl)) sc__law_great.nd rfl (Or.inl rfl))
    (b_cons (s_set (i := 4) (e_ix (E.ec (E.fe (e_lst (a_cons (l := true) (e_op op_addA opd_add (E.ec e_int) (E.ec (e_call (mo := .e) (okS__law_draw T) (hr.mono (by decide)) rfl T.g__law_draw T.F__law_draw.kp T.b__law_draw (a_cons (l := true) (e_v 0) (a_cons (l := true) (e_v 1) a_nil)) (.inl rfl)))) (a_cons (l := true) (e_v 1) a_nil))))) (E.ec (e_callTy call_int1 cd_int (by rfl) T.n_int (by decide +kernel) (a_cons (l := false) (E.toB (e_cmp (op_eqD hr.units) opd_eq (E.toB (e_v 3)) (E.toB e_int) (nomark _))) a_nil)))) sc__law_great.nd rfl (Or.inl rfl))
    (b_cons (s_set (i := 5) (e_op op_addA opd_add (E.ec e_int) (E.ec (e_call (mo := .e) (okS__law_draw T) (hr.mono (by decide)) rfl T.g__law_draw T.F__law_draw.kp T.b__law_draw (a_cons (l := true) (e_v 0) (a_cons (l := true) e_int a_nil)) (.inl rfl)))) sc__law_great.nd rfl (Or.inl rfl))
    (b_cons (s_for (i_range1 (a_cons (l := false) (E.toB (e_op op_sub opd_sub (E.toB (e_v 4)) (E.toB e_int))) a_nil) (by rfl) T.n_range) (g_name (i := 6) sc__law_great.nd rfl (.inl rfl))
    (b_one (s_set (i := 5) (e_op op_addA opd_add (E.ec (e_op op_mul opd_mul (E.toB e_int) (E.toB (e_v 5)))) (E.ec (e_call (mo := .e) (okS__law_draw T) (hr.mono (by decide)) rfl T.g__law_draw T.F__law_draw.kp T.b__law_draw (a_cons (l := true) (e_v 0) (a_cons (l := true) e_int a_nil)) (.inl rfl)))) sc__law_great.nd rfl (Or.inl rfl))) PassesOwn.never rfl)
    (b_cons (s_if (t_cmp (op_eqD hr.units) (OpD.eb opd_eq) (E.toB (e_v 3)) (E.toB e_int) (nomark _)) (b_one (s_ret (E.toB e_int))) b_nil)
    (b_one (s_ret (E.toB (e_ix (E.ec (E.fe (e_lst (a_cons (l := true) (e_v 5) (a_cons (l := true) (e_neg (E.toB (e_v 5))) a_nil))))) (E.ec (e_callTy call_int1 cd_int (by rfl) T.n_int (by decide +kernel) (a_cons (l := false) (E.toB (e_and (E.toB (e_v 2)) (e_one (e_cmp (op_eqD hr.units) opd_eq (E.toB (e_v 3)) (E.toB e_int) (nomark _))))) a_nil)))))))))))))
theorem ok__law_written (T : Tx K mg base) : FnOk P Tbs.wd K mg base CX0 1 T.a__law_written T.d__law_written ["_law_ends_here", "_law_joining_here"] (Sf false 2 wp__law_written) :=
  fn_ok (p := P__law_written) (k := 0) T.F__law_written sc__law_written (fun _ _ _ _ _ _ hr => (b_cons (s_set (i := 2) (e_op op_addA opd_add (E.ec e_str) (E.ec (e_callTy call_str_int cd_strI (by rfl) T.n_str (by decide +kernel) (a_cons (l := false) (E.toB (e_callB call_lenA cd_len (by rfl) T.n_len (by decide +kernel) (a_cons (l := false) (E.toB (e_v 0)) a_nil))) a_nil)))) sc__law_written.nd rfl (Or.inl rfl))
    (b_cons (s_for (i_seq (e_v 0)) (g_tup (by rfl) (gs_cons (g_name (i := 3) sc__law_written.nd rfl (.inl rfl)) (gs_cons (g_name (i := 4) sc__law_written.nd rfl (.inl rfl)) (gs_cons (g_name (i := 5) sc__law_written.nd rfl (.inl rfl)) (gs_cons (g_name (i := 6) sc__law_written.nd rfl (.inl rfl)) gs_nil)))))
    (b_cons (s_set (i := 2) (e_op op_addA opd_add (E.ec (e_op op_addA opd_add (E.ec (e_op op_addA opd_add (E.ec (e_op op_addA opd_add (E.ec (e_v 2)) (E.ec e_str))) (E.ec (e_callTy call_str_int cd_strI (by rfl) T.n_str (by decide +kernel) (a_cons (l := false) (E.toB (e_v 3)) a_nil))))) (E.ec e_str))) (E.ec (e_callTy call_str_int cd_strI (by rfl) T.n_str (by decide +kernel) (a_cons (l := false) (E.toB (e_v 4)) a_nil)))) sc__law_written.nd rfl (Or.inl rfl))
    (b_one (s_set (i := 2) (e_op op_addA opd_add (E.ec (e_op op_addA opd_add (E.ec (e_op op_addA opd_add (E.ec (e_op op_addA opd_add (E.ec (e_v 2)) (E.ec e_str))) (E.ec (e_callTy call_str_int cd_strI (by rfl) T.n_str (by decide +kernel) (a_cons (l := false) (E.toB (e_v 5)) a_nil))))) (E.ec e_str))) (E.ec (e_callTy call_str_int cd_strI (by rfl) T.n_str (by decide +kernel) (a_cons (l := false) (E.toB (e_v 6)) a_nil)))) sc__law_written.nd rfl (Or.inl rfl)))) PassesOwn.never rfl)
    (b_cons (s_for (i_seq (e_v 1)) (g_tup (by rfl) (gs_cons (g_name (i := 7) sc__law_written.nd rfl (.inl rfl)) (gs_cons (g_name (i := 8) sc__law_written.nd rfl (.inl rfl)) gs_nil)))
    (b_one (s_set (i := 2) (e_op op_addA opd_add (E.ec (e_op op_addA opd_add (E.ec (e_op op_addA opd_add (E.ec (e_op op_addA opd_add (E.ec (e_v 2)) (E.ec e_str))) (E.ec (e_callTy call_str_int cd_strI (by rfl) T.n_str (by decide +kernel) (a_cons (l := false) (E.toB (e_v 7)) a_nil))))) (E.ec e_str))) (E.ec (e_callTy call_str_int cd_strI (by rfl) T.n_str (by decide +kernel) (a_cons (l := false) (E.toB (e_v 8)) a_nil)))) sc__law_written.nd rfl (Or.inl rfl))) PassesOwn.never rfl)
    (b_one (s_ret (E.toB (e_v 2))))))))
theorem ok__law_is_pair (T : Tx K mg base) : FnOk P Tbs.wd K mg base CX0 1 T.a__law_is_pair T.d__law_is_pair ["_law_found", "_law_ends_here", "_law_joining_here"] (Sf false 3 wp__law_is_pair) :=
  fn_ok (p := P__law_is_pair) (k := 0) T.F__law_is_pair sc__law_is_pair (fun _ _ _ _ _ _ hr => (b_cons (s_if (w_t (w_or (t_not (t_val (E.toB (e_callB call_isi cd_isi (by rfl) T.n_isinstance (by decide +kernel) (a_cons (l := false) (E.toB (e_v 0)) (a_cons (l := false) (E.toB (e_ty (n := "tuple") (by rfl) T.n_tuple (by decide +kernel))) a_nil)))))) (w_or1 (t_cmp (op_neD hr.units) (OpD.eb opd_ne) (E.toB (e_v 0)) (E.toB (e_tup (a_cons (l := true) (e_v 1) (a_cons (l := true) (e_v 2) a_nil)))) (nomark _))))) (b_one (s_ret (E.toB e_bl))) b_nil)
    (b_cons (s_for (i_seq (e_v 0)) (g_name (i := 3) sc__law_is_pair.nd rfl (.inl rfl))
    (b_one (s_for (i_seq (e_v 3)) (g_name (i := 4) sc__law_is_pair.nd rfl (.inl rfl))
    (b_cons (s_if (t_not (t_val (E.toB (e_callB call_isi cd_isi (by rfl) T.n_isinstance (by decide +kernel) (a_cons (l := false) (E.toB (e_v 4)) (a_cons (l := false) (E.toB (e_ty (n := "tuple") (by rfl) T.n_tuple (by decide +kernel))) a_nil)))))) (b_one (s_ret (E.toB e_bl))) b_nil)
    (b_one (s_if (t_cmp (op_neD hr.units) (OpD.eb opd_ne) (E.toB (e_lc (own := [("_law_one", 5)]) (i_seq (e_v 4)) (fun _ _ _ _ _ => (g_name (i := 5) sc__law_is_pair.nd rfl (.inl rfl))) (fun _ _ _ _ _ => (ts_one (t_val (E.toB (e_callB call_isi cd_isi (by rfl) T.n_isinstance (by decide +kernel) (a_cons (l := false) (E.toB (e_v 5)) (a_cons (l := false) (E.toB (e_ty (n := "bool") (by rfl) T.n_bool (by decide +kernel))) a_nil))))))) (fun _ _ _ _ _ => (e_v 5)) rfl sc__law_is_pair.nd (blkOk_by (N := N__law_is_pair) (sc := defScope s__law_is_pair) (by decide +kernel)) (fun _ h => h) rg_name)) (E.toB (e_lst a_nil)) (nomark _)) (b_one (s_ret (E.toB e_bl))) b_nil))) PassesOwn.never rfl)) PassesOwn.never rfl)
    (b_one (s_ret (E.toB e_bl))))))
theorem ok__law_greater (T : Tx K mg base) : FnOk P Tbs.wd K mg base CX0 3 T.a__law_greater T.d__law_greater ["_law_deck_here", "_law_ends_here"] (Sf false 2 wp__law_greater) :=
  fn_ok (p := P__law_greater) (k := 2) T.F__law_greater sc__law_greater (fun _ _ _ _ _ _ hr => (b_cons (s_own (i := 2) (e_lst a_nil) sc__law_greater.nd rfl (Or.inl rfl))
    (b_cons (s_for (i_seq (e_v 1)) (g_name (i := 3) sc__law_greater.nd rfl (.inl rfl))
    (b_cons (s_set (i := 3) (e_tup (a_cons (l := true) (e_call (mo := .e) (ok__law_great T) (hr.mono (by decide)) rfl T.g__law_great T.F__law_great.kp T.b__law_great (a_cons (l := true) (e_v 0) (a_cons (l := true) e_int (a_cons (l := true) e_bl a_nil))) (.inl rfl)) (a_cons (l := true) (e_call (mo := .e) (ok__law_great T) (hr.mono (by decide)) rfl T.g__law_great T.F__law_great.kp T.b__law_great (a_cons (l := true) (e_v 0) (a_cons (l := true) e_int (a_cons (l := true) e_bl a_nil))) (.inl rfl)) a_nil))) sc__law_greater.nd rfl (Or.inl rfl))
    (b_cons (s_set (i := 3) (e_op op_addA opd_add (E.ec (e_v 3)) (E.ec (e_tup (a_cons (l := true) (e_call (mo := .e) (ok__law_great T) (hr.mono (by decide)) rfl T.g__law_great T.F__law_great.kp T.b__law_great (a_cons (l := true) (e_v 0) (a_cons (l := true) e_int (a_cons (l := true) e_bl a_nil))) (.inl rfl)) (a_cons (l := true) (e_call (mo := .e) (ok__law_great T) (hr.mono (by decide)) rfl T.g__law_great T.F__law_great.kp T.b__law_great (a_cons (l := true) (e_v 0) (a_cons (l := true) e_int (a_cons (l := true) e_bl a_nil))) (.inl rfl)) a_nil))))) sc__law_greater.nd rfl (Or.inl rfl))
    (b_one (s_append 2 (e_v 3) (hb := fun _ _ ho he => pe_bm PySem.F.plainAttrs_list PySem.F.slot_list_append PySem.F.type_list_append mt_append ho (pa_cons he pa_nil)))))) PassesOwn.never rfl)
    (b_frz 2 (b_one (s_ret (E.toB (e_tuple (E.ec (e_v 2)) (by rfl) T.n_tuple (by decide +kernel)))))))))
end
end Ew
namespace Ew
open PySem PySem.Spec PyProof.Rows L2 Pu
variable [Tbs]
section
variable {P : Program} {w : World} {K : PySem.W.Frag} {mg : Str → Option Value} {base : Heap}
theorem ok_law (T : Tx K mg base) : FnOk P Tbs.wd K mg base CX0 8 T.a_law T.d_law ["_law_script"] (sp_lawT K Tbs.tb) := by
  refine T.F_law.ok sc_law (fun vs H Q _ h => ?_) (fun _ _ _ _ H vs Q _ hr h => ?_)
  · obtain ⟨a, ns, rfl, _⟩ := h
    rfl
  obtain ⟨a, ns, rfl, hS, hn, hT, k⟩ := h
  refine ⟨_, pss_cons (ps_set (i := 1) sc_law.nd rfl (Or.inl rfl) (pe_call (ok__law_deck T) (hr.mono (by decide)) rfl T.g__law_deck T.F__law_deck.kp T.b__law_deck .nil pass0 (pa_cons (pv 0) pa_nil))) (B.pss (fr := false) (p := P_law) (b_cons (s_for (i_range1 (a_cons (l := false) (E.toB e_int) a_nil) (by rfl) T.n_range) (g_name (i := 2) sc_law.nd rfl (.inl rfl))
    (b_cons (s_set (i := 3) (e_call (mo := .e) (ok__law_ends T) (hr.mono (by decide)) rfl T.g__law_ends T.F__law_ends.kp T.b__law_ends (a_cons (l := true) (e_v 1) a_nil) (.inl rfl)) sc_law.nd rfl (Or.inl rfl))
    (b_cons (s_set (i := 4) (e_call (mo := .e) (ok__law_joining T) (hr.mono (by decide)) rfl T.g__law_joining T.F__law_joining.kp T.b__law_joining (a_cons (l := true) (e_v 1) (a_cons (l := true) (e_callB call_lenA cd_len (by rfl) T.n_len (by decide +kernel) (a_cons (l := false) (E.toB (e_v 3)) a_nil)) a_nil)) (.inl rfl)) sc_law.nd rfl (Or.inl rfl))
    (b_cons (s_set (i := 5) (e_call (mo := .e) (ok__law_written T) (hr.mono (by decide)) rfl T.g__law_written T.F__law_written.kp T.b__law_written (a_cons (l := true) (e_v 3) (a_cons (l := true) (e_v 4) a_nil)) (.inl rfl)) sc_law.nd rfl (Or.inl rfl))
    (b_cons (s_for (i_range1 (a_cons (l := false) (E.toB e_int) a_nil) (by rfl) T.n_range) (g_name (i := 6) sc_law.nd rfl (.inl rfl))
    (b_cons (s_set (i := 7) (e_call (mo := .e) (ok_show_wires T) (hr.mono (by decide)) rfl T.g_show_wires T.F_show_wires.kp T.b_show_wires (a_cons (l := true) (e_v 3) (a_cons (l := true) (e_v 4) a_nil)) (.inl rfl)) sc_law.nd rfl (Or.inl rfl))
    (b_one (s_if (w_t (w_or (t_not (t_val (E.toB (e_callB call_isi cd_isi (by rfl) T.n_isinstance (by decide +kernel) (a_cons (l := false) (E.toB (e_v 7)) (a_cons (l := false) (E.toB (e_ty (n := "str") (by rfl) T.n_str (by decide +kernel))) a_nil)))))) (w_or (t_cmp (op_neD hr.units) (OpD.eb opd_ne) (E.toB (e_v 7)) (E.toB (e_v 5)) (nomark _)) (w_or1 (t_not (t_val (E.toB (e_call (mo := .e) (ok__law_is_pair T) (hr.mono (by decide)) rfl T.g__law_is_pair T.F__law_is_pair.kp T.b__law_is_pair (a_cons (l := true) (e_call (mo := .e) (ok_read_wires T) (hr.mono (by decide)) rfl T.g_read_wires T.F_read_wires.kp T.b_read_wires (a_cons (l := true) (e_v 5) a_nil) (.inl rfl)) (a_cons (l := true) (e_v 3) (a_cons (l := true) (e_v 4) a_nil))) (.inl rfl))))))))) (b_one (s_ret (E.toB e_bl))) b_nil))) PassesOwn.never rfl)
    (b_cons (s_set (i := 8) (e_call (mo := .e) (ok__law_greater T) (hr.mono (by decide)) rfl T.g__law_greater T.F__law_greater.kp T.b__law_greater (a_cons (l := true) (e_v 1) (a_cons (l := true) (e_v 3) a_nil)) (.inl rfl)) sc_law.nd rfl (Or.inl rfl))
    (b_cons (s_if (t_not (t_val (E.toB (e_call (mo := .e) (ok__law_is_pair T) (hr.mono (by decide)) rfl T.g__law_is_pair T.F__law_is_pair.kp T.b__law_is_pair (a_cons (l := true) (e_call (mo := .e) (ok_read_wires T) (hr.mono (by decide)) rfl T.g_read_wires T.F_read_wires.kp T.b_read_wires (a_cons (l := true) (e_call (mo := .e) (ok__law_written T) (hr.mono (by decide)) rfl T.g__law_written T.F__law_written.kp T.b__law_written (a_cons (l := true) (e_v 8) (a_cons (l := true) (e_v 4) a_nil)) (.inl rfl)) a_nil) (.inl rfl)) (a_cons (l := true) (e_v 8) (a_cons (l := true) (e_v 4) a_nil))) (.inl rfl))))) (b_one (s_ret (E.toB e_bl))) b_nil)
    (b_one (s_if (t_not (t_val (E.toB (e_call (mo := .e) (ok__law_is_pair T) (hr.mono (by decide)) rfl T.g__law_is_pair T.F__law_is_pair.kp T.b__law_is_pair (a_cons (l := true) (e_call (mo := .e) (ok_read_wires T) (hr.mono (by decide)) rfl T.g_read_wires T.F_read_wires.kp T.b_read_wires (a_cons (l := true) (e_call (mo := .e) (ok_show_wires T) (hr.mono (by decide)) rfl T.g_show_wires T.F_show_wires.kp T.b_show_wires (a_cons (l := true) (e_v 3) (a_cons (l := true) (e_v 4) a_nil)) (.inl rfl)) a_nil) (.inl rfl)) (a_cons (l := true) (e_v 3) (a_cons (l := true) (e_v 4) a_nil))) (.inl rfl))))) (b_one (s_ret (E.toB e_bl))) b_nil)))))))) PassesOwn.never rfl)
    (b_one (s_ret (E.toB e_bl))))), ?_⟩
  refine ⟨_, rfl, sp__law_deck.mk hS hn hT (fun H1 dk c hD1 hT1 _ _ => ?_)⟩
  exact rest_ok (nt := 1) (N := N_law) (by decide) rs_tPS (by decide) (deck_dkF hD1) hT1 k law_pure
end
omit [Tbs] in
set_option maxHeartbeats 0 in
theorem all_mk {l : PySem.W.OpenLaw} {w : World} {K : PySem.W.Frag} {h : Heap} {mg : Str → Option Value} {fa : Addr} (X : K.In h) (G : h.Ns mainGlobals mg) (hfa : mg "law" = some (.ref fa))
    {f0 f1 f2 f3 f4 f5 f6 f7 f8 f9 f10 f11 f12 f13 f14 f15 f16 f17 f18 f19 f20 f21 f22 : Addr}
    {od0 an0 od1 an1 od2 an2 od3 an3 od4 an4 od5 an5 od6 an6 od7 an7 od8 an8 od9 an9 od10 an10 od11 an11 od12 an12 od13 an13 od14 an14 od15 an15 od16 an16 od17 an17 od18 an18 od19 an19 od20 an20 od21 an21 od22 an22 : Option Addr} {sl0 sl1 sl2 sl3 sl4 sl5 sl6 sl7 sl8 sl9 sl10 sl11 sl12 sl13 sl14 sl15 sl16 sl17 sl18 sl19 sl20 sl21 sl22 : Array (Option Value)} {oc0 kV0 dc0 pm0 ct0 cd0 oc1 kV1 dc1 pm1 ct1 oc2 kV2 dc2 pm2 ct2 oc3 kV3 dc3 pm3 ct3 cd3 oc4 kV4 dc4 pm4 ct4 cd4 oc5 kV5 dc5 pm5 ct5 cd5 oc6 kV6 dc6 pm6 ct6 cd6 oc7 kV7 dc7 pm7 ct7 cd7 oc8 kV8 dc8 pm8 ct8 cd8 oc9 kV9 dc9 pm9 ct9 cd9 oc10 kV10 dc10 pm10 ct10 oc11 kV11 dc11 pm11 ct11 oc12 kV12 dc12 pm12 ct12 cd12 oc13 kV13 dc13 pm13 ct13 cd13 oc14 kV14 dc14 pm14 ct14 cd14 oc15 kV15 dc15 pm15 ct15 cd15 oc16 kV16 dc16 pm16 ct16 cd16 oc17 kV17 dc17 pm17 ct17 cd17 oc18 kV18 dc18 pm18 ct18 cd18 oc19 kV19 dc19 pm19 ct19 cd19 oc20 kV20 dc20 pm20 ct20 cd20 oc21 kV21 dc21 pm21 ct21 cd21 oc22 kV22 dc22 pm22 ct22 cd22 : Value}
    {q1 p1 : Addr} {ec1 : Value} {ed1 : Option Addr} {ev1 : Array Value} {es1 : Array (Option Value)}
    {q2 p2 : Addr} {ec2 : Value} {ed2 : Option Addr} {ev2 : Array Value} {es2 : Array (Option Value)}
    {q10 p10 : Addr} {ec10 : Value} {ed10 : Option Addr} {ev10 : Array Value} {es10 : Array (Option Value)}
    {q11 p11 : Addr} {ec11 : Value} {ed11 : Option Addr} {ev11 : Array Value} {es11 : Array (Option Value)}
    (a0 : PySem.W.nsIn K mainGlobals "is_whole" = some (some (.ref f0))) (l0 : K.lookup f0 = some ⟨oc0, od0, .func (PySem.W.fnOf "is_whole" "is_whole" (defArgs s_is_whole) (defBody s_is_whole) (defScope s_is_whole) .none kV0 dc0 pm0 an0 cd0 ct0), sl0⟩) (c0 : PySem.W.codeIn K cd0 "is_whole" = true) (k0 : PySem.W.keepIn K (.ref f0) = true)
    (a1 : PySem.W.nsIn K mainGlobals "are_wholes" = some (some (.ref f1))) (l1 : K.lookup f1 = some ⟨oc1, od1, .func (PySem.W.fnOf "are_wholes" "are_wholes" (defArgs s_are_wholes) (defBody s_are_wholes) (defScope s_are_wholes) .none kV1 dc1 pm1 an1 (.ref q1) ct1), sl1⟩) (c1 : PySem.W.codeIn K (.ref q1) "are_wholes" = true) (k1 : PySem.W.keepIn K (.ref f1) = true)
    (u1 : K.lookup q1 = some ⟨ec1, ed1, .fields ev1, es1⟩) (w1 : ev1[11]? = some (.ref p1)) (v1 : K.lookup p1 = none)
    (a2 : PySem.W.nsIn K mainGlobals "is_ends" = some (some (.ref f2))) (l2 : K.lookup f2 = some ⟨oc2, od2, .func (PySem.W.fnOf "is_ends" "is_ends" (defArgs s_is_ends) (defBody s_is_ends) (defScope s_is_ends) .none kV2 dc2 pm2 an2 (.ref q2) ct2), sl2⟩) (c2 : PySem.W.codeIn K (.ref q2) "is_ends" = true) (k2 : PySem.W.keepIn K (.ref f2) = true)
    (u2 : K.lookup q2 = some ⟨ec2, ed2, .fields ev2, es2⟩) (w2 : ev2[11]? = some (.ref p2)) (v2 : K.lookup p2 = none)
    (a3 : PySem.W.nsIn K mainGlobals "is_end" = some (some (.ref f3))) (l3 : K.lookup f3 = some ⟨oc3, od3, .func (PySem.W.fnOf "is_end" "is_end" (defArgs s_is_end) (defBody s_is_end) (defScope s_is_end) .none kV3 dc3 pm3 an3 cd3 ct3), sl3⟩) (c3 : PySem.W.codeIn K cd3 "is_end" = true) (k3 : PySem.W.keepIn K (.ref f3) = true)
    (a4 : PySem.W.nsIn K mainGlobals "is_joining" = some (some (.ref f4))) (l4 : K.lookup f4 = some ⟨oc4, od4, .func (PySem.W.fnOf "is_joining" "is_joining" (defArgs s_is_joining) (defBody s_is_joining) (defScope s_is_joining) .none kV4 dc4 pm4 an4 cd4 ct4), sl4⟩) (c4 : PySem.W.codeIn K cd4 "is_joining" = true) (k4 : PySem.W.keepIn K (.ref f4) = true)
    (a5 : PySem.W.nsIn K mainGlobals "joins_below" = some (some (.ref f5))) (l5 : K.lookup f5 = some ⟨oc5, od5, .func (PySem.W.fnOf "joins_below" "joins_below" (defArgs s_joins_below) (defBody s_joins_below) (defScope s_joins_below) .none kV5 dc5 pm5 an5 cd5 ct5), sl5⟩) (c5 : PySem.W.codeIn K cd5 "joins_below" = true) (k5 : PySem.W.keepIn K (.ref f5) = true)
    (a6 : PySem.W.nsIn K mainGlobals "show_wires" = some (some (.ref f6))) (l6 : K.lookup f6 = some ⟨oc6, od6, .func (PySem.W.fnOf "show_wires" "show_wires" (defArgs s_show_wires) (defBody s_show_wires) (defScope s_show_wires) .none kV6 dc6 pm6 an6 cd6 ct6), sl6⟩) (c6 : PySem.W.codeIn K cd6 "show_wires" = true) (k6 : PySem.W.keepIn K (.ref f6) = true)
    (a7 : PySem.W.nsIn K mainGlobals "read_wires" = some (some (.ref f7))) (l7 : K.lookup f7 = some ⟨oc7, od7, .func (PySem.W.fnOf "read_wires" "read_wires" (defArgs s_read_wires) (defBody s_read_wires) (defScope s_read_wires) .none kV7 dc7 pm7 an7 cd7 ct7), sl7⟩) (c7 : PySem.W.codeIn K cd7 "read_wires" = true) (k7 : PySem.W.keepIn K (.ref f7) = true)
    (a8 : PySem.W.nsIn K mainGlobals "lines_of" = some (some (.ref f8))) (l8 : K.lookup f8 = some ⟨oc8, od8, .func (PySem.W.fnOf "lines_of" "lines_of" (defArgs s_lines_of) (defBody s_lines_of) (defScope s_lines_of) .none kV8 dc8 pm8 an8 cd8 ct8), sl8⟩) (c8 : PySem.W.codeIn K cd8 "lines_of" = true) (k8 : PySem.W.keepIn K (.ref f8) = true)
    (a9 : PySem.W.nsIn K mainGlobals "numbers_behind" = some (some (.ref f9))) (l9 : K.lookup f9 = some ⟨oc9, od9, .func (PySem.W.fnOf "numbers_behind" "numbers_behind" (defArgs s_numbers_behind) (defBody s_numbers_behind) (defScope s_numbers_behind) .none kV9 dc9 pm9 an9 cd9 ct9), sl9⟩) (c9 : PySem.W.codeIn K cd9 "numbers_behind" = true) (k9 : PySem.W.keepIn K (.ref f9) = true)
    (a10 : PySem.W.nsIn K mainGlobals "numbers_of" = some (some (.ref f10))) (l10 : K.lookup f10 = some ⟨oc10, od10, .func (PySem.W.fnOf "numbers_of" "numbers_of" (defArgs s_numbers_of) (defBody s_numbers_of) (defScope s_numbers_of) .none kV10 dc10 pm10 an10 (.ref q10) ct10), sl10⟩) (c10 : PySem.W.codeIn K (.ref q10) "numbers_of" = true) (k10 : PySem.W.keepIn K (.ref f10) = true)
    (u10 : K.lookup q10 = some ⟨ec10, ed10, .fields ev10, es10⟩) (w10 : ev10[11]? = some (.ref p10)) (v10 : K.lookup p10 = none)
    (a11 : PySem.W.nsIn K mainGlobals "is_number" = some (some (.ref f11))) (l11 : K.lookup f11 = some ⟨oc11, od11, .func (PySem.W.fnOf "is_number" "is_number" (defArgs s_is_number) (defBody s_is_number) (defScope s_is_number) .none kV11 dc11 pm11 an11 (.ref q11) ct11), sl11⟩) (c11 : PySem.W.codeIn K (.ref q11) "is_number" = true) (k11 : PySem.W.keepIn K (.ref f11) = true)
    (u11 : K.lookup q11 = some ⟨ec11, ed11, .fields ev11, es11⟩) (w11 : ev11[11]? = some (.ref p11)) (v11 : K.lookup p11 = none)
    (a12 : PySem.W.nsIn K mainGlobals "_law_deck" = some (some (.ref f12))) (l12 : K.lookup f12 = some ⟨oc12, od12, .func (PySem.W.fnOf "_law_deck" "_law_deck" (defArgs s__law_deck) (defBody s__law_deck) (defScope s__law_deck) .none kV12 dc12 pm12 an12 cd12 ct12), sl12⟩) (c12 : PySem.W.codeIn K cd12 "_law_deck" = true) (k12 : PySem.W.keepIn K (.ref f12) = true)
    (a13 : PySem.W.nsIn K mainGlobals "_law_draw" = some (some (.ref f13))) (l13 : K.lookup f13 = some ⟨oc13, od13, .func (PySem.W.fnOf "_law_draw" "_law_draw" (defArgs s__law_draw) (defBody s__law_draw) (defScope s__law_draw) .none kV13 dc13 pm13 an13 cd13 ct13), sl13⟩) (c13 : PySem.W.codeIn K cd13 "_law_draw" = true) (k13 : PySem.W.keepIn K (.ref f13) = true)
    (a14 : PySem.W.nsIn K mainGlobals "_law_number" = some (some (.ref f14))) (l14 : K.lookup f14 = some ⟨oc14, od14, .func (PySem.W.fnOf "_law_number" "_law_number" (defArgs s__law_number) (defBody s__law_number) (defScope s__law_number) .none kV14 dc14 pm14 an14 cd14 ct14), sl14⟩) (c14 : PySem.W.codeIn K cd14 "_law_number" = true) (k14 : PySem.W.keepIn K (.ref f14) = true)
    (a15 : PySem.W.nsIn K mainGlobals "_law_end" = some (some (.ref f15))) (l15 : K.lookup f15 = some ⟨oc15, od15, .func (PySem.W.fnOf "_law_end" "_law_end" (defArgs s__law_end) (defBody s__law_end) (defScope s__law_end) .none kV15 dc15 pm15 an15 cd15 ct15), sl15⟩) (c15 : PySem.W.codeIn K cd15 "_law_end" = true) (k15 : PySem.W.keepIn K (.ref f15) = true)
    (a16 : PySem.W.nsIn K mainGlobals "_law_ends" = some (some (.ref f16))) (l16 : K.lookup f16 = some ⟨oc16, od16, .func (PySem.W.fnOf "_law_ends" "_law_ends" (defArgs s__law_ends) (defBody s__law_ends) (defScope s__law_ends) .none kV16 dc16 pm16 an16 cd16 ct16), sl16⟩) (c16 : PySem.W.codeIn K cd16 "_law_ends" = true) (k16 : PySem.W.keepIn K (.ref f16) = true)
    (a17 : PySem.W.nsIn K mainGlobals "_law_joining" = some (some (.ref f17))) (l17 : K.lookup f17 = some ⟨oc17, od17, .func (PySem.W.fnOf "_law_joining" "_law_joining" (defArgs s__law_joining) (defBody s__law_joining) (defScope s__law_joining) .none kV17 dc17 pm17 an17 cd17 ct17), sl17⟩) (c17 : PySem.W.codeIn K cd17 "_law_joining" = true) (k17 : PySem.W.keepIn K (.ref f17) = true)
    (a18 : PySem.W.nsIn K mainGlobals "_law_great" = some (some (.ref f18))) (l18 : K.lookup f18 = some ⟨oc18, od18, .func (PySem.W.fnOf "_law_great" "_law_great" (defArgs s__law_great) (defBody s__law_great) (defScope s__law_great) .none kV18 dc18 pm18 an18 cd18 ct18), sl18⟩) (c18 : PySem.W.codeIn K cd18 "_law_great" = true) (k18 : PySem.W.keepIn K (.ref f18) = true)
    (a19 : PySem.W.nsIn K mainGlobals "_law_written" = some (some (.ref f19))) (l19 : K.lookup f19 = some ⟨oc19, od19, .func (PySem.W.fnOf "_law_written" "_law_written" (defArgs s__law_written) (defBody s__law_written) (defScope s__law_written) .none kV19 dc19 pm19 an19 cd19 ct19), sl19⟩) (c19 : PySem.W.codeIn K cd19 "_law_written" = true) (k19 : PySem.W.keepIn K (.ref f19) = true)
    (a20 : PySem.W.nsIn K mainGlobals "_law_is_pair" = some (some (.ref f20))) (l20 : K.lookup f20 = some ⟨oc20, od20, .func (PySem.W.fnOf "_law_is_pair" "_law_is_pair" (defArgs s__law_is_pair) (defBody s__law_is_pair) (defScope s__law_is_pair) .none kV20 dc20 pm20 an20 cd20 ct20), sl20⟩) (c20 : PySem.W.codeIn K cd20 "_law_is_pair" = true) (k20 : PySem.W.keepIn K (.ref f20) = true)
    (a21 : PySem.W.nsIn K mainGlobals "_law_greater" = some (some (.ref f21))) (l21 : K.lookup f21 = some ⟨oc21, od21, .func (PySem.W.fnOf "_law_greater" "_law_greater" (defArgs s__law_greater) (defBody s__law_greater) (defScope s__law_greater) .none kV21 dc21 pm21 an21 cd21 ct21), sl21⟩) (c21 : PySem.W.codeIn K cd21 "_law_greater" = true) (k21 : PySem.W.keepIn K (.ref f21) = true)
    (a22 : PySem.W.nsIn K mainGlobals "law" = some (some (.ref f22))) (l22 : K.lookup f22 = some ⟨oc22, od22, .func (PySem.W.fnOf "law" "law" (defArgs s_law) (defBody s_law) (defScope s_law) .none kV22 dc22 pm22 an22 cd22 ct22), sl22⟩) (c22 : PySem.W.codeIn K cd22 "law" = true) (k22 : PySem.W.keepIn K (.ref f22) = true)
    {tk_FIGURES : Tok} (y_FIGURES : PySem.W.nsIn K mainGlobals "FIGURES" = some (some (.str (Str.ofString "0123456789") tk_FIGURES)))
    {tk_MOST_FIGURES : Tok} (y_MOST_FIGURES : PySem.W.nsIn K mainGlobals "MOST_FIGURES" = some (some (.int 30 tk_MOST_FIGURES)))
    {tk_MOST_ENDS : Tok} (y_MOST_ENDS : PySem.W.nsIn K mainGlobals "MOST_ENDS" = some (some (.int 24 tk_MOST_ENDS)))
    (z_sum : PySem.W.nsIn K mainGlobals "sum" = some none)
    (z_list : PySem.W.nsIn K mainGlobals "list" = some none)
    (z_bool : PySem.W.nsIn K mainGlobals "bool" = some none)
    (z_isinstance : PySem.W.nsIn K mainGlobals "isinstance" = some none)
    (z_int : PySem.W.nsIn K mainGlobals "int" = some none)
    (z_len : PySem.W.nsIn K mainGlobals "len" = some none)
    (z_tuple : PySem.W.nsIn K mainGlobals "tuple" = some none)
    (z_all : PySem.W.nsIn K mainGlobals "all" = some none)
    (z_set : PySem.W.nsIn K mainGlobals "set" = some none)
    (z_enumerate : PySem.W.nsIn K mainGlobals "enumerate" = some none)
    (z_str : PySem.W.nsIn K mainGlobals "str" = some none)
    (z_range : PySem.W.nsIn K mainGlobals "range" = some none)
    : ∃ (fd : FuncData) (cs : List (Addr × Addr)), (∀ p ∈ cs, ∃ x ∈ [("are_wholes" : Str), ("is_ends" : Str), ("numbers_of" : Str), ("is_number" : Str)], PySem.W.tabIn K x = some p) ∧ (∀ p ∈ cs, K.lookup p.2 = none) ∧ (∀ (s : Shared) (v : Value), BindsTo s fd ⟨[v], []⟩ [("_law_script", v)]) ∧ ∀ base : Heap, K.In base → base.Ns mainGlobals mg → (∀ p ∈ cs, GxR.TabB base mg p.1 p.2) → FnOk l.prog w K mg base CX0 8 fa fd ["_law_script"] (Pu.sp_lawT K (cs.map (·.2))) := by
  letI : Tbs := ⟨[p1, p2, p10, p11], w⟩
  have e := hfa.symm.trans (PySem.W.mg_of X G a22)
  cases e
  have F0 := fun_mk (st := s_is_whole) l0 c0 k0
  have F1 := fun_mk (st := s_are_wholes) l1 c1 k1
  have F2 := fun_mk (st := s_is_ends) l2 c2 k2
  have F3 := fun_mk (st := s_is_end) l3 c3 k3
  have F4 := fun_mk (st := s_is_joining) l4 c4 k4
  have F5 := fun_mk (st := s_joins_below) l5 c5 k5
  have F6 := fun_mk (st := s_show_wires) l6 c6 k6
  have F7 := fun_mk (st := s_read_wires) l7 c7 k7
  have F8 := fun_mk (st := s_lines_of) l8 c8 k8
  have F9 := fun_mk (st := s_numbers_behind) l9 c9 k9
  have F10 := fun_mk (st := s_numbers_of) l10 c10 k10
  have F11 := fun_mk (st := s_is_number) l11 c11 k11
  have F12 := fun_mk (st := s__law_deck) l12 c12 k12
  have F13 := fun_mk (st := s__law_draw) l13 c13 k13
  have F14 := fun_mk (st := s__law_number) l14 c14 k14
  have F15 := fun_mk (st := s__law_end) l15 c15 k15
  have F16 := fun_mk (st := s__law_ends) l16 c16 k16
  have F17 := fun_mk (st := s__law_joining) l17 c17 k17
  have F18 := fun_mk (st := s__law_great) l18 c18 k18
  have F19 := fun_mk (st := s__law_written) l19 c19 k19
  have F20 := fun_mk (st := s__law_is_pair) l20 c20 k20
  have F21 := fun_mk (st := s__law_greater) l21 c21 k21
  have F22 := fun_mk (st := s_law) l22 c22 k22
  have b0 := F0.binds (ps := ["thing"]) fun _ _ _ _ _ _ us hl => match us, hl with | [_], _ => rfl
  have b1 := F1.binds (ps := ["thing", "many"]) fun _ _ _ _ _ _ us hl => match us, hl with | [_, _], _ => rfl
  have b2 := F2.binds (ps := ["thing"]) fun _ _ _ _ _ _ us hl => match us, hl with | [_], _ => rfl
  have b3 := F3.binds (ps := ["thing"]) fun _ _ _ _ _ _ us hl => match us, hl with | [_], _ => rfl
  have b4 := F4.binds (ps := ["many", "thing"]) fun _ _ _ _ _ _ us hl => match us, hl with | [_, _], _ => rfl
  have b5 := F5.binds (ps := ["joint", "thing"]) fun _ _ _ _ _ _ us hl => match us, hl with | [_, _], _ => rfl
  have b6 := F6.binds (ps := ["ends", "joining"]) fun _ _ _ _ _ _ us hl => match us, hl with | [_, _], _ => rfl
  have b7 := F7.binds (ps := ["thing"]) fun _ _ _ _ _ _ us hl => match us, hl with | [_], _ => rfl
  have b8 := F8.binds (ps := ["thing"]) fun _ _ _ _ _ _ us hl => match us, hl with | [_], _ => rfl
  have b9 := F9.binds (ps := ["head", "line", "many"]) fun _ _ _ _ _ _ us hl => match us, hl with | [_, _, _], _ => rfl
  have b10 := F10.binds (ps := ["line", "many"]) fun _ _ _ _ _ _ us hl => match us, hl with | [_, _], _ => rfl
  have b11 := F11.binds (ps := ["word"]) fun _ _ _ _ _ _ us hl => match us, hl with | [_], _ => rfl
  have b12 := F12.binds (ps := ["_law_script"]) fun _ _ _ _ _ _ us hl => match us, hl with | [_], _ => rfl
  have b13 := F13.binds (ps := ["_law_deck_here", "_law_most"]) fun _ _ _ _ _ _ us hl => match us, hl with | [_, _], _ => rfl
  have b14 := F14.binds (ps := ["_law_deck_here", "_law_way"]) fun _ _ _ _ _ _ us hl => match us, hl with | [_, _], _ => rfl
  have b15 := F15.binds (ps := ["_law_deck_here", "_law_way", "_law_bare"]) fun _ _ _ _ _ _ us hl => match us, hl with | [_, _, _], _ => rfl
  have b16 := F16.binds (ps := ["_law_deck_here"]) fun _ _ _ _ _ _ us hl => match us, hl with | [_], _ => rfl
  have b17 := F17.binds (ps := ["_law_deck_here", "_law_many"]) fun _ _ _ _ _ _ us hl => match us, hl with | [_, _], _ => rfl
  have b18 := F18.binds (ps := ["_law_deck_here", "_law_most", "_law_below"]) fun _ _ _ _ _ _ us hl => match us, hl with | [_, _, _], _ => rfl
  have b19 := F19.binds (ps := ["_law_ends_here", "_law_joining_here"]) fun _ _ _ _ _ _ us hl => match us, hl with | [_, _], _ => rfl
  have b20 := F20.binds (ps := ["_law_found", "_law_ends_here", "_law_joining_here"]) fun _ _ _ _ _ _ us hl => match us, hl with | [_, _, _], _ => rfl
  have b21 := F21.binds (ps := ["_law_deck_here", "_law_ends_here"]) fun _ _ _ _ _ _ us hl => match us, hl with | [_, _], _ => rfl
  have b22 := F22.binds (ps := ["_law_script"]) fun _ _ _ _ _ _ us hl => match us, hl with | [_], _ => rfl
  refine ⟨PySem.W.fnOf "law" "law" (defArgs s_law) (defBody s_law) (defScope s_law) .none kV22 dc22 pm22 an22 cd22 ct22, [(q1, p1), (q2, p2), (q10, p10), (q11, p11)], fun p hp => ?_, fun p hp => ?_, fun s v => .of_eq rfl, fun base _ _ TB => ?_⟩
  · simp only [List.mem_cons, List.not_mem_nil, or_false] at hp
    rcases hp with rfl | rfl | rfl | rfl
    · exact ⟨"are_wholes", by simp, Pu.tabIn_mk a1 l1 rfl u1 w1⟩
    · exact ⟨"is_ends", by simp, Pu.tabIn_mk a2 l2 rfl u2 w2⟩
    · exact ⟨"numbers_of", by simp, Pu.tabIn_mk a10 l10 rfl u10 w10⟩
    · exact ⟨"is_number", by simp, Pu.tabIn_mk a11 l11 rfl u11 w11⟩
  · simp only [List.mem_cons, List.not_mem_nil, or_false] at hp
    rcases hp with rfl | rfl | rfl | rfl
    · exact v1
    · exact v2
    · exact v10
    · exact v11
  let T : Tx K mg base := ⟨_, _, F0, b0, PySem.W.mg_of X G a0, _, _, F1, b1, PySem.W.mg_of X G a1, q1, p1, rfl, TB (q1, p1) (by simp), show p1 ∈ [p1, p2, p10, p11] by simp, _, _, F2, b2, PySem.W.mg_of X G a2, q2, p2, rfl, TB (q2, p2) (by simp), show p2 ∈ [p1, p2, p10, p11] by simp, _, _, F3, b3, PySem.W.mg_of X G a3, _, _, F4, b4, PySem.W.mg_of X G a4, _, _, F5, b5, PySem.W.mg_of X G a5, _, _, F6, b6, PySem.W.mg_of X G a6, _, _, F7, b7, PySem.W.mg_of X G a7, _, _, F8, b8, PySem.W.mg_of X G a8, _, _, F9, b9, PySem.W.mg_of X G a9, _, _, F10, b10, PySem.W.mg_of X G a10, q10, p10, rfl, TB (q10, p10) (by simp), show p10 ∈ [p1, p2, p10, p11] by simp, _, _, F11, b11, PySem.W.mg_of X G a11, q11, p11, rfl, TB (q11, p11) (by simp), show p11 ∈ [p1, p2, p10, p11] by simp, _, _, F12, b12, PySem.W.mg_of X G a12, _, _, F13, b13, PySem.W.mg_of X G a13, _, _, F14, b14, PySem.W.mg_of X G a14, _, _, F15, b15, PySem.W.mg_of X G a15, _, _, F16, b16, PySem.W.mg_of X G a16, _, _, F17, b17, PySem.W.mg_of X G a17, _, _, F18, b18, PySem.W.mg_of X G a18, _, _, F19, b19, PySem.W.mg_of X G a19, _, _, F20, b20, PySem.W.mg_of X G a20, _, _, F21, b21, PySem.W.mg_of X G a21, _, _, F22, b22, PySem.W.mg_of X G a22, _, PySem.W.mg_of X G y_FIGURES, _, PySem.W.mg_of X G y_MOST_FIGURES, _, PySem.W.mg_of X G y_MOST_ENDS, PySem.W.mg_none_of X G z_sum, PySem.W.mg_none_of X G z_list, PySem.W.mg_none_of X G z_bool, PySem.W.mg_none_of X G z_isinstance, PySem.W.mg_none_of X G z_int, PySem.W.mg_none_of X G z_len, PySem.W.mg_none_of X G z_tuple, PySem.W.mg_none_of X G z_all, PySem.W.mg_none_of X G z_set, PySem.W.mg_none_of X G z_enumerate, PySem.W.mg_none_of X G z_str, PySem.W.mg_none_of X G z_range⟩
  exact ok_law T
end Ew
open PySem PySem.W PyProof.Rows
set_option maxRecDepth 100000 in
set_option maxHeartbeats 0 in
theorem PySem.Challenge.cw_evenwires_k06_wires_written_holds : PySem.Challenge.rw_evenwires_k06_wires_written.Holds := by
  w_on; o_law; k_head; (case hw => w_witness2)
  k_fill
  refine Pu.walkT (l := PySem.Challenge.rw_evenwires_k06_wires_written) (k := 8) rfl rfl ⟨rfl, by decide, by decide⟩ (fun w h Y => PySem.W.kIn_of Y) ["are_wholes", "is_ends", "numbers_of", "is_number"] (by first | rfl | decide +kernel) ?F
  case F =>
    intro w mg fa h KX G hmg
    refine' Ew.all_mk KX G hmg ?a0 ?l0 ?c0 ?k0 ?a1 ?l1 ?c1 ?k1 ?u1 ?w1 ?v1 ?a2 ?l2 ?c2 ?k2 ?u2 ?w2 ?v2 ?a3 ?l3 ?c3 ?k3 ?a4 ?l4 ?c4 ?k4 ?a5 ?l5 ?c5 ?k5 ?a6 ?l6 ?c6 ?k6 ?a7 ?l7 ?c7 ?k7 ?a8 ?l8 ?c8 ?k8 ?a9 ?l9 ?c9 ?k9 ?a10 ?l10 ?c10 ?k10 ?u10 ?w10 ?v10 ?a11 ?l11 ?c11 ?k11 ?u11 ?w11 ?v11 ?a12 ?l12 ?c12 ?k12 ?a13 ?l13 ?c13 ?k13 ?a14 ?l14 ?c14 ?k14 ?a15 ?l15 ?c15 ?k15 ?a16 ?l16 ?c16 ?k16 ?a17 ?l17 ?c17 ?k17 ?a18 ?l18 ?c18 ?k18 ?a19 ?l19 ?c19 ?k19 ?a20 ?l20 ?c20 ?k20 ?a21 ?l21 ?c21 ?k21 ?a22 ?l22 ?c22 ?k22 ?y_FIGURES ?y_MOST_FIGURES ?y_MOST_ENDS ?z_sum ?z_list ?z_bool ?z_isinstance ?z_int ?z_len ?z_tuple ?z_all ?z_set ?z_enumerate ?z_str ?z_range
    (case a0 => k_is)
    (case l0 => k_is)
    (case c0 => k_is)
    (case k0 => k_is)
    (case a1 => k_is)
    (case l1 => k_is)
    (case c1 => k_is)
    (case k1 => k_is)
    (case u1 => k_is)
    (case w1 => exact rfl)
    (case v1 => exact rfl)
    (case a2 => k_is)
    (case l2 => k_is)
    (case c2 => k_is)
    (case k2 => k_is)
    (case u2 => k_is)
    (case w2 => exact rfl)
    (case v2 => exact rfl)
    (case a3 => k_is)
    (case l3 => k_is)
    (case c3 => k_is)
    (case k3 => k_is)
    (case a4 => k_is)
    (case l4 => k_is)
    (case c4 => k_is)
    (case k4 => k_is)
    (case a5 => k_is)
    (case l5 => k_is)
    (case c5 => k_is)
    (case k5 => k_is)
    (case a6 => k_is)
    (case l6 => k_is)
    (case c6 => k_is)
    (case k6 => k_is)
    (case a7 => k_is)
    (case l7 => k_is)
    (case c7 => k_is)
    (case k7 => k_is)
    (case a8 => k_is)
    (case l8 => k_is)
    (case c8 => k_is)
    (case k8 => k_is)
    (case a9 => k_is)
    (case l9 => k_is)
    (case c9 => k_is)
    (case k9 => k_is)
    (case a10 => k_is)
    (case l10 => k_is)
    (case c10 => k_is)
    (case k10 => k_is)
    (case u10 => k_is)
    (case w10 => exact rfl)
    (case v10 => exact rfl)
    (case a11 => k_is)
    (case l11 => k_is)
    (case c11 => k_is)
    (case k11 => k_is)
    (case u11 => k_is)
    (case w11 => exact rfl)
    (case v11 => exact rfl)
    (case a12 => k_is)
    (case l12 => k_is)
    (case c12 => k_is)
    (case k12 => k_is)
    (case a13 => k_is)
    (case l13 => k_is)
    (case c13 => k_is)
    (case k13 => k_is)
    (case a14 => k_is)
    (case l14 => k_is)
    (case c14 => k_is)
    (case k14 => k_is)
    (case a15 => k_is)
    (case l15 => k_is)
    (case c15 => k_is)
    (case k15 => k_is)
    (case a16 => k_is)
    (case l16 => k_is)
    (case c16 => k_is)
    (case k16 => k_is)
    (case a17 => k_is)
    (case l17 => k_is)
    (case c17 => k_is)
    (case k17 => k_is)
    (case a18 => k_is)
    (case l18 => k_is)
    (case c18 => k_is)
    (case k18 => k_is)
    (case a19 => k_is)
    (case l19 => k_is)
    (case c19 => k_is)
    (case k19 => k_is)
    (case a20 => k_is)
    (case l20 => k_is)
    (case c20 => k_is)
    (case k20 => k_is)
    (case a21 => k_is)
    (case l21 => k_is)
    (case c21 => k_is)
    (case k21 => k_is)
    (case a22 => k_is)
    (case l22 => k_is)
    (case c22 => k_is)
    (case k22 => k_is)
    (case y_FIGURES => k_is)
    (case y_MOST_FIGURES => k_is)
    (case y_MOST_ENDS => k_is)
    (case z_sum => k_is)
    (case z_list => k_is)
    (case z_bool => k_is)
    (case z_isinstance => k_is)
    (case z_int => k_is)
    (case z_len => k_is)
    (case z_tuple => k_is)
    (case z_all => k_is)
    (case z_set => k_is)
    (case z_enumerate => k_is)
    (case z_str => k_is)
    (case z_range => k_is)

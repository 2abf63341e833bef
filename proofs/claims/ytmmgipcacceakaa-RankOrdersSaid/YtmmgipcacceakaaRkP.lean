/-
  Ritt's ranks: plain facts.
-/
import Derived.Test.YtmmgipcacceakaaGV
set_option maxHeartbeats 40000000
set_option maxRecDepth 100000
namespace Go.Proofs.Ytmmgipcacceakaa
open Go.RowKit
def rkP (p : List Term) : Int × Int := (clsP p, degP p (clsP p))
def cmpI (a b : Int) : Int := if a < b then -1 else if b < a then 1 else 0
def cmpRk (a b : Int × Int) : Int := if cmpI a.1 b.1 = 0 then cmpI a.2 b.2 else cmpI a.1 b.1
def ltRk (a b : Int × Int) : Bool := decide (a.1 < b.1 ∨ a.1 = b.1 ∧ a.2 < b.2)
def redP (p q : List Term) : Bool := if clsP q = 0 then decide (p.length = 0) else decide (degP p (clsP q) < degP q (clsP q))
theorem cmpI_is (a b : Int) : (a < b ∧ cmpI a b = -1) ∨ (b < a ∧ cmpI a b = 1) ∨ (a = b ∧ cmpI a b = 0) := by
 unfold cmpI
 rcases Int.lt_trichotomy a b with h | h | h
 ·exact .inl ⟨h, if_pos h⟩
 ·subst h; exact .inr (.inr ⟨rfl, by rw [if_neg (Int.lt_irrefl _), if_neg (Int.lt_irrefl _)]⟩)
 ·exact .inr (.inl ⟨h, by rw [if_neg (by omega), if_pos h]⟩)
theorem lt_iff (a b : Int × Int) : ltRk a b = true ↔ a.1 < b.1 ∨ a.1 = b.1 ∧ a.2 < b.2 := decide_eq_true_iff
theorem lt_not (a b : Int × Int) : ltRk a b = false ↔ b.1 < a.1 ∨ b.1 = a.1 ∧ b.2 ≤ a.2 := by
 unfold ltRk
 rw [decide_eq_false_iff_not]
 omega
theorem cmpRk_is (a b : Int × Int) : (ltRk a b = true ∧ cmpRk a b = -1) ∨ (ltRk b a = true ∧ cmpRk a b = 1) ∨ (a = b ∧ ltRk a b = false ∧ ltRk b a = false ∧ cmpRk a b = 0) := by
 unfold cmpRk
 rw [lt_iff, lt_iff, lt_not, lt_not]; obtain ⟨a1, a2⟩ := a
 obtain ⟨b1, b2⟩ := b
 rcases cmpI_is a1 b1 with ⟨h, e⟩ | ⟨h, e⟩ | ⟨h, e⟩
 ·exact .inl ⟨.inl h, by show (if cmpI a1 b1 = 0 then _ else cmpI a1 b1) = _; rw [e]; rfl⟩
 ·exact .inr (.inl ⟨.inl h, by show (if cmpI a1 b1 = 0 then _ else cmpI a1 b1) = _; rw [e]; rfl⟩)
 ·subst h
  rcases cmpI_is a2 b2 with ⟨h, e2⟩ | ⟨h, e2⟩ | ⟨h, e2⟩
  ·exact .inl ⟨.inr ⟨rfl, h⟩, by show (if cmpI a1 a1 = 0 then cmpI a2 b2 else cmpI a1 a1) = _; rw [e, e2]; rfl⟩
  ·exact .inr (.inl ⟨.inr ⟨rfl, h⟩, by show (if cmpI a1 a1 = 0 then cmpI a2 b2 else cmpI a1 a1) = _; rw [e, e2]; rfl⟩)
  ·subst h
   exact .inr (.inr ⟨rfl, .inr ⟨rfl, Int.le_refl _⟩, .inr ⟨rfl, Int.le_refl _⟩, by show (if cmpI a1 a1 = 0 then cmpI a2 a2 else cmpI a1 a1) = _; rw [e, e2]; rfl⟩)
theorem lt_asym {a b : Int × Int} (h : ltRk a b = true) : ltRk b a = false := by
 rw [lt_iff] at h; rw [lt_not]
 omega
theorem lt_negtrans {a b c : Int × Int} (h : ltRk a b = false) (h2 : ltRk b c = false) : ltRk a c = false := by
 rw [lt_not] at h h2 ⊢
 omega
theorem cmpRk_pos {a b : Int × Int} (h : ltRk b a = false) : cmpRk a b ≤ 0 := by
 rcases cmpRk_is a b with ⟨_, e⟩ | ⟨h1, e⟩ | ⟨_, _, _, e⟩
 ·omega
 ·rw [h1] at h; cases h
 ·omega
theorem cmpRk_neg (a b : Int × Int) : cmpRk b a = - cmpRk a b := by
 rcases cmpRk_is a b with ⟨h, e⟩ | ⟨h, e⟩ | ⟨rfl, _, _, e⟩
 ·rcases cmpRk_is b a with ⟨h1, e1⟩ | ⟨h1, e1⟩ | ⟨h1, h2, h3, e1⟩
  ·rw [lt_asym h] at h1; cases h1
  ·omega
  ·rw [h] at h3; cases h3
 ·rcases cmpRk_is b a with ⟨h1, e1⟩ | ⟨h1, e1⟩ | ⟨h1, h2, h3, e1⟩
  ·omega
  ·rw [lt_asym h] at h1; cases h1
  ·rw [h] at h2; cases h2
 ·omega
theorem cmpRk_self (a : Int × Int) : cmpRk a a = 0 := by have := cmpRk_neg a a; omega
theorem cmpRk_zero {a b : Int × Int} (h : cmpRk a b = 0) : a = b := by
 rcases cmpRk_is a b with ⟨_, e⟩ | ⟨_, e⟩ | ⟨e, _⟩
 ·omega
 ·omega
 ·exact e
theorem cmpRk_trans {a b c : Int × Int} (h : cmpRk a b ≤ 0) (h2 : cmpRk b c ≤ 0) : cmpRk a c ≤ 0 := by
 refine cmpRk_pos ?_
 have h3 : ∀ {a b : Int × Int}, cmpRk a b ≤ 0 → ltRk b a = false := fun {a b} h => by
  rcases cmpRk_is a b with ⟨h1, e⟩ | ⟨_, e⟩ | ⟨_, _, e, _⟩
  ·exact lt_asym h1
  ·omega
  ·exact e
 exact lt_negtrans (h3 h2) (h3 h)
def difL : List (Int × Int) → List (Int × Int) → Int
 | a :: l, b :: m => if cmpRk a b = 0 then difL l m else cmpRk a b
 | _, _ => 0
def lowL (l m : List (Int × Int)) : Int := if difL l m = 0 then cmpI m.length l.length else difL l m
theorem difL_nil (l : List (Int × Int)) : difL l [] = 0 := by cases l <;> rfl
theorem difL_drop {l m : List (Int × Int)} {k : Nat} (hl : k < l.length) (hm : k < m.length) : difL (l.drop k) (m.drop k) = if cmpRk l[k] m[k] = 0 then difL (l.drop (k + 1)) (m.drop (k + 1)) else cmpRk l[k] m[k] := by
 rw [List.drop_eq_getElem_cons hl, List.drop_eq_getElem_cons hm]
 rfl
theorem difL_end {l m : List (Int × Int)} {k : Nat} (h : l.length ≤ k ∨ m.length ≤ k) : difL (l.drop k) (m.drop k) = 0 := by
 rcases h with h | h
 ·rw [List.drop_eq_nil_of_le h]
  rfl
 ·rw [List.drop_eq_nil_of_le h]
  exact difL_nil _
theorem lowL_cons (a b : Int × Int) (l m : List (Int × Int)) : lowL (a :: l) (b :: m) = if cmpRk a b = 0 then lowL l m else cmpRk a b := by
 unfold lowL
 show (if (if cmpRk a b = 0 then difL l m else cmpRk a b) = 0 then _ else (if cmpRk a b = 0 then difL l m else cmpRk a b)) = _
 by_cases h : cmpRk a b = 0
 ·rw [if_pos h, if_pos h]
  congr 1
  unfold cmpI
  simp only [List.length_cons]
  congr 1
  ·exact propext ⟨fun h => by omega, fun h => by omega⟩
  ·congr 1
   exact propext ⟨fun h => by omega, fun h => by omega⟩
 ·rw [if_neg h, if_neg h, if_neg h]
theorem lowL_nil_cons (b : Int × Int) (m : List (Int × Int)) : lowL [] (b :: m) = 1 := by
 show (if (0 : Int) = 0 then cmpI (b :: m).length ([] : List (Int × Int)).length else 0) = 1
 rw [if_pos rfl]
 unfold cmpI
 rw [if_neg (by simp; omega), if_pos (by simp)]
theorem lowL_cons_nil (a : Int × Int) (l : List (Int × Int)) : lowL (a :: l) [] = -1 := by
 show (if (0 : Int) = 0 then cmpI ([] : List (Int × Int)).length (a :: l).length else 0) = -1
 rw [if_pos rfl]
 unfold cmpI
 rw [if_pos (by simp)]
theorem lowL_neg : ∀ l m : List (Int × Int), lowL l m = - lowL m l
 | [], [] => rfl
 | [], b :: m => by rw [lowL_nil_cons, lowL_cons_nil]; rfl
 | a :: l, [] => by rw [lowL_nil_cons, lowL_cons_nil]
 | a :: l, b :: m => by
  rw [lowL_cons, lowL_cons, lowL_neg l m, cmpRk_neg a b]
  by_cases h : cmpRk a b = 0
  ·rw [if_pos h, if_pos (by omega)]
  ·rw [if_neg h, if_neg (by omega)]; omega
theorem lowL_self : ∀ l : List (Int × Int), lowL l l = 0
 | [] => rfl
 | a :: l => by rw [lowL_cons, if_pos (cmpRk_self a)]; exact lowL_self l
theorem lowL_trans : ∀ l m n : List (Int × Int), lowL l m ≤ 0 → lowL m n ≤ 0 → lowL l n ≤ 0
 | [], [], n, _, h => h
 | [], b :: m, n, h, _ => by rw [lowL_nil_cons] at h; omega
 | a :: l, [], [], h, _ => h
 | a :: l, [], c :: n, _, h => by rw [lowL_nil_cons] at h; omega
 | a :: l, b :: m, [], _, _ => by rw [lowL_cons_nil]; omega
 | a :: l, b :: m, c :: n, h, h2 => by
  rw [lowL_cons] at h h2 ⊢
  by_cases e : cmpRk a b = 0
  ·rw [if_pos e] at h
   rw [cmpRk_zero e]
   by_cases e2 : cmpRk b c = 0
   ·rw [if_pos e2] at h2 ⊢
    exact lowL_trans l m n h h2
   ·rw [if_neg e2] at h2 ⊢
    exact h2
  ·rw [if_neg e] at h
   by_cases e2 : cmpRk b c = 0
   ·rw [← cmpRk_zero e2, if_neg e]
    exact h
   ·rw [if_neg e2] at h2
    have h3 := cmpRk_trans h h2
    by_cases e3 : cmpRk a c = 0
    ·have := cmpRk_zero e3
     subst this; rw [cmpRk_neg a b] at h2
     omega
    ·rw [if_neg e3]; exact h3
theorem lowL_less : ∀ l : List (Int × Int), l ≠ [] → lowL l (l.take (l.length - 1)) = -1
 | [], h => absurd rfl h
 | [a], _ => lowL_cons_nil a []
 | a :: b :: l, _ => by
  show lowL (a :: b :: l) (a :: (b :: l).take l.length) = -1
  rw [lowL_cons, if_pos (cmpRk_self a)]
  exact lowL_less (b :: l) (by simp)
section
variable {α β : Type} (lt : α → α → Bool)
def insV (x : α) : List α → List α
 | [] => [x]
 | y :: r => if lt x y = true then y :: insV x r else x :: y :: r
def insR (x : α) (s : List α) : List α := (insV lt x s.reverse).reverse
def isortF (s l : List α) : List α := l.foldl (fun s x => insR lt x s) s
def isort (l : List α) : List α := isortF lt [] l
theorem insR_snoc (x y : α) (s : List α) : insR lt x (s ++ [y]) = if lt x y = true then insR lt x s ++ [y] else s ++ [y] ++ [x] := by
 unfold insR
 rw [List.reverse_append]
 show (if lt x y = true then y :: insV lt x s.reverse else x :: y :: s.reverse).reverse = _
 by_cases h : lt x y = true
 ·rw [if_pos h, if_pos h, List.reverse_cons]
 ·rw [if_neg h, if_neg h]; simp
theorem insV_perm (x : α) : ∀ s : List α, (insV lt x s).Perm (x :: s)
 | [] => .refl _
 | y :: r => by
  unfold insV
  split
  ·exact ((insV_perm x r).cons y).trans (.swap x y r)
  ·exact .refl _
theorem insR_perm (x : α) (s : List α) : (insR lt x s).Perm (x :: s) := ((insV lt x s.reverse).reverse_perm.trans (insV_perm lt x s.reverse)).trans ((s.reverse_perm).cons x)
theorem isortF_perm : ∀ (l s : List α), (isortF lt s l).Perm (s ++ l)
 | [], s => by rw [List.append_nil]; exact .refl _
 | x :: l, s => by
  refine (isortF_perm l (insR lt x s)).trans ?_
  refine ((insR_perm lt x s).append_right l).trans ?_
  exact (List.perm_middle (a := x) (l₁ := s) (l₂ := l)).symm
theorem isort_perm (l : List α) : (isort lt l).Perm l := isortF_perm lt l []
theorem isort_len (l : List α) : (isort lt l).length = l.length := (isort_perm lt l).length_eq
variable {lt}
theorem insV_sorted (ha : ∀ a b, lt a b = true → lt b a = false) (ht : ∀ a b c, lt a b = false → lt b c = false → lt a c = false) (x : α) : ∀ s : List α, s.Pairwise (fun a b => lt a b = false) → (insV lt x s).Pairwise (fun a b => lt a b = false)
 | [], _ => by unfold insV; exact List.pairwise_singleton _ _
 | y :: r, h => by
  obtain ⟨h1, h2⟩ := List.pairwise_cons.1 h
  unfold insV
  split
  ·rename_i hx
   refine List.pairwise_cons.2 ⟨fun b hb => ?_, insV_sorted ha ht x r h2⟩
   rcases List.mem_cons.1 ((insV_perm lt x r).mem_iff.1 hb) with e | e
   ·subst e; exact ha _ _ hx
   ·exact h1 b e
  ·rename_i hx
   have hx2 : lt x y = false := by simpa using hx
   refine List.pairwise_cons.2 ⟨fun b hb => ?_, h⟩
   rcases List.mem_cons.1 hb with e | e
   ·subst e; exact hx2
   ·exact ht _ _ _ hx2 (h1 b e)
theorem isortF_sorted (ha : ∀ a b, lt a b = true → lt b a = false) (ht : ∀ a b c, lt a b = false → lt b c = false → lt a c = false) : ∀ (l s : List α), s.Pairwise (fun a b => lt b a = false) → (isortF lt s l).Pairwise (fun a b => lt b a = false)
 | [], s, h => h
 | x :: l, s, h => by
  refine isortF_sorted ha ht l (insR lt x s) ?_
  unfold insR
  rw [List.pairwise_reverse]
  exact insV_sorted ha ht x _ (List.pairwise_reverse.2 h)
theorem isort_sorted (ha : ∀ a b, lt a b = true → lt b a = false) (ht : ∀ a b c, lt a b = false → lt b c = false → lt a c = false) (l : List α) : (isort lt l).Pairwise (fun a b => lt b a = false) := isortF_sorted ha ht l [] .nil
variable {lt2 : β → β → Bool} {f : α → β}
theorem insV_map (hf : ∀ x y, lt2 (f x) (f y) = lt x y) (x : α) : ∀ s : List α, (insV lt x s).map f = insV lt2 (f x) (s.map f)
 | [] => rfl
 | y :: r => by
  show (if lt x y = true then y :: insV lt x r else x :: y :: r).map f = if lt2 (f x) (f y) = true then f y :: insV lt2 (f x) (r.map f) else f x :: f y :: r.map f
  rw [hf, ← insV_map hf x r]
  split <;> rfl
theorem insR_map (hf : ∀ x y, lt2 (f x) (f y) = lt x y) (x : α) (s : List α) : (insR lt x s).map f = insR lt2 (f x) (s.map f) := by
 unfold insR
 rw [List.map_reverse, insV_map hf, List.map_reverse]
theorem isortF_map (hf : ∀ x y, lt2 (f x) (f y) = lt x y) : ∀ l s : List α, (isortF lt s l).map f = isortF lt2 (s.map f) (l.map f)
 | [], _ => rfl
 | x :: l, s => by
  show (isortF lt (insR lt x s) l).map f = isortF lt2 (insR lt2 (f x) (s.map f)) (l.map f)
  rw [isortF_map hf l, insR_map hf]
theorem isort_map (hf : ∀ x y, lt2 (f x) (f y) = lt x y) (l : List α) : (isort lt l).map f = isort lt2 (l.map f) := isortF_map hf l []
end
def ltP (p q : List Term) : Bool := ltRk (rkP p) (rkP q)
def srtP (l : List (List Term)) : List (List Term) := isort ltP l
theorem srtP_sorted (l : List (List Term)) : (srtP l).Pairwise (fun a b => ltP b a = false) := isort_sorted (lt := ltP) (fun _ _ h => lt_asym h) (fun _ _ _ h h2 => lt_negtrans h h2) l
end Go.Proofs.Ytmmgipcacceakaa

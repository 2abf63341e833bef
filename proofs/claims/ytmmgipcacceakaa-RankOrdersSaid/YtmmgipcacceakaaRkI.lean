/-
  The shelf's insertion sort, in plain words; a row of ranked polynomials as cells.
-/
import Derived.Test.YtmmgipcacceakaaSrtK
import Derived.Test.YtmmgipcacceakaaRkP
set_option maxHeartbeats 40000000
set_option maxRecDepth 100000
namespace Go.Proofs.Ytmmgipcacceakaa
open Go.Shelf Go.RowKit Go.Lib
section
variable {α : Type} [Inhabited α] (lt : α → α → Bool)
theorem swp_mid (s t : List α) (x y : α) {j : Nat} (h : s.length = j) : Sort.swp (s ++ y :: x :: t).toArray (j + 1) j = (s ++ x :: y :: t).toArray := by
 subst h
 unfold Sort.swp
 have e1 : ((s ++ y :: x :: t).toArray)[s.length]! = y := by simp
 have e2 : ((s ++ y :: x :: t).toArray)[s.length + 1]! = x := by simp
 rw [e1, e2, List.setIfInBounds_toArray, List.setIfInBounds_toArray]
 congr 1
 rw [List.set_append_right _ _ (by omega), show s.length + 1 - s.length = 1 by omega, List.set_append_right _ _ (Nat.le_refl _), Nat.sub_self]
 rfl
theorem ins_inner : ∀ (j : Nat) (s t : List α) (x : α), s.length = j → Sort.insInner lt 0 j (s ++ x :: t).toArray = (insR lt x s ++ t).toArray
 | 0, s, t, x, h => by
  obtain rfl : s = [] := List.eq_nil_of_length_eq_zero h
  unfold Sort.insInner
  rfl
 | j + 1, s, t, x, h => by
  rcases List.eq_nil_or_concat s with e | ⟨s', y, e⟩
  ·subst e; cases h
  ·rw [List.concat_eq_append] at e
   subst e
   have hl : s'.length = j := by simpa using h
   have ea : (s' ++ [y] ++ x :: t) = s' ++ y :: x :: t := by simp
   rw [ea]
   have e1 : ((s' ++ y :: x :: t).toArray)[j]! = y := by rw [← hl]; simp
   have e2 : ((s' ++ y :: x :: t).toArray)[j + 1]! = x := by rw [← hl]; simp
   unfold Sort.insInner
   rw [e1, e2, insR_snoc]
   by_cases hx : lt x y = true
   ·rw [if_pos (by simp [hx]), if_pos hx, swp_mid s' t x y hl, ins_inner j s' (y :: t) x hl]
    simp
   ·rw [if_neg (by simp [hx]), if_neg hx]
    simp
theorem ins_outer (n : Nat) : ∀ (l s : List α), s.length + l.length = n → Sort.insOuter lt 0 n s.length (s ++ l).toArray = (isortF lt s l).toArray
 | [], s, h => by
  rw [Sort.insOuter, if_neg (by simp at h; omega), List.append_nil]
  rfl
 | x :: l, s, h => by
  have hlt : s.length < n := by simp at h; omega
  rw [Sort.insOuter, if_pos hlt, ins_inner lt s.length s l x rfl]
  have hl : (insR lt x s).length = s.length + 1 := (insR_perm lt x s).length_eq
  rw [← hl]
  exact ins_outer n l (insR lt x s) (by rw [hl]; simp at h; omega)
theorem ins_sort (l : List α) : Sort.insertionSort lt l.toArray 0 l.length = (isort lt l).toArray := by
 unfold Sort.insertionSort
 cases l with
 | nil => rw [Sort.insOuter, if_neg (by simp)]; rfl
 | cons x l => exact ins_outer lt (x :: l).length l [x] (by simp; omega)
end
structure RCell where
 c : Int
 d : Int
 ao : Option Addr
 n : Nat
 cap : Nat
 p : List Term
instance : Inhabited RCell := ⟨⟨0, 0, none, 0, 0, []⟩⟩
def RCell.vs (x : RCell) : List Value := [.int .i64 x.c, .int .i64 x.d, .slice x.ao x.n x.cap]
def RCell.rk (x : RCell) : Int × Int := (x.c, x.d)
def cfR (x y : RCell) : Int := cmpRk x.rk y.rk
theorem ltR_is (x y : RCell) : ltOf cfR x y = ltRk x.rk y.rk := by
 unfold ltOf cfR
 rcases cmpRk_is x.rk y.rk with ⟨h, e⟩ | ⟨h, e⟩ | ⟨_, h, _, e⟩
 ·rw [e, h]; rfl
 ·rw [e, lt_asym h]; rfl
 ·rw [e, h]; rfl
theorem vsR_len (x : RCell) : (RCell.vs x).length = 3 := rfl
theorem vsR_one (x : RCell) : ∀ v ∈ RCell.vs x, v.oneCell' = true := fun v hv => by
 simp only [RCell.vs, List.mem_cons, List.not_mem_nil, or_false] at hv
 rcases hv with rfl | rfl | rfl <;> rfl
end Go.Proofs.Ytmmgipcacceakaa

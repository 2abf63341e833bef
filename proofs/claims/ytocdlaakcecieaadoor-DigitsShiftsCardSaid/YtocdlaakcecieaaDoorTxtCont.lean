/-
  Plain facts: a text while its pieces are laid in.
-/
import Derived.Test.YtocdlaakcecieaaDoorTxtNum
set_option maxRecDepth 8192
namespace Go.Proofs.YtocdlaakcecieaaDoor
open Go.Lib

/-- the sign and the highest piece's digits -/
def headOf (m : Bool) (N L : Nat) : List UInt8 := (if m && decide (0 < piece N L) then [45] else []) ++ decDigits (piece N L)

/-- the text while its pieces are laid in: k of the lower ones -/
def cont (A : List UInt8) (N L k : Nat) : List UInt8 := A ++ (List.replicate (9 * (L - k)) 48 ++ padD (9 * k) N)

theorem cont_length (A : List UInt8) (N L k : Nat) (h : k ≤ L) : (cont A N L k).length = A.length + L * 9 := by
  unfold cont
  rw [List.length_append, List.length_append, List.length_replicate, padD_length]
  omega

theorem cont_zero (A : List UInt8) (N L : Nat) : A ++ List.drop (A.length) (List.replicate (A.length + L * 9) 48) = cont A N L 0 := by
  unfold cont
  rw [List.drop_replicate, Nat.mul_zero, padD, List.append_nil, Nat.sub_zero, Nat.add_sub_cancel_left, Nat.mul_comm]

theorem piece_digits (N k : Nat) : 1 ≤ (decDigits (piece N k)).length ∧ (decDigits (piece N k)).length ≤ 9 := by
  rw [decDigits_length]
  exact ⟨nDigits_pos _, nDigits_le 8 _ (by have := piece_lt N k; simpa using this)⟩

theorem cont_step (A : List UInt8) (N L k o : Nat) (h : k < L) (ho : o + (decDigits (piece N k)).length + 9 * k = A.length + L * 9) :
    (cont A N L k).take o ++ (decDigits (piece N k) ++ (cont A N L k).drop (o + (decDigits (piece N k)).length)) = cont A N L (k + 1) := by
  have hd := piece_digits N k
  have hp := padD_dec 9 (piece N k) (by rw [← decDigits_length]; exact hd.2)
  rw [← decDigits_length] at hp
  obtain ⟨ds, hds⟩ : ∃ ds, ds = decDigits (piece N k) := ⟨_, rfl⟩
  rw [← hds] at ho hd hp ⊢
  have e1 : padD (9 * (k + 1)) N = padD 9 (piece N k) ++ padD (9 * k) N := by
    rw [show 9 * (k + 1) = 9 + 9 * k by omega, padD_add, ← padD_mod 9, pow9]; rfl
  obtain ⟨r, hr⟩ : ∃ r, 9 * (L - k) = r + ds.length := ⟨9 * (L - k) - ds.length, by omega⟩
  have e2 : cont A N L k = (A ++ List.replicate r 48) ++ (List.replicate ds.length 48 ++ padD (9 * k) N) := by
    unfold cont
    rw [hr, ← List.replicate_append_replicate]
    simp only [List.append_assoc]
  have e3 : (A ++ List.replicate r (48 : UInt8)).length = o := by simp; omega
  have e4 : List.take o (cont A N L k) = A ++ List.replicate r 48 := by rw [e2, ← e3, List.take_left]
  have e5 : List.drop (o + ds.length) (cont A N L k) = padD (9 * k) N := by
    rw [e2, ← List.drop_drop, ← e3, List.drop_left]
    conv => lhs; arg 1; rw [← List.length_replicate (n := ds.length) (a := (48 : UInt8))]
    rw [List.drop_left]
  rw [e4, e5]
  unfold cont
  obtain ⟨r', hr'⟩ : ∃ r', r = r' + (9 - ds.length) := ⟨r - (9 - ds.length), by omega⟩
  rw [e1, hp, show 9 * (L - (k + 1)) = r' by omega, hr', ← List.replicate_append_replicate]
  simp only [List.append_assoc]

theorem head_text {m : Bool} {N L : Nat} (h1 : N / 10 ^ (9 * (L + 1)) = 0) (h2 : 1 < L + 1 → 0 < N / 10 ^ (9 * (L + 1 - 1))) : cont (headOf m N L) N L L = itoa (zOf m N) := by
  have hp : piece N L = N / 10 ^ (9 * L) := by
    unfold piece
    rw [← left_succ] at h1
    refine Nat.mod_eq_of_lt ?_
    rcases Nat.lt_or_ge (N / 10 ^ (9 * L)) 1000000000 with h | h
    · exact h
    · have := Nat.div_pos h (by omega); omega
  have h0 : 0 < N / 10 ^ (9 * L) ↔ 0 < N := by
    rcases Nat.eq_zero_or_pos L with h | h
    · subst h; simp
    · have h3 := h2 (by omega)
      rw [Nat.add_sub_cancel] at h3
      exact ⟨fun _ => Nat.lt_of_lt_of_le h3 (Nat.div_le_self _ _), fun _ => h3⟩
  have ht : decDigits (N / 10 ^ (9 * L)) ++ padD (9 * L) N = decDigits N := by
    have h4 := txtAt_all N L (by
      rcases Nat.eq_zero_or_pos L with h | h
      · exact .inl h
      · right
        have h3 := h2 (by omega)
        rw [Nat.add_sub_cancel] at h3
        exact (Nat.div_pos_iff.1 h3).2)
    unfold txtAt at h4
    rw [Nat.sub_self, Nat.mul_zero] at h4
    simpa using h4
  unfold cont headOf
  rw [Nat.sub_self, Nat.mul_zero, hp, List.append_assoc]
  show _ ++ (_ ++ padD (9 * L) N) = _
  rw [ht]
  have h5 : decide (0 < N / 10 ^ (9 * L)) = decide (0 < N) := by rw [decide_eq_decide]; exact h0
  rw [h5, ← zOf_neg]
  by_cases hz : zOf m N < 0
  · rw [itoa_neg' hz, zOf_abs, decide_eq_true hz]; rfl
  · rw [itoa_pos' (by omega), zOf_abs, decide_eq_false hz]; rfl

end Go.Proofs.YtocdlaakcecieaaDoor

/-
  Plain facts on how many bits a number has.
-/
import Derived.Test.YtkopkmbijmofjaaPlain
import Derived.Lib.BitFns
namespace Go.Proofs.Ytkopkmbijmofjaa

/-- how many bits a number has -/
def nbits (n : Nat) : Nat := if n = 0 then 0 else n.log2 + 1

theorem nbits_of {n k : Nat} (h1 : 2 ^ k ≤ n) (h2 : n < 2 ^ (k + 1)) : nbits n = k + 1 := by
  have h0 : n ≠ 0 := by have := Nat.two_pow_pos k; omega
  unfold nbits
  rw [if_neg h0, (Nat.log2_eq_iff h0).2 ⟨h1, h2⟩]

theorem nbits_zero : nbits 0 = 0 := rfl

theorem nbits_pos {n : Nat} (h : n ≠ 0) : ∃ k, nbits n = k + 1 ∧ 2 ^ k ≤ n ∧ n < 2 ^ (k + 1) := by
  refine ⟨n.log2, ?_, (Nat.log2_eq_iff h).1 rfl⟩
  unfold nbits
  rw [if_neg h]

theorem nbits_eq_zero {n : Nat} : nbits n = 0 ↔ n = 0 := by
  unfold nbits
  split <;> simp_all

theorem bitLenAux_nbits : ∀ (f x : Nat), x < 2 ^ f → Lib.bitLenAux f x = nbits x
  | 0, x, h => by
    obtain rfl : x = 0 := by simpa using h
    rfl
  | f + 1, x, h => by
    rw [Lib.bitLenAux]
    split
    · rename_i h0
      rw [h0]; rfl
    · rename_i h0
      rw [bitLenAux_nbits f (x / 2) (by rw [Nat.pow_succ] at h; omega)]
      by_cases h2 : x / 2 = 0
      · have : x = 1 := by omega
        subst this
        rfl
      · obtain ⟨k, e, a, b⟩ := nbits_pos h2
        rw [e]
        have := nbits_of (n := x) (k := k + 1) (by rw [Nat.pow_succ]; omega) (by rw [Nat.pow_succ]; omega)
        omega

theorem bitLen_nbits (x : Nat) (h : x < 4294967296) : Lib.bitLen x = nbits x :=
  bitLenAux_nbits 64 x (by have : (4294967296 : Nat) < 2 ^ 64 := by decide
                           omega)

theorem nbits_le {n k : Nat} (h : n < 2 ^ k) : nbits n ≤ k := by
  by_cases h0 : n = 0
  · subst h0; simp [nbits]
  · obtain ⟨j, e, a, b⟩ := nbits_pos h0
    rw [e]
    have := (Nat.pow_lt_pow_iff_right (a := 2) (by omega)).1 (Nat.lt_of_le_of_lt a h)
    omega

/-- the bits of a number out of its highest limb -/
theorem nbits_val {xs : List Nat} (h : Wf xs) (k : Nat) (hk : nl xs = k + 1) : nbits (val xs) = 32 * k + nbits (xs.getD k 0) := by
  have hlen : (trimL xs).length = k + 1 := hk
  have hsplit : trimL xs = (trimL xs).take k ++ [xs.getD k 0] := by
    have := take_succ_getD (trimL xs) k (by omega)
    rw [List.take_of_length_le (by omega), getD_trim xs k (by omega)] at this
    exact this
  have hv : val xs = val ((trimL xs).take k) + 4294967296 ^ k * xs.getD k 0 := by
    rw [← val_trim xs]
    conv => lhs; rw [hsplit]
    rw [val_append, List.length_take, Nat.min_eq_left (by omega), val_cons, val_nil]
    simp
  have hlow : val ((trimL xs).take k) < 4294967296 ^ k := by
    have := val_lt _ (h.trim.take k)
    rwa [List.length_take, Nat.min_eq_left (by omega)] at this
  have hne : xs.getD k 0 ≠ 0 := by
    intro e
    have h1 := pow_le_of_nl k hk
    rw [hv, e] at h1
    omega
  obtain ⟨j, e, a, b⟩ := nbits_pos hne
  rw [e]
  have hp : (4294967296 : Nat) ^ k = 2 ^ (32 * k) := by rw [Nat.pow_mul]
  rw [hp] at hv hlow
  have := nbits_of (n := val xs) (k := 32 * k + j) (by
    rw [hv, Nat.pow_add]
    have := Nat.mul_le_mul_left (2 ^ (32 * k)) a
    omega) (by
    rw [hv, show 32 * k + j + 1 = 32 * k + (j + 1) from by omega, Nat.pow_add]
    have := Nat.mul_le_mul_left (2 ^ (32 * k)) (show xs.getD k 0 + 1 ≤ 2 ^ (j + 1) from b)
    rw [Nat.mul_add, Nat.mul_one] at this
    omega)
  rw [this]; omega

end Go.Proofs.Ytkopkmbijmofjaa

/-
  Plain facts on shifts limb by limb.
-/
import Derived.Test.YtkopkmbijmofjaaAddPlain
import Derived.Test.YtkopkmbijmofjaaBitOps
namespace Go.Proofs.Ytkopkmbijmofjaa

theorem getD_set (zs : List Nat) (i v t : Nat) : (zs.set i v).getD t 0 = if t = i ∧ i < zs.length then v else zs.getD t 0 := by
  by_cases h : i < zs.length
  · by_cases ht : t = i
    · subst ht; simp [List.getD, h]
    · rw [if_neg (fun e => ht e.1)]
      simp [List.getD, List.getElem?_set_ne (Ne.symm ht)]
  · rw [if_neg (fun e => h e.2), List.set_eq_of_length_le (by omega)]

theorem x_lt (x d : Nat) (hx : x < 4294967296) (hd : d < 32) : x * 2 ^ d < 18446744073709551616 := by
  have h1 : 2 ^ d ≤ 2 ^ 31 := Nat.pow_le_pow_right (by omega) (by omega)
  have h2 : x * 2 ^ d ≤ 4294967295 * 2 ^ 31 := Nat.mul_le_mul (by omega) h1
  omega

theorem shl_lo_eq (x d : Nat) (hd : d < 32) : x * 2 ^ d % 4294967296 = 2 ^ d * (x % 2 ^ (32 - d)) := by
  have e : (4294967296 : Nat) = 2 ^ d * 2 ^ (32 - d) := by rw [← Nat.pow_add, show d + (32 - d) = 32 from by omega]
  rw [e, Nat.mul_comm x, Nat.mul_mod_mul_left]

theorem shl_lo_lt (x d z : Nat) (hd : d < 32) (hz : z < 2 ^ d) : z + x * 2 ^ d % 4294967296 < 4294967296 := by
  rw [shl_lo_eq x d hd]
  have e : (4294967296 : Nat) = 2 ^ d * 2 ^ (32 - d) := by rw [← Nat.pow_add, show d + (32 - d) = 32 from by omega]
  have h1 : x % 2 ^ (32 - d) + 1 ≤ 2 ^ (32 - d) := Nat.mod_lt _ (Nat.two_pow_pos _)
  have h2 := Nat.mul_le_mul_left (2 ^ d) h1
  rw [Nat.mul_add, Nat.mul_one] at h2
  omega

theorem mul_pow_int (x d : Nat) : (x : Int) * 2 ^ d = ((x * 2 ^ d : Nat) : Int) := by simp

theorem shl_lo (z x d : Nat) (hx : x < 4294967296) (hd : d < 32) (hz : z < 2 ^ d) :
    bits BinOp.or IntKind.u32 (z : Int) (IntKind.u64.wrap ((x : Int) * 2 ^ d) % 4294967296) = ((z + x * 2 ^ d % 4294967296 : Nat) : Int) := by
  have h := shl_lo_lt x d z hd hz
  rw [mul_pow_int, wrap_u64 _ (x_lt x d hx hd)]
  have e : ((x * 2 ^ d : Nat) : Int) % 4294967296 = ((2 ^ d * (x % 2 ^ (32 - d)) : Nat) : Int) := by rw [← shl_lo_eq x d hd]; omega
  rw [shl_lo_eq x d hd] at h ⊢
  rw [e, or_u32 z _ d hz (by omega), Nat.add_comm]

theorem shl_hi (x d : Nat) (hx : x < 4294967296) (hd : d < 32) :
    IntKind.u64.wrap ((x : Int) * 2 ^ d) / 4294967296 % 4294967296 = ((x * 2 ^ d / 4294967296 : Nat) : Int) := by
  have := x_lt x d hx hd
  rw [mul_pow_int, wrap_u64 _ this]
  omega

theorem shl_hi_lt (x d : Nat) (hx : x < 4294967296) : x * 2 ^ d / 4294967296 < 2 ^ d := by
  have h : 0 < 2 ^ d := Nat.two_pow_pos d
  rw [Nat.div_lt_iff_lt_mul (by omega), Nat.mul_comm]
  exact Nat.mul_lt_mul_of_pos_left hx h

theorem shl_step {zs : List Nat} {j x d : Nat} (hj : j + 1 < zs.length) (h0 : zs.getD (j + 1) 0 = 0) :
    val ((zs.set j (zs.getD j 0 + x * 2 ^ d % 4294967296)).set (j + 1) (x * 2 ^ d / 4294967296)) = val zs + 4294967296 ^ j * (x * 2 ^ d) := by
  have h1 := val_set zs j (zs.getD j 0 + x * 2 ^ d % 4294967296) (by omega)
  have h2 := val_set (zs.set j (zs.getD j 0 + x * 2 ^ d % 4294967296)) (j + 1) (x * 2 ^ d / 4294967296) (by simpa using hj)
  rw [getD_set, if_neg (by omega), h0, Nat.mul_zero, Nat.add_zero] at h2
  rw [h2]
  rw [Nat.mul_add] at h1
  have h3 : 4294967296 ^ j * (x * 2 ^ d) = 4294967296 ^ j * (x * 2 ^ d % 4294967296) + 4294967296 ^ (j + 1) * (x * 2 ^ d / 4294967296) := by
    rw [Nat.pow_succ, Nat.mul_assoc, ← Nat.mul_add, Nat.mod_add_div]
  omega

theorem pow_split (s : Nat) : 4294967296 ^ (s / 32) * 2 ^ (s % 32) = 2 ^ s := by
  have e : (4294967296 : Nat) = 2 ^ 32 := by decide
  rw [e, ← Nat.pow_mul, ← Nat.pow_add, Nat.div_add_mod]

theorem shl_inv_step (a k V x d zv : Nat) (h : zv = 4294967296 ^ a * V * 2 ^ d) : zv + 4294967296 ^ (a + k) * (x * 2 ^ d) = 4294967296 ^ a * (V + 4294967296 ^ k * x) * 2 ^ d := by
  rw [h, Nat.pow_add, Nat.mul_add, Nat.add_mul]
  congr 1
  simp only [Nat.mul_assoc]

end Go.Proofs.Ytkopkmbijmofjaa

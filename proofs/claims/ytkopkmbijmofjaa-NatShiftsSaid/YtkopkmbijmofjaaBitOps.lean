/-
  Plain facts on the model's bit operations over natural numbers.
-/
import Derived.Test.YtkopkmbijmofjaaPlain
namespace Go.Proofs.Ytkopkmbijmofjaa

theorem wrap_u64 (n : Nat) (h : n < 18446744073709551616) : IntKind.u64.wrap (n : Int) = (n : Int) := by
  simp only [IntKind.wrap, IntKind.bits, IntKind.signed]
  simp only [Bool.false_and, Bool.false_eq_true, if_false]
  have : (2 : Int) ^ 64 = 18446744073709551616 := by decide
  rw [this]
  omega

theorem or_u64 (a b k : Nat) (ha : a < 2 ^ k) (hb : 2 ^ k * b + a < 18446744073709551616) : bits .or .u64 (a : Int) ((2 ^ k * b : Nat) : Int) = ((2 ^ k * b + a : Nat) : Int) := by
  rw [u64_or_nat a (2 ^ k * b) (by omega) (by omega), Nat.or_comm, ← Nat.two_pow_add_eq_or_of_lt ha]

theorem or_u64' (a b k : Nat) (ha : a < 2 ^ k) (hb : 2 ^ k * b + a < 18446744073709551616) : bits .or .u64 ((2 ^ k * b : Nat) : Int) (a : Int) = ((2 ^ k * b + a : Nat) : Int) := by
  rw [u64_or_nat (2 ^ k * b) a (by omega) (by omega), ← Nat.two_pow_add_eq_or_of_lt ha]

theorem or_u32' (a b k : Nat) (ha : a < 2 ^ k) (hb : 2 ^ k * b + a < 4294967296) : bits .or .u32 ((2 ^ k * b : Nat) : Int) (a : Int) = ((2 ^ k * b + a : Nat) : Int) := by
  rw [u32_or_nat (2 ^ k * b) a (by omega) (by omega), ← Nat.two_pow_add_eq_or_of_lt ha]

theorem or_u32 (a b k : Nat) (ha : a < 2 ^ k) (hb : 2 ^ k * b + a < 4294967296) : bits .or .u32 (a : Int) ((2 ^ k * b : Nat) : Int) = ((2 ^ k * b + a : Nat) : Int) := by
  rw [u32_or_nat a (2 ^ k * b) (by omega) (by omega), Nat.or_comm, ← Nat.two_pow_add_eq_or_of_lt ha]

end Go.Proofs.Ytkopkmbijmofjaa

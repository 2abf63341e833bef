/-
  Plain facts for the laws of layer 4.
-/
import Derived.Test.YtponiigpmjnffaaWCmp
import Derived.Test.YtponiigpmjnffaaWDiv
import Derived.Deep.Cut
set_option maxRecDepth 8192
namespace Go.Proofs.Ytponiigpmjnffaa
open Go.RowKit

theorem sign_bound (x : Int) : -1 ≤ x.sign ∧ x.sign ≤ 1 := by
  rcases sign_cases x with ⟨h, _⟩ | ⟨h, _⟩ | ⟨h, _⟩ <;> rw [h] <;> omega

theorem wrap_small {a : Int} (h : -1000 ≤ a ∧ a ≤ 1000) : IntKind.i64.wrap a = a := by
  unfold IntKind.wrap
  simp [IntKind.signed, IntKind.bits]
  omega

theorem sign_wrap (x y : Int) : IntKind.i64.wrap (x.sign * y.sign) = (x * y).sign := by
  rw [Int.sign_mul, wrap_small]
  rcases sign_cases x with ⟨h, _⟩ | ⟨h, _⟩ | ⟨h, _⟩ <;> rcases sign_cases y with ⟨g, _⟩ | ⟨g, _⟩ | ⟨g, _⟩ <;> rw [h, g] <;> decide

theorem cmpZ_comm (x y : Int) : -cmpZ y x = cmpZ x y := by
  unfold cmpZ
  rw [← Int.sign_neg]
  congr 1
  omega

theorem cmp_wrap (x y : Int) : IntKind.i64.wrap (-cmpZ y x) = cmpZ x y := by
  rw [cmpZ_comm, wrap_small]
  have := sign_bound (x - y)
  unfold cmpZ
  omega

theorem cmp_add (x y z : Int) : cmpZ (x + z) (y + z) = cmpZ x y := by unfold cmpZ; congr 1; omega
theorem cmp_neg (x y : Int) : cmpZ (-y) (-x) = cmpZ x y := by unfold cmpZ; congr 1; omega
theorem cmp_zero (x : Int) : cmpZ x 0 = x.sign := by unfold cmpZ; rw [Int.sub_zero]
theorem cmp_mul (x y z : Int) : IntKind.i64.wrap (cmpZ x y * z.sign) = cmpZ (x * z) (y * z) := by
  unfold cmpZ
  rw [sign_wrap, Int.sub_mul]

theorem zero_gcd {x y : Int} (h : ((x.gcd y : Nat) : Int) = 0) : x = 0 ∧ y = 0 := by
  have h1 : x.gcd y = 0 := by omega
  have h2 := Nat.eq_zero_of_gcd_eq_zero_left (m := x.natAbs) (n := y.natAbs) h1
  have h3 := Nat.eq_zero_of_gcd_eq_zero_right (m := x.natAbs) (n := y.natAbs) h1
  omega

theorem gcd_pos {x y : Int} (h : ((x.gcd y : Nat) : Int) ≠ 0) : 0 < x.gcd y := by omega

theorem tmod_gcd_left (x y : Int) : x.tmod ((x.gcd y : Nat) : Int) = 0 := Int.tmod_eq_zero_of_dvd (Int.gcd_dvd_left ..)
theorem tmod_gcd_right (x y : Int) : y.tmod ((x.gcd y : Nat) : Int) = 0 := Int.tmod_eq_zero_of_dvd (Int.gcd_dvd_right ..)

theorem gcd_parts {x y : Int} (h : ((x.gcd y : Nat) : Int) ≠ 0) : (((x.tdiv ((x.gcd y : Nat) : Int)).gcd (y.tdiv ((x.gcd y : Nat) : Int)) : Nat) : Int) = 1 := by
  have hp := gcd_pos h
  have e : (x.tdiv ((x.gcd y : Nat) : Int)).gcd (y.tdiv ((x.gcd y : Nat) : Int)) = 1 := by
    show Nat.gcd _ _ = 1
    rw [Int.natAbs_tdiv, Int.natAbs_tdiv, Int.natAbs_natCast]
    show Nat.gcd (x.natAbs / Nat.gcd x.natAbs y.natAbs) (y.natAbs / Nat.gcd x.natAbs y.natAbs) = 1
    rw [Nat.gcd_div (Nat.gcd_dvd_left _ _) (Nat.gcd_dvd_right _ _)]
    exact Nat.div_self hp
  rw [e]; rfl

theorem gcd_times (x y z : Int) : (((x * z).gcd (y * z) : Nat) : Int) = ((x.gcd y : Nat) : Int) * (z.natAbs : Int) := by
  have e : (x * z).gcd (y * z) = x.gcd y * z.natAbs := by
    show Nat.gcd _ _ = _
    rw [Int.natAbs_mul, Int.natAbs_mul, Nat.gcd_mul_right]
    rfl
  rw [e, Int.natCast_mul]

theorem gcd_nonneg (x y : Int) (h : ((x.gcd y : Nat) : Int) ≠ 0) : ((x.gcd y : Nat) : Int).sign = 1 := Int.sign_eq_one_of_pos (by omega)

theorem Bd.tdiv {x y : Int} {k : Nat} (h : Bd x k) : Bd (x.tdiv y) k := by
  unfold Bd at *
  rw [Int.natAbs_tdiv]
  exact Nat.lt_of_le_of_lt (Nat.div_le_self _ _) h
theorem Bd.tmod {x y : Int} {k : Nat} (h : Bd x k) : Bd (x.tmod y) k := by
  unfold Bd at *
  have e : (x.tmod y).natAbs = x.natAbs % y.natAbs := by
    have h1 := zOf_mod (decide (x < 0)) (decide (y < 0)) x.natAbs y.natAbs
    rw [zOf_can, zOf_can] at h1
    rw [← h1, zOf_abs]
  rw [e]
  exact Nat.lt_of_le_of_lt (Nat.mod_le _ _) h
theorem Bd.gcd {x y : Int} {k : Nat} (h : Bd x k) (h' : Bd y k) : Bd ((x.gcd y : Nat) : Int) k := by
  unfold Bd at *
  rw [Int.natAbs_natCast]
  show Nat.gcd _ _ < _
  rcases Nat.eq_zero_or_pos x.natAbs with h0 | h0
  · rw [h0, Nat.gcd_zero_left]; exact h'
  · exact Nat.lt_of_le_of_lt (Nat.gcd_le_left _ h0) h

theorem quot_rest (x z : Int) : x.tdiv z * z + x.tmod z = x + 0 := by
  have := Int.tdiv_mul_add_tmod x z
  omega

theorem rest_sign (x z : Int) : 0 ≤ (x.tmod z).sign * x.sign := by
  have h1 : (x.tmod z) = 0 ∨ 0 < x.tmod z ∧ 0 < x ∨ x.tmod z < 0 ∧ x < 0 := by
    have h1 := zOf_mod (decide (x < 0)) (decide (z < 0)) x.natAbs z.natAbs
    rw [zOf_can, zOf_can] at h1
    have h2 : x.natAbs % z.natAbs ≤ x.natAbs := Nat.mod_le _ _
    rw [← h1]
    by_cases hx : x < 0
    · have e : zOf (decide (x < 0)) (x.natAbs % z.natAbs) = -((x.natAbs % z.natAbs : Nat) : Int) := by simp [zOf, hx]
      rw [e]; omega
    · have e : zOf (decide (x < 0)) (x.natAbs % z.natAbs) = ((x.natAbs % z.natAbs : Nat) : Int) := by simp [zOf, hx]
      rw [e]; omega
  rcases h1 with h | ⟨h, g⟩ | ⟨h, g⟩
  · rw [h]; simp
  · rw [Int.sign_eq_one_of_pos h, Int.sign_eq_one_of_pos g]; omega
  · rw [Int.sign_eq_neg_one_of_neg h, Int.sign_eq_neg_one_of_neg g]; omega

theorem rest_sign_wrap (x z : Int) : IntKind.i64.wrap ((x.tmod z).sign * x.sign) = (x.tmod z).sign * x.sign := by
  have h1 := sign_bound (x.tmod z)
  have h2 := sign_bound x
  rw [wrap_small]
  rcases sign_cases (x.tmod z) with ⟨h, _⟩ | ⟨h, _⟩ | ⟨h, _⟩ <;> rcases sign_cases x with ⟨g, _⟩ | ⟨g, _⟩ | ⟨g, _⟩ <;> rw [h, g] <;> decide

theorem pow_sign_wrap (x : Int) (j : Nat) : IntKind.i64.wrap ((x ^ j).sign * x.sign) = (x ^ (j + 1)).sign := by
  rw [Int.pow_succ]; exact sign_wrap _ _

end Go.Proofs.Ytponiigpmjnffaa

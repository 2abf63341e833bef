/-
  The walk of the law NatBack.
-/
import Derived.Test.YtkopkmbijmofjaaGLaw
import Derived.Test.YtkopkmbijmofjaaGNatB
import Derived.Test.YtkopkmbijmofjaaKnown
import Derived.Test.YtkopkmbijmofjaaCanon
import Derived.Test.YtkopkmbijmofjaaGNatA
namespace Go.Proofs.Ytkopkmbijmofjaa
open Go.RowKit
set_option maxHeartbeats 1000000 in
theorem natBack_long (a0 : Option Addr) (la ca : Nat) (xs : List Nat) (n m : Int) (w : World) (ha : Sl w a0 la ca xs) (h : 100 < la ∨ n < 0 ∨ 2000 < n ∨ m < 0 ∨ 2000 < m) :
    Calls Try.prog 6 #[.slice a0 la ca, .int .i64 n, .int .i64 m] w (True' w) := by
  have b1 := ha.big
  have l1 := ha.le
  by_cases h0 : 100 < la
  · go_enter Try.func6, Try.ntmps6
    go_wp2_with fail
    refine (known_any _).mono ?_
    rintro e w' ⟨rfl, hB⟩
    go_wp2_with fail
    go_ret
    exact ⟨rfl, hB⟩
  · skip
    by_cases h1 : n < 0
    · have d0 : decide (100 < la) = false := by simp; omega
      go_enter Try.func6, Try.ntmps6
      go_wp2_with fail
      refine (known_any _).mono ?_
      rintro e w' ⟨rfl, hB⟩
      go_wp2_with fail
      go_ret
      exact ⟨rfl, hB⟩
    · skip
      by_cases h2 : 2000 < n
      · have d0 : decide (100 < la) = false := by simp; omega
        have d1 : decide (n < 0) = false := by simp; omega
        go_enter Try.func6, Try.ntmps6
        go_wp2_with fail
        refine (known_any _).mono ?_
        rintro e w' ⟨rfl, hB⟩
        go_wp2_with fail
        go_ret
        exact ⟨rfl, hB⟩
      · skip
        by_cases h3 : m < 0
        · have d0 : decide (100 < la) = false := by simp; omega
          have d1 : decide (n < 0) = false := by simp; omega
          have d2 : decide (2000 < n) = false := by simp; omega
          go_enter Try.func6, Try.ntmps6
          go_wp2_with fail
          refine (known_any _).mono ?_
          rintro e w' ⟨rfl, hB⟩
          go_wp2_with fail
          go_ret
          exact ⟨rfl, hB⟩
        · skip
          have h4 : 2000 < m := by omega
          have d0 : decide (100 < la) = false := by simp; omega
          have d1 : decide (n < 0) = false := by simp; omega
          have d2 : decide (2000 < n) = false := by simp; omega
          have d3 : decide (m < 0) = false := by simp; omega
          go_enter Try.func6, Try.ntmps6
          go_wp2_with fail
          refine (known_any _).mono ?_
          rintro e w' ⟨rfl, hB⟩
          go_wp2_with fail
          go_ret
          exact ⟨rfl, hB⟩

set_option maxHeartbeats 2000000 in
theorem natBack_zero (a0 : Option Addr) (la ca : Nat) (xs : List Nat) (n m : Nat) (w : World) (ha : Sl w a0 la ca xs) (h1 : la ≤ 100) (h2 : n ≤ 2000) (h3 : m ≤ 2000) (hz : val xs = 0) :
    Calls Try.prog 6 #[.slice a0 la ca, .int .i64 (n : Int), .int .i64 (m : Int)] w (True' w) := by
  have HA : Hid (val xs < 4294967296 ^ 100) := val_small 100 ha.wf ha.len h1
  have HZ := Lib.hid hz
  clear hz
  have d1 : decide (100 < la) = false := by simp; omega
  have d2 : decide ((n : Int) < 0) = false := by simp
  have d3 : decide (2000 < (n : Int)) = false := by simp; omega
  have d4 : decide ((m : Int) < 0) = false := by simp
  have d5 : decide (2000 < (m : Int)) = false := by simp; omega
  have HL0 := Lib.hid (All.cons ha (All.nil _))
  have HB0 := Lib.hid (Below.refl w.heap.size w)
  clear ha
  go_enter Try.func6, Try.ntmps6
  go_wp2_with fail
  refine (shl_any _ _ _ _ n _ HL0.out.head (by omega) (by omega)).mono ?_
  rintro e w1 ⟨l0, ln, lc, rfl, hX, hB⟩
  have hn_l : ln ≤ 163 := by rw [← hX.len]; exact limbs_len (mul_pow_lt (k := 63) HA.out (by omega))
  have HL1 := Lib.hid (All.cons hX.sl (HL0.out.below hB))
  have HB1 := Lib.hid (Below.steps HB0.out hB)
  clear hX hB HL0 HB0
  go_wp2_with fail
  refine (shr_any _ _ _ _ n _ HL1.out.head (by omega)).mono ?_
  rintro e w2 ⟨r0, rn, rc, rfl, hX, hB⟩
  rw [val_limbs, Nat.mul_div_cancel _ (Nat.two_pow_pos n)] at hX
  have hrn : rn = 0 := by rw [← hX.len, HZ.out]; rfl
  have HL2 := Lib.hid (All.cons hX.sl (HL1.out.below hB))
  have HB2 := Lib.hid (Below.steps HB1.out hB)
  clear hX hB HL1 HB1
  go_wp2_with fail
  subst hrn
  refine (shl_any _ _ _ _ m _ HL2.out.tail.head (by omega) (by omega)).mono ?_
  rintro e w3 ⟨two0, twon, twoc, rfl, hX, hB⟩
  have HL3 := Lib.hid (All.cons hX.sl (HL2.out.below hB))
  have HB3 := Lib.hid (Below.steps HB2.out hB)
  clear hX hB HL2 HB2
  go_wp2_with fail
  try rw [show ((n : Nat) : Int) + ((m : Nat) : Int) = ((n + m : Nat) : Int) from by omega]
  refine (shl_any _ _ _ _ (n + m) _ HL3.out.tail.tail.tail.head (by omega) (by omega)).mono ?_
  rintro e w4 ⟨one0, onen, onec, rfl, hX, hB⟩
  have HL4 := Lib.hid (All.cons hX.sl (HL3.out.below hB))
  have HB4 := Lib.hid (Below.steps HB3.out hB)
  clear hX hB HL3 HB3
  go_wp2_with fail
  refine (trim_new _ _ _ _ _ HL4.out.tail.tail.tail.tail.head).mono ?_
  rintro e w5 ⟨ta0, tan, tac, rfl, hX, hB⟩
  have HL5 := Lib.hid (All.cons hX.sl (HL4.out.below hB))
  have HB5 := Lib.hid (Below.steps HB4.out hB)
  clear hX hB HL4 HB4
  go_wp2_with fail
  refine (same_b _ _ _ _ _ _ _ _ _ HL5.out.tail.tail.tail.head HL5.out.head rfl).mono ?_
  rintro e w6 ⟨rfl, hB⟩
  have HL6 := Lib.hid (HL5.out.below hB)
  have HB6 := Lib.hid (Below.steps HB5.out hB)
  clear hB HL5 HB5
  go_wp2_with fail
  refine (same_b _ _ _ _ _ _ _ _ _ HL6.out.tail.head HL6.out.tail.tail.head (by rw [val_limbs, Nat.pow_add, Nat.mul_assoc])).mono ?_
  rintro e w7 ⟨rfl, hB⟩
  have HL7 := Lib.hid (HL6.out.below hB)
  have HB7 := Lib.hid (Below.steps HB6.out hB)
  clear hB HL6 HB6
  go_wp2_with fail
  refine (canonical_yes _ _ _ _ _ HL7.out.tail.head (canon_limbs _)).mono ?_
  rintro e w' ⟨rfl, rfl⟩
  go_wp2_with fail
  refine (bits_is 0 _ _ _ _ _ HL7.out.tail.tail.tail.tail.head (by rw [val_limbs, HZ.out, Nat.zero_mul]; rfl)).mono ?_
  rintro e w' ⟨rfl, rfl⟩
  go_wp2_with fail
  refine (known_any _).mono ?_
  rintro e w' ⟨rfl, hB⟩
  go_wp2_with fail
  go_ret
  exact ⟨rfl, Below.steps HB7.out hB⟩

set_option maxHeartbeats 2000000 in
theorem natBack_pos (a0 : Option Addr) (la ca : Nat) (xs : List Nat) (n m : Nat) (w : World) (ha : Sl w a0 la ca xs) (h1 : la ≤ 100) (h2 : n ≤ 2000) (h3 : m ≤ 2000) (hz : val xs ≠ 0) :
    Calls Try.prog 6 #[.slice a0 la ca, .int .i64 (n : Int), .int .i64 (m : Int)] w (True' w) := by
  have HA : Hid (val xs < 4294967296 ^ 100) := val_small 100 ha.wf ha.len h1
  have HZ := Lib.hid hz
  clear hz
  have d1 : decide (100 < la) = false := by simp; omega
  have d2 : decide ((n : Int) < 0) = false := by simp
  have d3 : decide (2000 < (n : Int)) = false := by simp; omega
  have d4 : decide ((m : Int) < 0) = false := by simp
  have d5 : decide (2000 < (m : Int)) = false := by simp; omega
  obtain ⟨kb, hkb⟩ : ∃ kb, kb = nbits (val xs) := ⟨_, rfl⟩
  have hkl : kb ≤ 3200 := by rw [hkb]; exact nbits_le32 100 HA.out
  have HKB := Lib.hid hkb
  clear hkb
  have HL0 := Lib.hid (All.cons ha (All.nil _))
  have HB0 := Lib.hid (Below.refl w.heap.size w)
  clear ha
  go_enter Try.func6, Try.ntmps6
  go_wp2_with fail
  refine (shl_any _ _ _ _ n _ HL0.out.head (by omega) (by omega)).mono ?_
  rintro e w1 ⟨l0, ln, lc, rfl, hX, hB⟩
  have hn_l : ln ≤ 163 := by rw [← hX.len]; exact limbs_len (mul_pow_lt (k := 63) HA.out (by omega))
  have HL1 := Lib.hid (All.cons hX.sl (HL0.out.below hB))
  have HB1 := Lib.hid (Below.steps HB0.out hB)
  clear hX hB HL0 HB0
  go_wp2_with fail
  refine (shr_any _ _ _ _ n _ HL1.out.head (by omega)).mono ?_
  rintro e w2 ⟨r0, rn, rc, rfl, hX, hB⟩
  rw [val_limbs, Nat.mul_div_cancel _ (Nat.two_pow_pos n)] at hX
  have hrn : 0 < rn := by
    rcases Nat.eq_zero_or_pos rn with h | h
    · have := hX.len; rw [h] at this; exact absurd (limbs_inj ((List.eq_nil_of_length_eq_zero this).trans limbs_zero.symm)) HZ.out
    · exact h
  have HL2 := Lib.hid (All.cons hX.sl (HL1.out.below hB))
  have HB2 := Lib.hid (Below.steps HB1.out hB)
  clear hX hB HL1 HB1
  go_wp2_with fail
  have hrb : (((rn : Nat) : Int) == 0) = false := by simp; omega
  refine (shl_any _ _ _ _ m _ HL2.out.tail.head (by omega) (by omega)).mono ?_
  rintro e w3 ⟨two0, twon, twoc, rfl, hX, hB⟩
  have HL3 := Lib.hid (All.cons hX.sl (HL2.out.below hB))
  have HB3 := Lib.hid (Below.steps HB2.out hB)
  clear hX hB HL2 HB2
  go_wp2_with fail
  try rw [show ((n : Nat) : Int) + ((m : Nat) : Int) = ((n + m : Nat) : Int) from by omega]
  refine (shl_any _ _ _ _ (n + m) _ HL3.out.tail.tail.tail.head (by omega) (by omega)).mono ?_
  rintro e w4 ⟨one0, onen, onec, rfl, hX, hB⟩
  have HL4 := Lib.hid (All.cons hX.sl (HL3.out.below hB))
  have HB4 := Lib.hid (Below.steps HB3.out hB)
  clear hX hB HL3 HB3
  go_wp2_with fail
  refine (trim_new _ _ _ _ _ HL4.out.tail.tail.tail.tail.head).mono ?_
  rintro e w5 ⟨ta0, tan, tac, rfl, hX, hB⟩
  have HL5 := Lib.hid (All.cons hX.sl (HL4.out.below hB))
  have HB5 := Lib.hid (Below.steps HB4.out hB)
  clear hX hB HL4 HB4
  go_wp2_with fail
  refine (same_b _ _ _ _ _ _ _ _ _ HL5.out.tail.tail.tail.head HL5.out.head rfl).mono ?_
  rintro e w6 ⟨rfl, hB⟩
  have HL6 := Lib.hid (HL5.out.below hB)
  have HB6 := Lib.hid (Below.steps HB5.out hB)
  clear hB HL5 HB5
  go_wp2_with fail
  refine (same_b _ _ _ _ _ _ _ _ _ HL6.out.tail.head HL6.out.tail.tail.head (by rw [val_limbs, Nat.pow_add, Nat.mul_assoc])).mono ?_
  rintro e w7 ⟨rfl, hB⟩
  have HL7 := Lib.hid (HL6.out.below hB)
  have HB7 := Lib.hid (Below.steps HB6.out hB)
  clear hB HL6 HB6
  go_wp2_with fail
  refine (canonical_yes _ _ _ _ _ HL7.out.tail.head (canon_limbs _)).mono ?_
  rintro e w' ⟨rfl, rfl⟩
  go_wp2_with fail
  refine (bits_is (kb + n) _ _ _ _ _ HL7.out.tail.tail.tail.tail.head (by rw [val_limbs, nbits_shift n HZ.out, ← HKB.out])).mono ?_
  rintro e w' ⟨rfl, rfl⟩
  go_wp2_with fail
  refine (bits_is kb _ _ _ _ _ HL7.out.tail.tail.tail.tail.tail.head HKB.out.symm).mono ?_
  rintro e w' ⟨rfl, rfl⟩
  go_wp2_with fail
  refine (known_any _).mono ?_
  rintro e w' ⟨rfl, hB⟩
  go_wp2_with fail
  go_ret
  exact ⟨rfl, Below.steps HB7.out hB⟩

theorem natBack_any (a0 : Option Addr) (la ca : Nat) (xs : List Nat) (n m : Int) (w : World) (ha : Sl w a0 la ca xs) :
    Calls Try.prog 6 #[.slice a0 la ca, .int .i64 n, .int .i64 m] w (True' w) := by
  by_cases h : 100 < la ∨ n < 0 ∨ 2000 < n ∨ m < 0 ∨ 2000 < m
  · exact natBack_long _ _ _ _ _ _ _ ha h
  · obtain ⟨n, rfl⟩ := Int.eq_ofNat_of_zero_le (show 0 ≤ n by omega)
    obtain ⟨m, rfl⟩ := Int.eq_ofNat_of_zero_le (show 0 ≤ m by omega)
    by_cases hz : val xs = 0
    · exact natBack_zero _ _ _ _ _ _ _ ha (by omega) (by omega) (by omega) hz
    · exact natBack_pos _ _ _ _ _ _ _ ha (by omega) (by omega) (by omega) hz

end Go.Proofs.Ytkopkmbijmofjaa

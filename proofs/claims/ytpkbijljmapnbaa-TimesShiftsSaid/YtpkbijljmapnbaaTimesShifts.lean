/-
  The walk of the law TimesShifts.
-/
import Derived.Test.YtpkbijljmapnbaaTKnown
import Derived.Test.YtpkbijljmapnbaaGNatB
namespace Go.Proofs.Ytpkbijljmapnbaa
open Go.RowKit

set_option maxHeartbeats 1000000 in
theorem timesShifts_long (a0 : Option Addr) (la ca : Nat) (xs : List Nat) (k n : Nat) (w : World) (ha : Sl w a0 la ca xs) (h : 200 < la) :
    Calls Try.prog 6 #[.slice a0 la ca, .int .u8 (k : Int), .int .u32 (n : Int)] w (True' w) := by
  have b_ha := ha.big
  have h0 : 200 < la := by omega
  go_enter Try.func6, Try.ntmps6
  go_wp2_with fail
  refine (tknown_any _).mono ?_
  rintro e w' ⟨rfl, hB⟩
  go_wp2_with fail
  go_ret
  exact ⟨rfl, hB⟩

set_option maxHeartbeats 4000000 in
set_option maxRecDepth 100000 in
theorem timesShifts_short (a0 : Option Addr) (la ca : Nat) (xs : List Nat) (k n : Nat) (w : World) (ha : Sl w a0 la ca xs) (hk : k < 256) (hn : n < 4294967296) (h1 : la ≤ 200) :
    Calls Try.prog 6 #[.slice a0 la ca, .int .u8 (k : Int), .int .u32 (n : Int)] w (True' w) := by
  have HXL : Hid (val xs < 4294967296 ^ 200) := val_small 200 ha.wf ha.len h1
  have d1 : decide (200 < la) = false := by simp; omega
  obtain ⟨m, hm, hml⟩ : ∃ m, k % 32 = m ∧ m < 32 := ⟨_, rfl, Nat.mod_lt _ (by omega)⟩
  have hm2 : ((k : Nat) : Int) % 32 = ((m : Nat) : Int) := by omega
  obtain ⟨p, hp⟩ : ∃ p, p = 2 ^ m := ⟨_, rfl⟩
  have hpl : p < 4294967296 := by
    have : 2 ^ m ≤ 2 ^ 31 := Nat.pow_le_pow_right (by omega) (by omega)
    omega
  have hp2 : (2 : Int) ^ m = ((p : Nat) : Int) := by rw [hp]; simp
  have HP := Lib.hid hp
  clear hm hp
  have HN2 : Hid (n + 1 < 4294967296 ^ 2) := by show _ < _; omega
  have HL0 := Lib.hid (All.cons ha (All.nil _))
  have HB0 := Lib.hid (Below.refl w.heap.size w)
  clear ha
  go_enter Try.func6, Try.ntmps6
  go_wp2_with fail
  refine (shl_any _ _ _ _ m _ HL0.out.head (by omega) (by omega)).mono ?_
  rintro e w1 ⟨p0, pn, pc, rfl, hX, hB⟩
  have HL1 := Lib.hid (All.cons hX.sl (HL0.out.below hB))
  have HB1 := Lib.hid (Below.steps HB0.out hB)
  clear hX hB HL0 HB0
  go_wp2_with fail
  refine (limb_any _ _ _ _ p _ HL1.out.tail.head (by omega) (by omega)).mono ?_
  rintro e w2 ⟨l0, ln, lc, rfl, hX, hB⟩
  have HL2 := Lib.hid (All.cons hX.sl (HL1.out.below hB))
  have HB2 := Lib.hid (Below.steps HB1.out hB)
  clear hX hB HL1 HB1
  go_wp2_with fail
  refine (same_b _ _ _ _ _ _ _ _ _ HL2.out.head HL2.out.tail.head (by rw [HP.out])).mono ?_
  rintro e w3 ⟨rfl, hB⟩
  have HL3 := Lib.hid (HL2.out.below hB)
  have HB3 := Lib.hid (Below.steps HB2.out hB)
  clear hB HL2 HB2
  go_wp2_with fail
  refine (mul_any _ _ _ _ _ _ [p] _ _ (lit_sl _ _ 1 _ rfl rfl _ rfl (wf1 hpl) (by simp)) (HL3.out.tail.tail.head.alloc _) (by omega) (by omega)).mono ?_
  rintro e w4 ⟨q0, qn, qc, rfl, hX, hB⟩
  have HL4 := Lib.hid (All.cons hX.sl (HL3.out.below (step_alloc hB)))
  have HB4 := Lib.hid (Below.steps HB3.out (step_alloc hB))
  clear hX hB HL3 HB3
  go_wp2_with fail
  refine (same_b _ _ _ _ _ _ _ _ _ HL4.out.head HL4.out.tail.tail.head (by rw [show val [p] = p from by simp [val], HP.out, Nat.mul_comm])).mono ?_
  rintro e w5 ⟨rfl, hB⟩
  have HL5 := Lib.hid (HL4.out.below hB)
  have HB5 := Lib.hid (Below.steps HB4.out hB)
  clear hB HL4 HB4
  go_wp2_with fail
  refine (limb_any _ _ _ _ 0 _ HL5.out.tail.tail.tail.head (by omega) (by omega)).mono ?_
  rintro e w6 ⟨z0, zn, zc, rfl, hX, hB⟩
  rw [Nat.mul_zero] at hX
  have hzn : zn = 0 := by rw [← hX.len]; rfl
  subst hzn
  have HL6 := Lib.hid (All.cons hX.sl (HL5.out.below hB))
  have HB6 := Lib.hid (Below.steps HB5.out hB)
  clear hX hB HL5 HB5
  go_wp2_with fail
  refine (small_any n _ (by omega)).mono ?_
  rintro e w7 ⟨sn0, snn, snc, rfl, hX, hB⟩
  have hn_sn : snn ≤ 2 := by rw [← hX.len]; exact limbs_len (by omega)
  have HL7 := Lib.hid (All.cons hX.sl (HL6.out.below hB))
  have HB7 := Lib.hid (Below.steps HB6.out hB)
  clear hX hB HL6 HB6
  go_wp2_with fail
  refine (add_any _ _ _ _ _ _ _ [1] _ (HL7.out.head.alloc _) (lit_sl _ _ 1 _ rfl rfl _ rfl (wf1 (by omega)) (by simp)) (by omega) (by omega)).mono ?_
  rintro e w8 ⟨m0, mn, mc, rfl, hX, hB⟩
  rw [val_limbs, show val [1] = 1 from rfl] at hX
  have hn_m : mn ≤ 2 := by rw [← hX.len]; exact limbs_len HN2.out
  have HL8 := Lib.hid (All.cons hX.sl (HL7.out.below (step_alloc hB)))
  have HB8 := Lib.hid (Below.steps HB7.out (step_alloc hB))
  clear hX hB HL7 HB7
  go_wp2_with fail
  refine (mul_any _ _ _ _ _ _ _ _ _ HL8.out.tail.tail.tail.tail.tail.tail.head HL8.out.head (by omega) (by omega)).mono ?_
  rintro e w9 ⟨am0, amn, amc, rfl, hX, hB⟩
  rw [val_limbs] at hX
  have HL9 := Lib.hid (All.cons hX.sl (HL8.out.below hB))
  have HB9 := Lib.hid (Below.steps HB8.out hB)
  clear hX hB HL8 HB8
  go_wp2_with fail
  refine (limb_any _ _ _ _ n _ HL9.out.tail.tail.tail.tail.tail.tail.tail.head (by omega) hn).mono ?_
  rintro e w10 ⟨ln0, lnn, lnc, rfl, hX, hB⟩
  have hn_ln : lnn ≤ 201 := by rw [← hX.len]; exact limbs_len (n := val xs * n) (k := 201) (mul_lt_pow (m := 200) (n := 1) HXL.out (by omega))
  have HL10 := Lib.hid (All.cons hX.sl (HL9.out.below hB))
  have HB10 := Lib.hid (Below.steps HB9.out hB)
  clear hX hB HL9 HB9
  go_wp2_with fail
  refine (add_any _ _ _ _ _ _ _ _ _ HL10.out.head HL10.out.tail.tail.tail.tail.tail.tail.tail.tail.head (by omega) (by omega)).mono ?_
  rintro e w11 ⟨t0, tn, tc, rfl, hX, hB⟩
  rw [val_limbs] at hX
  have HL11 := Lib.hid (All.cons hX.sl (HL10.out.below hB))
  have HB11 := Lib.hid (Below.steps HB10.out hB)
  clear hX hB HL10 HB10
  go_wp2_with fail
  refine (same_b _ _ _ _ _ _ _ _ _ HL11.out.tail.tail.head HL11.out.head (by rw [Nat.mul_add, Nat.mul_one])).mono ?_
  rintro e w12 ⟨rfl, hB⟩
  have HL12 := Lib.hid (HL11.out.below hB)
  have HB12 := Lib.hid (Below.steps HB11.out hB)
  clear hB HL11 HB11
  go_wp2_with fail
  refine (split_any _ _ _ _ _ _ _ _ _ HL12.out.tail.tail.tail.tail.tail.tail.tail.tail.tail.head HL12.out.tail.tail.tail.head (by omega) (by omega)).mono ?_
  rintro e w13 ⟨u0, un, uc, rfl, hX, hB⟩
  rw [val_limbs] at hX
  have HL13 := Lib.hid (All.cons hX.sl (HL12.out.below hB))
  have HB13 := Lib.hid (Below.steps HB12.out hB)
  clear hX hB HL12 HB12
  go_wp2_with fail
  refine (rows_any _ _ _ _ _ _ _ _ _ HL13.out.tail.tail.tail.tail.head HL13.out.tail.tail.tail.tail.tail.tail.tail.tail.tail.tail.head (by omega) (by omega)).mono ?_
  rintro e w14 ⟨v0, vn, vc, rfl, hX, hB⟩
  rw [val_limbs] at hX
  have HL14 := Lib.hid (All.cons hX.sl (HL13.out.below hB))
  have HB14 := Lib.hid (Below.steps HB13.out hB)
  clear hX hB HL13 HB13
  go_wp2_with fail
  refine (same_b _ _ _ _ _ _ _ _ _ HL14.out.tail.head HL14.out.head (by rw [Nat.mul_comm])).mono ?_
  rintro e w15 ⟨rfl, hB⟩
  have HL15 := Lib.hid (HL14.out.below hB)
  have HB15 := Lib.hid (Below.steps HB14.out hB)
  clear hB HL14 HB14
  go_wp2_with fail
  refine (tknown_any _).mono ?_
  rintro e w' ⟨rfl, hB⟩
  go_wp2_with fail
  go_ret
  exact ⟨rfl, Below.steps HB15.out hB⟩

theorem timesShifts_any (a0 : Option Addr) (la ca : Nat) (xs : List Nat) (k n : Nat) (w : World) (ha : Sl w a0 la ca xs) (hk : k < 256) (hn : n < 4294967296) :
    Calls Try.prog 6 #[.slice a0 la ca, .int .u8 (k : Int), .int .u32 (n : Int)] w (True' w) := by
  by_cases h : 200 < la
  · exact timesShifts_long _ _ _ _ _ _ _ ha h
  · exact timesShifts_short _ _ _ _ _ _ _ ha hk hn (by omega)

theorem timesShifts_int (a0 : Option Addr) (la ca : Nat) (xs : List Nat) (k n : Int) (w : World) (ha : Sl w a0 la ca xs) (hk : 0 ≤ k ∧ k < 256) (hn : 0 ≤ n ∧ n < 4294967296) :
    Calls Try.prog 6 #[.slice a0 la ca, .int .u8 k, .int .u32 n] w (True' w) := by
  obtain ⟨k, rfl⟩ := Int.eq_ofNat_of_zero_le hk.1
  obtain ⟨n, rfl⟩ := Int.eq_ofNat_of_zero_le hn.1
  exact timesShifts_any _ _ _ _ _ _ _ ha (by omega) (by omega)

end Go.Proofs.Ytpkbijljmapnbaa

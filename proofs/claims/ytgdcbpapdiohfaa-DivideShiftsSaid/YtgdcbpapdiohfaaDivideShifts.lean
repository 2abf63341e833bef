/-
  The walk of the law DivideShifts.
-/
import Derived.Test.YtgdcbpapdiohfaaDivideMakes
import Derived.Test.YtgdcbpapdiohfaaGNatB
namespace Go.Proofs.Ytgdcbpapdiohfaa
open Go.RowKit

set_option maxHeartbeats 1000000 in
set_option maxRecDepth 100000 in
theorem divideShifts_long (a0 : Option Addr) (la ca : Nat) (xs : List Nat) (n d : Nat) (w : World) (ha : Sl w a0 la ca xs) (hn : n < 65536) (_ : d < 4294967296) (h : 200 < la ∨ 2000 < n) :
    Calls Try.prog 7 #[.slice a0 la ca, .int .u16 (n : Int), .int .u32 (d : Int)] w (True' w) := by
  have b_ha := ha.big
  by_cases h0 : 200 < la
  · go_enter Try.func7, Try.ntmps7
    go_wp2_with fail
    refine (dknown_any _).mono ?_
    rintro e w' ⟨rfl, hB⟩
    go_wp2_with fail
    go_ret
    exact ⟨rfl, hB⟩
  · skip
    have h1 : 2000 < n := by omega
    have d0 : decide (200 < la) = false := by simp; omega
    go_enter Try.func7, Try.ntmps7
    go_wp2_with fail
    refine (dknown_any _).mono ?_
    rintro e w' ⟨rfl, hB⟩
    go_wp2_with fail
    go_ret
    exact ⟨rfl, hB⟩

set_option maxHeartbeats 4000000 in
set_option maxRecDepth 100000 in
theorem divideShifts_zz (a0 : Option Addr) (la ca : Nat) (xs : List Nat) (n : Nat) (w : World) (ha : Sl w a0 la ca xs) (hn : n < 65536) (h1 : la ≤ 200) (h2 : n ≤ 2000) (hz : val xs = 0) :
    Calls Try.prog 7 #[.slice a0 la ca, .int .u16 (n : Int), .int .u32 0] w (True' w) := by
  have d1 : decide (200 < la) = false := by simp; omega
  have d2 : decide (2000 < n) = false := by simp; omega
  have HA : Hid (val xs < 4294967296 ^ 200) := val_small 200 ha.wf ha.len h1
  have H2 : Hid ((2 : Nat) ^ n ≠ 0) := Nat.pos_iff_ne_zero.1 (Nat.two_pow_pos n)
  have HM : Hid (val xs % 2 ^ n < 4294967296 ^ 200) := Nat.lt_of_le_of_lt (Nat.mod_le _ _) HA.out
  have HD : Hid (val xs / 2 ^ n * 2 ^ n < 4294967296 ^ 200) := Nat.lt_of_le_of_lt (Nat.div_mul_le_self _ _) HA.out
  have HD2 : Hid (val xs / 2 ^ n < 4294967296 ^ 200) := Nat.lt_of_le_of_lt (Nat.div_le_self _ _) HA.out
  obtain ⟨nb, hnb⟩ : ∃ nb, nb = nbits (val xs) := ⟨_, rfl⟩
  have HNB := Lib.hid hnb.symm
  obtain rfl : nb = 0 := by rw [hnb, hz]; rfl
  have HZ := Lib.hid hz
  clear hz hnb
  have HL0 := Lib.hid (All.cons ha (All.nil _))
  have HB0 := Lib.hid (Below.refl w.heap.size w)
  clear ha
  go_enter Try.func7, Try.ntmps7
  go_wp2_with fail
  refine (shl_any _ _ _ [1] n _ (lit_sl w _ 1 _ rfl rfl _ rfl (wf1 (by omega)) (by simp)) (by omega) (by omega)).mono ?_
  rintro e w1 ⟨by0, byn, byc, rfl, hX, hB⟩
  rw [show val [1] = 1 from rfl, Nat.one_mul] at hX
  have HL1 := Lib.hid (All.cons hX.sl (HL0.out.below (step_alloc hB)))
  have HB1 := Lib.hid (Below.steps HB0.out (step_alloc hB))
  clear hX hB HL0 HB0
  go_wp2_with fail
  refine (ddiv_any _ _ _ _ _ _ _ _ _ HL1.out.tail.head HL1.out.head (by rw [val_limbs]; exact H2.out) (by omega)).mono ?_
  rintro e w2 ⟨q0, qn, qc, rr0, rrn, rrc, rfl, hX, hY, hB⟩
  rw [val_limbs] at hX
  rw [val_limbs] at hY
  have hn_rr : rrn ≤ 200 := by rw [← hY.len]; exact limbs_len HM.out
  have HL2 := Lib.hid (All.cons hX (All.cons hY (HL1.out.below hB)))
  have HB2 := Lib.hid (Below.steps HB1.out hB)
  clear hX hY hB HL1 HB1
  go_wp2_with fail
  refine (shr_any _ _ _ _ n _ HL2.out.tail.tail.tail.head (by omega)).mono ?_
  rintro e w3 ⟨s0, sn, sc, rfl, hX, hB⟩
  have hn_s : sn ≤ 200 := by rw [← hX.len]; exact limbs_len HD2.out
  have HL3 := Lib.hid (All.cons hX.sl (HL2.out.below hB))
  have HB3 := Lib.hid (Below.steps HB2.out hB)
  clear hX hB HL2 HB2
  go_wp2_with fail
  refine (shl_any _ _ _ _ n _ HL3.out.head (by omega) (by omega)).mono ?_
  rintro e w4 ⟨bk0, bkn, bkc, rfl, hX, hB⟩
  rw [val_limbs] at hX
  have hn_bk : bkn ≤ 200 := by rw [← hX.len]; exact limbs_len HD.out
  have HL4 := Lib.hid (All.cons hX.sl (HL3.out.below hB))
  have HB4 := Lib.hid (Below.steps HB3.out hB)
  clear hX hB HL3 HB3
  go_wp2_with fail
  refine (same_b _ _ _ _ _ _ _ _ _ HL4.out.tail.tail.head HL4.out.tail.head rfl).mono ?_
  rintro e w5 ⟨rfl, hB⟩
  have HL5 := Lib.hid (HL4.out.below hB)
  have HB5 := Lib.hid (Below.steps HB4.out hB)
  clear hB HL4 HB4
  go_wp2_with fail
  refine (add_any _ _ _ _ _ _ _ _ _ HL5.out.head HL5.out.tail.tail.tail.head (by omega) (by omega)).mono ?_
  rintro e w6 ⟨t0, tn, tc, rfl, hX, hB⟩
  rw [val_limbs, val_limbs] at hX
  have HL6 := Lib.hid (All.cons hX.sl (HL5.out.below hB))
  have HB6 := Lib.hid (Below.steps HB5.out hB)
  clear hX hB HL5 HB5
  go_wp2_with fail
  refine (trim_new _ _ _ _ _ HL6.out.tail.tail.tail.tail.tail.tail.head).mono ?_
  rintro e w7 ⟨ta0, tan, tac, rfl, hX, hB⟩
  have HL7 := Lib.hid (All.cons hX.sl (HL6.out.below hB))
  have HB7 := Lib.hid (Below.steps HB6.out hB)
  clear hX hB HL6 HB6
  go_wp2_with fail
  refine (same_b _ _ _ _ _ _ _ _ _ HL7.out.tail.head HL7.out.head (by rw [Nat.mul_comm, Nat.div_add_mod])).mono ?_
  rintro e w8 ⟨rfl, hB⟩
  have HL8 := Lib.hid (HL7.out.below hB)
  have HB8 := Lib.hid (Below.steps HB7.out hB)
  clear hB HL7 HB7
  go_wp2_with fail
  refine (exact_any _ _ _ _ _ _ _ [1] _ (HL8.out.tail.tail.tail.tail.tail.tail.tail.head.alloc _) (lit_sl _ _ 1 _ rfl rfl _ rfl (wf1 (by omega)) (by simp)) (by decide) (by omega) (by rw [show val [1] = 1 from rfl, Nat.mod_one])).mono ?_
  rintro e w9 ⟨one0, onen, onec, rfl, hX, hB⟩
  rw [show val [1] = 1 from rfl, Nat.div_one] at hX
  have HL9 := Lib.hid (All.cons hX (HL8.out.below (step_alloc hB)))
  have HB9 := Lib.hid (Below.steps HB8.out (step_alloc hB))
  clear hX hB HL8 HB8
  go_wp2_with fail
  refine (trim_new _ _ _ _ _ HL9.out.tail.tail.tail.tail.tail.tail.tail.tail.head).mono ?_
  rintro e w10 ⟨tb0, tbn, tbc, rfl, hX, hB⟩
  have HL10 := Lib.hid (All.cons hX.sl (HL9.out.below hB))
  have HB10 := Lib.hid (Below.steps HB9.out hB)
  clear hX hB HL9 HB9
  go_wp2_with fail
  refine (same_b _ _ _ _ _ _ _ _ _ HL10.out.tail.head HL10.out.head rfl).mono ?_
  rintro e w11 ⟨rfl, hB⟩
  have HL11 := Lib.hid (HL10.out.below hB)
  have HB11 := Lib.hid (Below.steps HB10.out hB)
  clear hB HL10 HB10
  go_wp2_with fail
  refine (bits_is 0 _ _ _ _ _ HL11.out.tail.tail.tail.tail.tail.tail.tail.tail.tail.head HNB.out).mono ?_
  rintro e w' ⟨rfl, rfl⟩
  go_wp2_with fail
  refine (dlimb_zero _ _ _ _).mono ?_
  rintro e w12 ⟨rfl, hB⟩
  have HL12 := Lib.hid (HL11.out.below hB)
  have HB12 := Lib.hid (Below.steps HB11.out hB)
  clear hB HL11 HB11
  go_wp2_with fail
  refine (small_any 0 _ (by omega)).mono ?_
  rintro e w13 ⟨sd0, sdn, sdc, rfl, hX, hB⟩
  have HL13 := Lib.hid (All.cons hX.sl (HL12.out.below hB))
  have HB13 := Lib.hid (Below.steps HB12.out hB)
  clear hX hB HL12 HB12
  go_wp2_with fail
  refine (ddiv_zero _ _ _ _ _ _ _ _ _ HL13.out.tail.tail.tail.tail.tail.tail.tail.tail.tail.tail.head HL13.out.head (val_limbs 0)).mono ?_
  rintro e w14 ⟨rfl, hB⟩
  have HL14 := Lib.hid (HL13.out.below hB)
  have HB14 := Lib.hid (Below.steps HB13.out hB)
  clear hB HL13 HB13
  go_wp2_with fail
  refine (same_b _ _ _ _ _ _ [] [] _ (Sl.none _) (Sl.none _) rfl).mono ?_
  rintro e w15 ⟨rfl, hB⟩
  have HL15 := Lib.hid (HL14.out.below hB)
  have HB15 := Lib.hid (Below.steps HB14.out hB)
  clear hB HL14 HB14
  go_wp2_with fail
  refine (small_any 0 _ (by omega)).mono ?_
  rintro e w16 ⟨se0, sen, sec, rfl, hX, hB⟩
  have HL16 := Lib.hid (All.cons hX.sl (HL15.out.below hB))
  have HB16 := Lib.hid (Below.steps HB15.out hB)
  clear hX hB HL15 HB15
  go_wp2_with fail
  refine (same_b _ _ _ _ _ _ _ [] _ HL16.out.head (Sl.none _) rfl).mono ?_
  rintro e w17 ⟨rfl, hB⟩
  have HL17 := Lib.hid (HL16.out.below hB)
  have HB17 := Lib.hid (Below.steps HB16.out hB)
  clear hB HL16 HB16
  go_wp2_with fail
  refine (dknown_any _).mono ?_
  rintro e w' ⟨rfl, hB⟩
  go_wp2_with fail
  go_ret
  exact ⟨rfl, Below.steps HB17.out hB⟩

set_option maxHeartbeats 4000000 in
set_option maxRecDepth 100000 in
theorem divideShifts_pz (a0 : Option Addr) (la ca : Nat) (xs : List Nat) (n : Nat) (w : World) (ha : Sl w a0 la ca xs) (hn : n < 65536) (h1 : la ≤ 200) (h2 : n ≤ 2000) (hz : val xs ≠ 0) :
    Calls Try.prog 7 #[.slice a0 la ca, .int .u16 (n : Int), .int .u32 0] w (True' w) := by
  have d1 : decide (200 < la) = false := by simp; omega
  have d2 : decide (2000 < n) = false := by simp; omega
  have HA : Hid (val xs < 4294967296 ^ 200) := val_small 200 ha.wf ha.len h1
  have H2 : Hid ((2 : Nat) ^ n ≠ 0) := Nat.pos_iff_ne_zero.1 (Nat.two_pow_pos n)
  have HM : Hid (val xs % 2 ^ n < 4294967296 ^ 200) := Nat.lt_of_le_of_lt (Nat.mod_le _ _) HA.out
  have HD : Hid (val xs / 2 ^ n * 2 ^ n < 4294967296 ^ 200) := Nat.lt_of_le_of_lt (Nat.div_mul_le_self _ _) HA.out
  have HD2 : Hid (val xs / 2 ^ n < 4294967296 ^ 200) := Nat.lt_of_le_of_lt (Nat.div_le_self _ _) HA.out
  obtain ⟨nb, hnb⟩ : ∃ nb, nb = nbits (val xs) := ⟨_, rfl⟩
  have HNB := Lib.hid hnb.symm
  have hnz : nb ≠ 0 := by rw [hnb]; exact fun e => hz (nbits_eq_zero.1 e)
  have HZ := Lib.hid hz
  clear hz hnb
  have HL0 := Lib.hid (All.cons ha (All.nil _))
  have HB0 := Lib.hid (Below.refl w.heap.size w)
  clear ha
  go_enter Try.func7, Try.ntmps7
  go_wp2_with fail
  refine (shl_any _ _ _ [1] n _ (lit_sl w _ 1 _ rfl rfl _ rfl (wf1 (by omega)) (by simp)) (by omega) (by omega)).mono ?_
  rintro e w1 ⟨by0, byn, byc, rfl, hX, hB⟩
  rw [show val [1] = 1 from rfl, Nat.one_mul] at hX
  have HL1 := Lib.hid (All.cons hX.sl (HL0.out.below (step_alloc hB)))
  have HB1 := Lib.hid (Below.steps HB0.out (step_alloc hB))
  clear hX hB HL0 HB0
  go_wp2_with fail
  refine (ddiv_any _ _ _ _ _ _ _ _ _ HL1.out.tail.head HL1.out.head (by rw [val_limbs]; exact H2.out) (by omega)).mono ?_
  rintro e w2 ⟨q0, qn, qc, rr0, rrn, rrc, rfl, hX, hY, hB⟩
  rw [val_limbs] at hX
  rw [val_limbs] at hY
  have hn_rr : rrn ≤ 200 := by rw [← hY.len]; exact limbs_len HM.out
  have HL2 := Lib.hid (All.cons hX (All.cons hY (HL1.out.below hB)))
  have HB2 := Lib.hid (Below.steps HB1.out hB)
  clear hX hY hB HL1 HB1
  go_wp2_with fail
  refine (shr_any _ _ _ _ n _ HL2.out.tail.tail.tail.head (by omega)).mono ?_
  rintro e w3 ⟨s0, sn, sc, rfl, hX, hB⟩
  have hn_s : sn ≤ 200 := by rw [← hX.len]; exact limbs_len HD2.out
  have HL3 := Lib.hid (All.cons hX.sl (HL2.out.below hB))
  have HB3 := Lib.hid (Below.steps HB2.out hB)
  clear hX hB HL2 HB2
  go_wp2_with fail
  refine (shl_any _ _ _ _ n _ HL3.out.head (by omega) (by omega)).mono ?_
  rintro e w4 ⟨bk0, bkn, bkc, rfl, hX, hB⟩
  rw [val_limbs] at hX
  have hn_bk : bkn ≤ 200 := by rw [← hX.len]; exact limbs_len HD.out
  have HL4 := Lib.hid (All.cons hX.sl (HL3.out.below hB))
  have HB4 := Lib.hid (Below.steps HB3.out hB)
  clear hX hB HL3 HB3
  go_wp2_with fail
  refine (same_b _ _ _ _ _ _ _ _ _ HL4.out.tail.tail.head HL4.out.tail.head rfl).mono ?_
  rintro e w5 ⟨rfl, hB⟩
  have HL5 := Lib.hid (HL4.out.below hB)
  have HB5 := Lib.hid (Below.steps HB4.out hB)
  clear hB HL4 HB4
  go_wp2_with fail
  refine (add_any _ _ _ _ _ _ _ _ _ HL5.out.head HL5.out.tail.tail.tail.head (by omega) (by omega)).mono ?_
  rintro e w6 ⟨t0, tn, tc, rfl, hX, hB⟩
  rw [val_limbs, val_limbs] at hX
  have HL6 := Lib.hid (All.cons hX.sl (HL5.out.below hB))
  have HB6 := Lib.hid (Below.steps HB5.out hB)
  clear hX hB HL5 HB5
  go_wp2_with fail
  refine (trim_new _ _ _ _ _ HL6.out.tail.tail.tail.tail.tail.tail.head).mono ?_
  rintro e w7 ⟨ta0, tan, tac, rfl, hX, hB⟩
  have HL7 := Lib.hid (All.cons hX.sl (HL6.out.below hB))
  have HB7 := Lib.hid (Below.steps HB6.out hB)
  clear hX hB HL6 HB6
  go_wp2_with fail
  refine (same_b _ _ _ _ _ _ _ _ _ HL7.out.tail.head HL7.out.head (by rw [Nat.mul_comm, Nat.div_add_mod])).mono ?_
  rintro e w8 ⟨rfl, hB⟩
  have HL8 := Lib.hid (HL7.out.below hB)
  have HB8 := Lib.hid (Below.steps HB7.out hB)
  clear hB HL7 HB7
  go_wp2_with fail
  refine (exact_any _ _ _ _ _ _ _ [1] _ (HL8.out.tail.tail.tail.tail.tail.tail.tail.head.alloc _) (lit_sl _ _ 1 _ rfl rfl _ rfl (wf1 (by omega)) (by simp)) (by decide) (by omega) (by rw [show val [1] = 1 from rfl, Nat.mod_one])).mono ?_
  rintro e w9 ⟨one0, onen, onec, rfl, hX, hB⟩
  rw [show val [1] = 1 from rfl, Nat.div_one] at hX
  have HL9 := Lib.hid (All.cons hX (HL8.out.below (step_alloc hB)))
  have HB9 := Lib.hid (Below.steps HB8.out (step_alloc hB))
  clear hX hB HL8 HB8
  go_wp2_with fail
  refine (trim_new _ _ _ _ _ HL9.out.tail.tail.tail.tail.tail.tail.tail.tail.head).mono ?_
  rintro e w10 ⟨tb0, tbn, tbc, rfl, hX, hB⟩
  have HL10 := Lib.hid (All.cons hX.sl (HL9.out.below hB))
  have HB10 := Lib.hid (Below.steps HB9.out hB)
  clear hX hB HL9 HB9
  go_wp2_with fail
  refine (same_b _ _ _ _ _ _ _ _ _ HL10.out.tail.head HL10.out.head rfl).mono ?_
  rintro e w11 ⟨rfl, hB⟩
  have HL11 := Lib.hid (HL10.out.below hB)
  have HB11 := Lib.hid (Below.steps HB10.out hB)
  clear hB HL10 HB10
  go_wp2_with fail
  refine (bits_is nb _ _ _ _ _ HL11.out.tail.tail.tail.tail.tail.tail.tail.tail.tail.head HNB.out).mono ?_
  rintro e w' ⟨rfl, rfl⟩
  go_wp2_with fail
  refine (exact_any _ _ _ _ _ _ _ _ _ HL11.out.tail.tail.tail.tail.tail.tail.tail.tail.tail.head HL11.out.tail.tail.tail.tail.tail.tail.tail.tail.tail.head HZ.out (by omega) (Nat.mod_self _)).mono ?_
  rintro e w12 ⟨self0, selfn, selfc, rfl, hX, hB⟩
  rw [Nat.div_self (Nat.pos_of_ne_zero HZ.out)] at hX
  have HL12 := Lib.hid (All.cons hX (HL11.out.below hB))
  have HB12 := Lib.hid (Below.steps HB11.out hB)
  clear hX hB HL11 HB11
  go_wp2_with fail
  refine (same_b _ _ _ _ _ _ _ [1] _ (HL12.out.head.alloc _) (lit_sl _ _ 1 _ rfl rfl _ rfl (wf1 (by omega)) (by simp)) (limbs_of 1 [1] (wf1 (by omega)) rfl rfl)).mono ?_
  rintro e w13 ⟨rfl, hB⟩
  have HL13 := Lib.hid (HL12.out.below (step_alloc hB))
  have HB13 := Lib.hid (Below.steps HB12.out (step_alloc hB))
  clear hB HL12 HB12
  go_wp2_with fail
  refine (dlimb_zero _ _ _ _).mono ?_
  rintro e w14 ⟨rfl, hB⟩
  have HL14 := Lib.hid (HL13.out.below hB)
  have HB14 := Lib.hid (Below.steps HB13.out hB)
  clear hB HL13 HB13
  go_wp2_with fail
  refine (small_any 0 _ (by omega)).mono ?_
  rintro e w15 ⟨sd0, sdn, sdc, rfl, hX, hB⟩
  have HL15 := Lib.hid (All.cons hX.sl (HL14.out.below hB))
  have HB15 := Lib.hid (Below.steps HB14.out hB)
  clear hX hB HL14 HB14
  go_wp2_with fail
  refine (ddiv_zero _ _ _ _ _ _ _ _ _ HL15.out.tail.tail.tail.tail.tail.tail.tail.tail.tail.tail.tail.head HL15.out.head (val_limbs 0)).mono ?_
  rintro e w16 ⟨rfl, hB⟩
  have HL16 := Lib.hid (HL15.out.below hB)
  have HB16 := Lib.hid (Below.steps HB15.out hB)
  clear hB HL15 HB15
  go_wp2_with fail
  refine (same_b _ _ _ _ _ _ [] [] _ (Sl.none _) (Sl.none _) rfl).mono ?_
  rintro e w17 ⟨rfl, hB⟩
  have HL17 := Lib.hid (HL16.out.below hB)
  have HB17 := Lib.hid (Below.steps HB16.out hB)
  clear hB HL16 HB16
  go_wp2_with fail
  refine (small_any 0 _ (by omega)).mono ?_
  rintro e w18 ⟨se0, sen, sec, rfl, hX, hB⟩
  have HL18 := Lib.hid (All.cons hX.sl (HL17.out.below hB))
  have HB18 := Lib.hid (Below.steps HB17.out hB)
  clear hX hB HL17 HB17
  go_wp2_with fail
  refine (same_b _ _ _ _ _ _ _ [] _ HL18.out.head (Sl.none _) rfl).mono ?_
  rintro e w19 ⟨rfl, hB⟩
  have HL19 := Lib.hid (HL18.out.below hB)
  have HB19 := Lib.hid (Below.steps HB18.out hB)
  clear hB HL18 HB18
  go_wp2_with fail
  refine (dknown_any _).mono ?_
  rintro e w' ⟨rfl, hB⟩
  go_wp2_with fail
  go_ret
  exact ⟨rfl, Below.steps HB19.out hB⟩

set_option maxHeartbeats 4000000 in
set_option maxRecDepth 100000 in
theorem divideShifts_zp (a0 : Option Addr) (la ca : Nat) (xs : List Nat) (n d : Nat) (w : World) (ha : Sl w a0 la ca xs) (hn : n < 65536) (hd : d < 4294967296) (h1 : la ≤ 200) (h2 : n ≤ 2000) (hz : val xs = 0) (hd0 : 0 < d) :
    Calls Try.prog 7 #[.slice a0 la ca, .int .u16 (n : Int), .int .u32 (d : Int)] w (True' w) := by
  have d1 : decide (200 < la) = false := by simp; omega
  have d2 : decide (2000 < n) = false := by simp; omega
  have HA : Hid (val xs < 4294967296 ^ 200) := val_small 200 ha.wf ha.len h1
  have H2 : Hid ((2 : Nat) ^ n ≠ 0) := Nat.pos_iff_ne_zero.1 (Nat.two_pow_pos n)
  have HM : Hid (val xs % 2 ^ n < 4294967296 ^ 200) := Nat.lt_of_le_of_lt (Nat.mod_le _ _) HA.out
  have HD : Hid (val xs / 2 ^ n * 2 ^ n < 4294967296 ^ 200) := Nat.lt_of_le_of_lt (Nat.div_mul_le_self _ _) HA.out
  have HD2 : Hid (val xs / 2 ^ n < 4294967296 ^ 200) := Nat.lt_of_le_of_lt (Nat.div_le_self _ _) HA.out
  obtain ⟨nb, hnb⟩ : ∃ nb, nb = nbits (val xs) := ⟨_, rfl⟩
  have HNB := Lib.hid hnb.symm
  obtain rfl : nb = 0 := by rw [hnb, hz]; rfl
  have HZ := Lib.hid hz
  clear hz hnb
  have HL0 := Lib.hid (All.cons ha (All.nil _))
  have HB0 := Lib.hid (Below.refl w.heap.size w)
  clear ha
  go_enter Try.func7, Try.ntmps7
  go_wp2_with fail
  refine (shl_any _ _ _ [1] n _ (lit_sl w _ 1 _ rfl rfl _ rfl (wf1 (by omega)) (by simp)) (by omega) (by omega)).mono ?_
  rintro e w1 ⟨by0, byn, byc, rfl, hX, hB⟩
  rw [show val [1] = 1 from rfl, Nat.one_mul] at hX
  have HL1 := Lib.hid (All.cons hX.sl (HL0.out.below (step_alloc hB)))
  have HB1 := Lib.hid (Below.steps HB0.out (step_alloc hB))
  clear hX hB HL0 HB0
  go_wp2_with fail
  refine (ddiv_any _ _ _ _ _ _ _ _ _ HL1.out.tail.head HL1.out.head (by rw [val_limbs]; exact H2.out) (by omega)).mono ?_
  rintro e w2 ⟨q0, qn, qc, rr0, rrn, rrc, rfl, hX, hY, hB⟩
  rw [val_limbs] at hX
  rw [val_limbs] at hY
  have hn_rr : rrn ≤ 200 := by rw [← hY.len]; exact limbs_len HM.out
  have HL2 := Lib.hid (All.cons hX (All.cons hY (HL1.out.below hB)))
  have HB2 := Lib.hid (Below.steps HB1.out hB)
  clear hX hY hB HL1 HB1
  go_wp2_with fail
  refine (shr_any _ _ _ _ n _ HL2.out.tail.tail.tail.head (by omega)).mono ?_
  rintro e w3 ⟨s0, sn, sc, rfl, hX, hB⟩
  have hn_s : sn ≤ 200 := by rw [← hX.len]; exact limbs_len HD2.out
  have HL3 := Lib.hid (All.cons hX.sl (HL2.out.below hB))
  have HB3 := Lib.hid (Below.steps HB2.out hB)
  clear hX hB HL2 HB2
  go_wp2_with fail
  refine (shl_any _ _ _ _ n _ HL3.out.head (by omega) (by omega)).mono ?_
  rintro e w4 ⟨bk0, bkn, bkc, rfl, hX, hB⟩
  rw [val_limbs] at hX
  have hn_bk : bkn ≤ 200 := by rw [← hX.len]; exact limbs_len HD.out
  have HL4 := Lib.hid (All.cons hX.sl (HL3.out.below hB))
  have HB4 := Lib.hid (Below.steps HB3.out hB)
  clear hX hB HL3 HB3
  go_wp2_with fail
  refine (same_b _ _ _ _ _ _ _ _ _ HL4.out.tail.tail.head HL4.out.tail.head rfl).mono ?_
  rintro e w5 ⟨rfl, hB⟩
  have HL5 := Lib.hid (HL4.out.below hB)
  have HB5 := Lib.hid (Below.steps HB4.out hB)
  clear hB HL4 HB4
  go_wp2_with fail
  refine (add_any _ _ _ _ _ _ _ _ _ HL5.out.head HL5.out.tail.tail.tail.head (by omega) (by omega)).mono ?_
  rintro e w6 ⟨t0, tn, tc, rfl, hX, hB⟩
  rw [val_limbs, val_limbs] at hX
  have HL6 := Lib.hid (All.cons hX.sl (HL5.out.below hB))
  have HB6 := Lib.hid (Below.steps HB5.out hB)
  clear hX hB HL5 HB5
  go_wp2_with fail
  refine (trim_new _ _ _ _ _ HL6.out.tail.tail.tail.tail.tail.tail.head).mono ?_
  rintro e w7 ⟨ta0, tan, tac, rfl, hX, hB⟩
  have HL7 := Lib.hid (All.cons hX.sl (HL6.out.below hB))
  have HB7 := Lib.hid (Below.steps HB6.out hB)
  clear hX hB HL6 HB6
  go_wp2_with fail
  refine (same_b _ _ _ _ _ _ _ _ _ HL7.out.tail.head HL7.out.head (by rw [Nat.mul_comm, Nat.div_add_mod])).mono ?_
  rintro e w8 ⟨rfl, hB⟩
  have HL8 := Lib.hid (HL7.out.below hB)
  have HB8 := Lib.hid (Below.steps HB7.out hB)
  clear hB HL7 HB7
  go_wp2_with fail
  refine (exact_any _ _ _ _ _ _ _ [1] _ (HL8.out.tail.tail.tail.tail.tail.tail.tail.head.alloc _) (lit_sl _ _ 1 _ rfl rfl _ rfl (wf1 (by omega)) (by simp)) (by decide) (by omega) (by rw [show val [1] = 1 from rfl, Nat.mod_one])).mono ?_
  rintro e w9 ⟨one0, onen, onec, rfl, hX, hB⟩
  rw [show val [1] = 1 from rfl, Nat.div_one] at hX
  have HL9 := Lib.hid (All.cons hX (HL8.out.below (step_alloc hB)))
  have HB9 := Lib.hid (Below.steps HB8.out (step_alloc hB))
  clear hX hB HL8 HB8
  go_wp2_with fail
  refine (trim_new _ _ _ _ _ HL9.out.tail.tail.tail.tail.tail.tail.tail.tail.head).mono ?_
  rintro e w10 ⟨tb0, tbn, tbc, rfl, hX, hB⟩
  have HL10 := Lib.hid (All.cons hX.sl (HL9.out.below hB))
  have HB10 := Lib.hid (Below.steps HB9.out hB)
  clear hX hB HL9 HB9
  go_wp2_with fail
  refine (same_b _ _ _ _ _ _ _ _ _ HL10.out.tail.head HL10.out.head rfl).mono ?_
  rintro e w11 ⟨rfl, hB⟩
  have HL11 := Lib.hid (HL10.out.below hB)
  have HB11 := Lib.hid (Below.steps HB10.out hB)
  clear hB HL10 HB10
  go_wp2_with fail
  refine (bits_is 0 _ _ _ _ _ HL11.out.tail.tail.tail.tail.tail.tail.tail.tail.tail.head HNB.out).mono ?_
  rintro e w' ⟨rfl, rfl⟩
  have HLB := Lib.hid (dlimb_any _ _ _ _ d _ HL11.out.tail.tail.tail.tail.tail.tail.tail.tail.tail.head (by omega) hd)
  go_wp2_with fail
  refine HLB.out.mono ?_
  rintro e w12 ⟨l0, ln, lc, rfl, hX, hB⟩
  obtain ⟨rl, hrl⟩ : ∃ r, r = val xs % d := ⟨_, rfl⟩
  rw [← hrl]
  have hrb : rl < d := by rw [hrl]; exact Nat.mod_lt _ (by omega)
  have HRL := Lib.hid hrl
  clear hrl HLB
  have HL12 := Lib.hid (All.cons hX (HL11.out.below hB))
  have HB12 := Lib.hid (Below.steps HB11.out hB)
  clear hX hB HL11 HB11
  go_wp2_with fail
  refine (small_any d _ (by omega)).mono ?_
  rintro e w13 ⟨sd0, sdn, sdc, rfl, hX, hB⟩
  have hn_sd : sdn ≤ 2 := by rw [← hX.len]; exact limbs_len (by omega)
  have HL13 := Lib.hid (All.cons hX.sl (HL12.out.below hB))
  have HB13 := Lib.hid (Below.steps HB12.out hB)
  clear hX hB HL12 HB12
  go_wp2_with fail
  refine (ddiv_any _ _ _ _ _ _ _ _ _ HL13.out.tail.tail.tail.tail.tail.tail.tail.tail.tail.tail.tail.head HL13.out.head (by rw [val_limbs]; omega) (by omega)).mono ?_
  rintro e w14 ⟨p0, pn, pc, r20, r2n, r2c, rfl, hX, hY, hB⟩
  rw [val_limbs] at hX
  rw [val_limbs, ← HRL.out] at hY
  have HL14 := Lib.hid (All.cons hX (All.cons hY (HL13.out.below hB)))
  have HB14 := Lib.hid (Below.steps HB13.out hB)
  clear hX hY hB HL13 HB13
  go_wp2_with fail
  refine (same_b _ _ _ _ _ _ _ _ _ HL14.out.tail.tail.tail.head HL14.out.head rfl).mono ?_
  rintro e w15 ⟨rfl, hB⟩
  have HL15 := Lib.hid (HL14.out.below hB)
  have HB15 := Lib.hid (Below.steps HB14.out hB)
  clear hB HL14 HB14
  go_wp2_with fail
  refine (small_any rl _ (by omega)).mono ?_
  rintro e w16 ⟨se0, sen, sec, rfl, hX, hB⟩
  have HL16 := Lib.hid (All.cons hX.sl (HL15.out.below hB))
  have HB16 := Lib.hid (Below.steps HB15.out hB)
  clear hX hB HL15 HB15
  go_wp2_with fail
  refine (same_b _ _ _ _ _ _ _ _ _ HL16.out.head HL16.out.tail.tail.head rfl).mono ?_
  rintro e w17 ⟨rfl, hB⟩
  have HL17 := Lib.hid (HL16.out.below hB)
  have HB17 := Lib.hid (Below.steps HB16.out hB)
  clear hB HL16 HB16
  go_wp2_with fail
  refine (dknown_any _).mono ?_
  rintro e w' ⟨rfl, hB⟩
  go_wp2_with fail
  go_ret
  exact ⟨rfl, Below.steps HB17.out hB⟩

set_option maxHeartbeats 4000000 in
set_option maxRecDepth 100000 in
theorem divideShifts_pp (a0 : Option Addr) (la ca : Nat) (xs : List Nat) (n d : Nat) (w : World) (ha : Sl w a0 la ca xs) (hn : n < 65536) (hd : d < 4294967296) (h1 : la ≤ 200) (h2 : n ≤ 2000) (hz : val xs ≠ 0) (hd0 : 0 < d) :
    Calls Try.prog 7 #[.slice a0 la ca, .int .u16 (n : Int), .int .u32 (d : Int)] w (True' w) := by
  have d1 : decide (200 < la) = false := by simp; omega
  have d2 : decide (2000 < n) = false := by simp; omega
  have HA : Hid (val xs < 4294967296 ^ 200) := val_small 200 ha.wf ha.len h1
  have H2 : Hid ((2 : Nat) ^ n ≠ 0) := Nat.pos_iff_ne_zero.1 (Nat.two_pow_pos n)
  have HM : Hid (val xs % 2 ^ n < 4294967296 ^ 200) := Nat.lt_of_le_of_lt (Nat.mod_le _ _) HA.out
  have HD : Hid (val xs / 2 ^ n * 2 ^ n < 4294967296 ^ 200) := Nat.lt_of_le_of_lt (Nat.div_mul_le_self _ _) HA.out
  have HD2 : Hid (val xs / 2 ^ n < 4294967296 ^ 200) := Nat.lt_of_le_of_lt (Nat.div_le_self _ _) HA.out
  obtain ⟨nb, hnb⟩ : ∃ nb, nb = nbits (val xs) := ⟨_, rfl⟩
  have HNB := Lib.hid hnb.symm
  have hnz : nb ≠ 0 := by rw [hnb]; exact fun e => hz (nbits_eq_zero.1 e)
  have HZ := Lib.hid hz
  clear hz hnb
  have HL0 := Lib.hid (All.cons ha (All.nil _))
  have HB0 := Lib.hid (Below.refl w.heap.size w)
  clear ha
  go_enter Try.func7, Try.ntmps7
  go_wp2_with fail
  refine (shl_any _ _ _ [1] n _ (lit_sl w _ 1 _ rfl rfl _ rfl (wf1 (by omega)) (by simp)) (by omega) (by omega)).mono ?_
  rintro e w1 ⟨by0, byn, byc, rfl, hX, hB⟩
  rw [show val [1] = 1 from rfl, Nat.one_mul] at hX
  have HL1 := Lib.hid (All.cons hX.sl (HL0.out.below (step_alloc hB)))
  have HB1 := Lib.hid (Below.steps HB0.out (step_alloc hB))
  clear hX hB HL0 HB0
  go_wp2_with fail
  refine (ddiv_any _ _ _ _ _ _ _ _ _ HL1.out.tail.head HL1.out.head (by rw [val_limbs]; exact H2.out) (by omega)).mono ?_
  rintro e w2 ⟨q0, qn, qc, rr0, rrn, rrc, rfl, hX, hY, hB⟩
  rw [val_limbs] at hX
  rw [val_limbs] at hY
  have hn_rr : rrn ≤ 200 := by rw [← hY.len]; exact limbs_len HM.out
  have HL2 := Lib.hid (All.cons hX (All.cons hY (HL1.out.below hB)))
  have HB2 := Lib.hid (Below.steps HB1.out hB)
  clear hX hY hB HL1 HB1
  go_wp2_with fail
  refine (shr_any _ _ _ _ n _ HL2.out.tail.tail.tail.head (by omega)).mono ?_
  rintro e w3 ⟨s0, sn, sc, rfl, hX, hB⟩
  have hn_s : sn ≤ 200 := by rw [← hX.len]; exact limbs_len HD2.out
  have HL3 := Lib.hid (All.cons hX.sl (HL2.out.below hB))
  have HB3 := Lib.hid (Below.steps HB2.out hB)
  clear hX hB HL2 HB2
  go_wp2_with fail
  refine (shl_any _ _ _ _ n _ HL3.out.head (by omega) (by omega)).mono ?_
  rintro e w4 ⟨bk0, bkn, bkc, rfl, hX, hB⟩
  rw [val_limbs] at hX
  have hn_bk : bkn ≤ 200 := by rw [← hX.len]; exact limbs_len HD.out
  have HL4 := Lib.hid (All.cons hX.sl (HL3.out.below hB))
  have HB4 := Lib.hid (Below.steps HB3.out hB)
  clear hX hB HL3 HB3
  go_wp2_with fail
  refine (same_b _ _ _ _ _ _ _ _ _ HL4.out.tail.tail.head HL4.out.tail.head rfl).mono ?_
  rintro e w5 ⟨rfl, hB⟩
  have HL5 := Lib.hid (HL4.out.below hB)
  have HB5 := Lib.hid (Below.steps HB4.out hB)
  clear hB HL4 HB4
  go_wp2_with fail
  refine (add_any _ _ _ _ _ _ _ _ _ HL5.out.head HL5.out.tail.tail.tail.head (by omega) (by omega)).mono ?_
  rintro e w6 ⟨t0, tn, tc, rfl, hX, hB⟩
  rw [val_limbs, val_limbs] at hX
  have HL6 := Lib.hid (All.cons hX.sl (HL5.out.below hB))
  have HB6 := Lib.hid (Below.steps HB5.out hB)
  clear hX hB HL5 HB5
  go_wp2_with fail
  refine (trim_new _ _ _ _ _ HL6.out.tail.tail.tail.tail.tail.tail.head).mono ?_
  rintro e w7 ⟨ta0, tan, tac, rfl, hX, hB⟩
  have HL7 := Lib.hid (All.cons hX.sl (HL6.out.below hB))
  have HB7 := Lib.hid (Below.steps HB6.out hB)
  clear hX hB HL6 HB6
  go_wp2_with fail
  refine (same_b _ _ _ _ _ _ _ _ _ HL7.out.tail.head HL7.out.head (by rw [Nat.mul_comm, Nat.div_add_mod])).mono ?_
  rintro e w8 ⟨rfl, hB⟩
  have HL8 := Lib.hid (HL7.out.below hB)
  have HB8 := Lib.hid (Below.steps HB7.out hB)
  clear hB HL7 HB7
  go_wp2_with fail
  refine (exact_any _ _ _ _ _ _ _ [1] _ (HL8.out.tail.tail.tail.tail.tail.tail.tail.head.alloc _) (lit_sl _ _ 1 _ rfl rfl _ rfl (wf1 (by omega)) (by simp)) (by decide) (by omega) (by rw [show val [1] = 1 from rfl, Nat.mod_one])).mono ?_
  rintro e w9 ⟨one0, onen, onec, rfl, hX, hB⟩
  rw [show val [1] = 1 from rfl, Nat.div_one] at hX
  have HL9 := Lib.hid (All.cons hX (HL8.out.below (step_alloc hB)))
  have HB9 := Lib.hid (Below.steps HB8.out (step_alloc hB))
  clear hX hB HL8 HB8
  go_wp2_with fail
  refine (trim_new _ _ _ _ _ HL9.out.tail.tail.tail.tail.tail.tail.tail.tail.head).mono ?_
  rintro e w10 ⟨tb0, tbn, tbc, rfl, hX, hB⟩
  have HL10 := Lib.hid (All.cons hX.sl (HL9.out.below hB))
  have HB10 := Lib.hid (Below.steps HB9.out hB)
  clear hX hB HL9 HB9
  go_wp2_with fail
  refine (same_b _ _ _ _ _ _ _ _ _ HL10.out.tail.head HL10.out.head rfl).mono ?_
  rintro e w11 ⟨rfl, hB⟩
  have HL11 := Lib.hid (HL10.out.below hB)
  have HB11 := Lib.hid (Below.steps HB10.out hB)
  clear hB HL10 HB10
  go_wp2_with fail
  refine (bits_is nb _ _ _ _ _ HL11.out.tail.tail.tail.tail.tail.tail.tail.tail.tail.head HNB.out).mono ?_
  rintro e w' ⟨rfl, rfl⟩
  go_wp2_with fail
  refine (exact_any _ _ _ _ _ _ _ _ _ HL11.out.tail.tail.tail.tail.tail.tail.tail.tail.tail.head HL11.out.tail.tail.tail.tail.tail.tail.tail.tail.tail.head HZ.out (by omega) (Nat.mod_self _)).mono ?_
  rintro e w12 ⟨self0, selfn, selfc, rfl, hX, hB⟩
  rw [Nat.div_self (Nat.pos_of_ne_zero HZ.out)] at hX
  have HL12 := Lib.hid (All.cons hX (HL11.out.below hB))
  have HB12 := Lib.hid (Below.steps HB11.out hB)
  clear hX hB HL11 HB11
  go_wp2_with fail
  refine (same_b _ _ _ _ _ _ _ [1] _ (HL12.out.head.alloc _) (lit_sl _ _ 1 _ rfl rfl _ rfl (wf1 (by omega)) (by simp)) (limbs_of 1 [1] (wf1 (by omega)) rfl rfl)).mono ?_
  rintro e w13 ⟨rfl, hB⟩
  have HL13 := Lib.hid (HL12.out.below (step_alloc hB))
  have HB13 := Lib.hid (Below.steps HB12.out (step_alloc hB))
  clear hB HL12 HB12
  have HLB := Lib.hid (dlimb_any _ _ _ _ d _ HL13.out.tail.tail.tail.tail.tail.tail.tail.tail.tail.tail.head (by omega) hd)
  go_wp2_with fail
  refine HLB.out.mono ?_
  rintro e w14 ⟨l0, ln, lc, rfl, hX, hB⟩
  obtain ⟨rl, hrl⟩ : ∃ r, r = val xs % d := ⟨_, rfl⟩
  rw [← hrl]
  have hrb : rl < d := by rw [hrl]; exact Nat.mod_lt _ (by omega)
  have HRL := Lib.hid hrl
  clear hrl HLB
  have HL14 := Lib.hid (All.cons hX (HL13.out.below hB))
  have HB14 := Lib.hid (Below.steps HB13.out hB)
  clear hX hB HL13 HB13
  go_wp2_with fail
  refine (small_any d _ (by omega)).mono ?_
  rintro e w15 ⟨sd0, sdn, sdc, rfl, hX, hB⟩
  have hn_sd : sdn ≤ 2 := by rw [← hX.len]; exact limbs_len (by omega)
  have HL15 := Lib.hid (All.cons hX.sl (HL14.out.below hB))
  have HB15 := Lib.hid (Below.steps HB14.out hB)
  clear hX hB HL14 HB14
  go_wp2_with fail
  refine (ddiv_any _ _ _ _ _ _ _ _ _ HL15.out.tail.tail.tail.tail.tail.tail.tail.tail.tail.tail.tail.tail.head HL15.out.head (by rw [val_limbs]; omega) (by omega)).mono ?_
  rintro e w16 ⟨p0, pn, pc, r20, r2n, r2c, rfl, hX, hY, hB⟩
  rw [val_limbs] at hX
  rw [val_limbs, ← HRL.out] at hY
  have HL16 := Lib.hid (All.cons hX (All.cons hY (HL15.out.below hB)))
  have HB16 := Lib.hid (Below.steps HB15.out hB)
  clear hX hY hB HL15 HB15
  go_wp2_with fail
  refine (same_b _ _ _ _ _ _ _ _ _ HL16.out.tail.tail.tail.head HL16.out.head rfl).mono ?_
  rintro e w17 ⟨rfl, hB⟩
  have HL17 := Lib.hid (HL16.out.below hB)
  have HB17 := Lib.hid (Below.steps HB16.out hB)
  clear hB HL16 HB16
  go_wp2_with fail
  refine (small_any rl _ (by omega)).mono ?_
  rintro e w18 ⟨se0, sen, sec, rfl, hX, hB⟩
  have HL18 := Lib.hid (All.cons hX.sl (HL17.out.below hB))
  have HB18 := Lib.hid (Below.steps HB17.out hB)
  clear hX hB HL17 HB17
  go_wp2_with fail
  refine (same_b _ _ _ _ _ _ _ _ _ HL18.out.head HL18.out.tail.tail.head rfl).mono ?_
  rintro e w19 ⟨rfl, hB⟩
  have HL19 := Lib.hid (HL18.out.below hB)
  have HB19 := Lib.hid (Below.steps HB18.out hB)
  clear hB HL18 HB18
  go_wp2_with fail
  refine (dknown_any _).mono ?_
  rintro e w' ⟨rfl, hB⟩
  go_wp2_with fail
  go_ret
  exact ⟨rfl, Below.steps HB19.out hB⟩

theorem divideShifts_any (a0 : Option Addr) (la ca : Nat) (xs : List Nat) (n d : Nat) (w : World) (ha : Sl w a0 la ca xs) (hn : n < 65536) (hd : d < 4294967296) :
    Calls Try.prog 7 #[.slice a0 la ca, .int .u16 (n : Int), .int .u32 (d : Int)] w (True' w) := by
  by_cases h : 200 < la ∨ 2000 < n
  · exact divideShifts_long _ _ _ _ _ _ _ ha hn hd h
  · rcases Nat.eq_zero_or_pos d with h0 | h0
    · subst h0
      by_cases hz : val xs = 0
      · exact divideShifts_zz _ _ _ _ _ _ ha hn (by omega) (by omega) hz
      · exact divideShifts_pz _ _ _ _ _ _ ha hn (by omega) (by omega) hz
    · by_cases hz : val xs = 0
      · exact divideShifts_zp _ _ _ _ _ _ _ ha hn hd (by omega) (by omega) hz h0
      · exact divideShifts_pp _ _ _ _ _ _ _ ha hn hd (by omega) (by omega) hz h0

theorem divideShifts_int (a0 : Option Addr) (la ca : Nat) (xs : List Nat) (n d : Int) (w : World) (ha : Sl w a0 la ca xs) (hn : 0 ≤ n ∧ n < 65536) (hd : 0 ≤ d ∧ d < 4294967296) :
    Calls Try.prog 7 #[.slice a0 la ca, .int .u16 n, .int .u32 d] w (True' w) := by
  obtain ⟨n, rfl⟩ := Int.eq_ofNat_of_zero_le hn.1
  obtain ⟨d, rfl⟩ := Int.eq_ofNat_of_zero_le hd.1
  exact divideShifts_any _ _ _ _ _ _ _ ha (by omega) (by omega)

end Go.Proofs.Ytgdcbpapdiohfaa

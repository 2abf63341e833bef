/-
  The walk of the law DivideBack.
-/
import Derived.Test.YtgdcbpapdiohfaaDivideMakes
namespace Go.Proofs.Ytgdcbpapdiohfaa
open Go.RowKit

set_option maxHeartbeats 1000000 in
set_option maxRecDepth 100000 in
theorem divideBack_long (a0 b0 c0 : Option Addr) (la ca lb cb lc cc : Nat) (xs ys zs : List Nat) (w : World) (ha : Sl w a0 la ca xs) (hb : Sl w b0 lb cb ys) (hc : Sl w c0 lc cc zs) (h : 120 < la ∨ 120 < lb ∨ 120 < lc) :
    Calls Try.prog 4 #[.slice a0 la ca, .slice b0 lb cb, .slice c0 lc cc] w (True' w) := by
  have b_ha := ha.big
  have b_hb := hb.big
  have b_hc := hc.big
  by_cases h0 : 120 < la
  · go_enter Try.func4, Try.ntmps4
    go_wp2_with fail
    refine (dknown_any _).mono ?_
    rintro e w' ⟨rfl, hB⟩
    go_wp2_with fail
    go_ret
    exact ⟨rfl, hB⟩
  · skip
    by_cases h1 : 120 < lb
    · have d0 : decide (120 < la) = false := by simp; omega
      go_enter Try.func4, Try.ntmps4
      go_wp2_with fail
      refine (dknown_any _).mono ?_
      rintro e w' ⟨rfl, hB⟩
      go_wp2_with fail
      go_ret
      exact ⟨rfl, hB⟩
    · skip
      have h2 : 120 < lc := by omega
      have d0 : decide (120 < la) = false := by simp; omega
      have d1 : decide (120 < lb) = false := by simp; omega
      go_enter Try.func4, Try.ntmps4
      go_wp2_with fail
      refine (dknown_any _).mono ?_
      rintro e w' ⟨rfl, hB⟩
      go_wp2_with fail
      go_ret
      exact ⟨rfl, hB⟩

set_option maxHeartbeats 4000000 in
set_option maxRecDepth 100000 in
theorem divideBack_zero (a0 b0 c0 : Option Addr) (la ca lb cb lc cc : Nat) (xs ys zs : List Nat) (w : World) (_ : Sl w a0 la ca xs) (hb : Sl w b0 lb cb ys) (_ : Sl w c0 lc cc zs) (ka : la ≤ 120) (kb : lb ≤ 120) (kc : lc ≤ 120) (h0 : val ys = 0) :
    Calls Try.prog 4 #[.slice a0 la ca, .slice b0 lb cb, .slice c0 lc cc] w (True' w) := by
  have d0 : decide (120 < la) = false := by simp; omega
  have d1 : decide (120 < lb) = false := by simp; omega
  have d2 : decide (120 < lc) = false := by simp; omega
  go_enter Try.func4, Try.ntmps4
  go_wp2_with fail
  refine (bits_is 0 _ _ _ _ _ hb (by rw [h0]; rfl)).mono ?_
  rintro e w' ⟨rfl, rfl⟩
  go_wp2_with fail
  refine (dknown_any _).mono ?_
  rintro e w' ⟨rfl, hB⟩
  go_wp2_with fail
  go_ret
  exact ⟨rfl, hB⟩

set_option maxHeartbeats 4000000 in
set_option maxRecDepth 100000 in
theorem divideBack_short (a0 b0 c0 : Option Addr) (la ca lb cb lc cc : Nat) (xs ys zs : List Nat) (w : World) (ha : Sl w a0 la ca xs) (hb : Sl w b0 lb cb ys) (hc : Sl w c0 lc cc zs) (h1 : la ≤ 120) (h2 : lb ≤ 120) (h3 : lc ≤ 120) (h0 : val ys ≠ 0) :
    Calls Try.prog 4 #[.slice a0 la ca, .slice b0 lb cb, .slice c0 lc cc] w (True' w) := by
  have d1 : decide (120 < la) = false := by simp; omega
  have d2 : decide (120 < lb) = false := by simp; omega
  have d3 : decide (120 < lc) = false := by simp; omega
  have HA : Hid (val xs < 4294967296 ^ 120) := val_small 120 ha.wf ha.len h1
  have HBB : Hid (val ys < 4294967296 ^ 120) := val_small 120 hb.wf hb.len h2
  have H0 := Lib.hid h0
  have HP : Hid (0 < val ys) := by rw [Hid]; omega
  obtain ⟨nb, hnb⟩ : ∃ nb, nb = nbits (val ys) := ⟨_, rfl⟩
  have hq := nbits_ne hnb.symm h0
  have HNB := Lib.hid hnb.symm
  have HM : Hid (val zs % val ys < val ys) := Nat.mod_lt _ (by omega)
  clear h0 hnb
  have HL0 := Lib.hid (All.cons ha (All.cons hb (All.cons hc (All.nil _))))
  have HB0 := Lib.hid (Below.refl w.heap.size w)
  clear ha hb hc
  go_enter Try.func4, Try.ntmps4
  go_wp2_with fail
  refine (bits_is nb _ _ _ _ _ HL0.out.tail.head HNB.out).mono ?_
  rintro e w' ⟨rfl, rfl⟩
  go_wp2_with fail
  refine (mul_any _ _ _ _ _ _ _ _ _ HL0.out.head HL0.out.tail.head (by omega) (by omega)).mono ?_
  rintro e w1 ⟨p0, pn, pc, rfl, hX, hB⟩
  have hn_p : pn ≤ 240 := by rw [← hX.len]; exact limbs_len (mul_lt_pow HA.out HBB.out)
  have HL1 := Lib.hid (All.cons hX.sl (HL0.out.below hB))
  have HB1 := Lib.hid (Below.steps HB0.out hB)
  clear hX hB HL0 HB0
  go_wp2_with fail
  refine (exact_any _ _ _ _ _ _ _ _ _ HL1.out.head HL1.out.tail.tail.head H0.out (by omega) (by rw [val_limbs]; exact Nat.mul_mod_left _ _)).mono ?_
  rintro e w2 ⟨q0, qn, qc, rfl, hX, hB⟩
  rw [val_limbs, Nat.mul_div_cancel _ HP.out] at hX
  have HL2 := Lib.hid (All.cons hX (HL1.out.below hB))
  have HB2 := Lib.hid (Below.steps HB1.out hB)
  clear hX hB HL1 HB1
  go_wp2_with fail
  refine (ddiv_any _ _ _ _ _ _ _ _ _ HL2.out.tail.tail.tail.tail.head HL2.out.tail.tail.tail.head H0.out (by omega)).mono ?_
  rintro e w3 ⟨u0, un, uc, rs0, rsn, rsc, rfl, hX, hY, hB⟩
  have hn_rs : rsn ≤ 120 := by rw [← hY.len]; exact limbs_len (Nat.lt_trans HM.out HBB.out)
  have HL3 := Lib.hid (All.cons hX (All.cons hY (HL2.out.below hB)))
  have HB3 := Lib.hid (Below.steps HB2.out hB)
  clear hX hY hB HL2 HB2
  go_wp2_with fail
  refine (trim_new _ _ _ _ _ HL3.out.tail.tail.tail.tail.head).mono ?_
  rintro e w4 ⟨t0, tn, tc, rfl, hX, hB⟩
  have HL4 := Lib.hid (All.cons hX.sl (HL3.out.below hB))
  have HB4 := Lib.hid (Below.steps HB3.out hB)
  clear hX hB HL3 HB3
  go_wp2_with fail
  refine (same_b _ _ _ _ _ _ _ _ _ HL4.out.tail.tail.tail.head HL4.out.head rfl).mono ?_
  rintro e w5 ⟨rfl, hB⟩
  have HL5 := Lib.hid (HL4.out.below hB)
  have HB5 := Lib.hid (Below.steps HB4.out hB)
  clear hB HL4 HB4
  go_wp2_with fail
  refine (cmp_b (-1) _ _ _ _ _ _ _ _ _ HL5.out.tail.tail.head HL5.out.tail.tail.tail.tail.tail.tail.head (by rw [Hid, val_limbs]; exact cmpN_lt HM.out)).mono ?_
  rintro e w6 ⟨rfl, hB⟩
  have HL6 := Lib.hid (HL5.out.below hB)
  have HB6 := Lib.hid (Below.steps HB5.out hB)
  clear hB HL5 HB5
  go_wp2_with fail
  refine (add_any _ _ _ _ _ _ _ _ _ HL6.out.tail.tail.tail.tail.head HL6.out.tail.tail.head (by omega) (by omega)).mono ?_
  rintro e w7 ⟨s0, sn, sc, rfl, hX, hB⟩
  rw [val_limbs, val_limbs] at hX
  have hn_s : sn ≤ 241 := by rw [← hX.len]; exact limbs_len (n := val xs * val ys + val zs % val ys) (k := 241) (sum_lt (mul_lt_pow HA.out HBB.out) (lt_pow_mono (Nat.lt_trans HM.out HBB.out) (by omega)))
  have HL7 := Lib.hid (All.cons hX.sl (HL6.out.below hB))
  have HB7 := Lib.hid (Below.steps HB6.out hB)
  clear hX hB HL6 HB6
  go_wp2_with fail
  refine (ddiv_any _ _ _ _ _ _ _ _ _ HL7.out.head HL7.out.tail.tail.tail.tail.tail.tail.tail.head H0.out (by omega)).mono ?_
  rintro e w8 ⟨v0, vn, vc, rr0, rrn, rrc, rfl, hX, hY, hB⟩
  rw [val_limbs, Nat.mul_comm, Nat.mul_add_div HP.out, Nat.div_eq_of_lt HM.out, Nat.add_zero] at hX
  rw [val_limbs, Nat.mul_comm, Nat.mul_add_mod, Nat.mod_eq_of_lt HM.out] at hY
  have HL8 := Lib.hid (All.cons hX (All.cons hY (HL7.out.below hB)))
  have HB8 := Lib.hid (Below.steps HB7.out hB)
  clear hX hY hB HL7 HB7
  go_wp2_with fail
  refine (trim_new _ _ _ _ _ HL8.out.tail.tail.tail.tail.tail.tail.tail.tail.head).mono ?_
  rintro e w9 ⟨t20, t2n, t2c, rfl, hX, hB⟩
  have HL9 := Lib.hid (All.cons hX.sl (HL8.out.below hB))
  have HB9 := Lib.hid (Below.steps HB8.out hB)
  clear hX hB HL8 HB8
  go_wp2_with fail
  refine (same_b _ _ _ _ _ _ _ _ _ HL9.out.tail.head HL9.out.head rfl).mono ?_
  rintro e w10 ⟨rfl, hB⟩
  have HL10 := Lib.hid (HL9.out.below hB)
  have HB10 := Lib.hid (Below.steps HB9.out hB)
  clear hB HL9 HB9
  go_wp2_with fail
  refine (same_b _ _ _ _ _ _ _ _ _ HL10.out.tail.tail.head HL10.out.tail.tail.tail.tail.tail.tail.head rfl).mono ?_
  rintro e w11 ⟨rfl, hB⟩
  have HL11 := Lib.hid (HL10.out.below hB)
  have HB11 := Lib.hid (Below.steps HB10.out hB)
  clear hB HL10 HB10
  go_wp2_with fail
  refine (dknown_any _).mono ?_
  rintro e w' ⟨rfl, hB⟩
  go_wp2_with fail
  go_ret
  exact ⟨rfl, Below.steps HB11.out hB⟩

theorem divideBack_any (a0 b0 c0 : Option Addr) (la ca lb cb lc cc : Nat) (xs ys zs : List Nat) (w : World) (ha : Sl w a0 la ca xs) (hb : Sl w b0 lb cb ys) (hc : Sl w c0 lc cc zs) :
    Calls Try.prog 4 #[.slice a0 la ca, .slice b0 lb cb, .slice c0 lc cc] w (True' w) := by
  by_cases h : 120 < la ∨ 120 < lb ∨ 120 < lc
  · exact divideBack_long _ _ _ _ _ _ _ _ _ _ _ _ _ ha hb hc h
  · by_cases h0 : val ys = 0
    · exact divideBack_zero _ _ _ _ _ _ _ _ _ _ _ _ _ ha hb hc (by omega) (by omega) (by omega) h0
    · exact divideBack_short _ _ _ _ _ _ _ _ _ _ _ _ _ ha hb hc (by omega) (by omega) (by omega) h0

end Go.Proofs.Ytgdcbpapdiohfaa

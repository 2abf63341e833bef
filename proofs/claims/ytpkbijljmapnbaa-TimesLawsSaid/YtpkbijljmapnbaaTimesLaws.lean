/-
  The walk of the law TimesLaws.
-/
import Derived.Test.YtpkbijljmapnbaaTKnown
import Derived.Test.YtpkbijljmapnbaaGNatA
import Derived.Test.YtpkbijljmapnbaaGNatB
namespace Go.Proofs.Ytpkbijljmapnbaa
open Go.RowKit

theorem nbits_mul {a b : Nat} (ha : a ≠ 0) (hb : b ≠ 0) : nbits (a * b) = nbits a + nbits b ∨ nbits (a * b) + 1 = nbits a + nbits b := by
  obtain ⟨i, e1, h1, h2⟩ := nbits_pos ha
  obtain ⟨j, e2, h3, h4⟩ := nbits_pos hb
  have h5 : 2 ^ (i + j) ≤ a * b := by rw [Nat.pow_add]; exact Nat.mul_le_mul h1 h3
  have h6 : a * b < 2 ^ (i + j + 1 + 1) := by
    have : 2 ^ (i + j + 1 + 1) = 2 ^ (i + 1) * 2 ^ (j + 1) := by rw [← Nat.pow_add]; congr 1; omega
    rw [this]; exact Nat.mul_lt_mul'' h2 h4
  rcases Nat.lt_or_ge (a * b) (2 ^ (i + j + 1)) with h | h
  · right; rw [nbits_of h5 h, e1, e2]; omega
  · left; rw [nbits_of h h6, e1, e2]; omega

set_option maxHeartbeats 1000000 in
theorem timesLaws_long (a0 b0 c0 : Option Addr) (la ca lb cb lc cc : Nat) (xs ys zs : List Nat) (w : World) (ha : Sl w a0 la ca xs) (hb : Sl w b0 lb cb ys) (hc : Sl w c0 lc cc zs) (h : 100 < la ∨ 100 < lb ∨ 100 < lc) :
    Calls Try.prog 5 #[.slice a0 la ca, .slice b0 lb cb, .slice c0 lc cc] w (True' w) := by
  have b_ha := ha.big
  have b_hb := hb.big
  have b_hc := hc.big
  by_cases h0 : 100 < la
  · go_enter Try.func5, Try.ntmps5
    go_wp2_with fail
    refine (tknown_any _).mono ?_
    rintro e w' ⟨rfl, hB⟩
    go_wp2_with fail
    go_ret
    exact ⟨rfl, hB⟩
  · skip
    by_cases h1 : 100 < lb
    · have d0 : decide (100 < la) = false := by simp; omega
      go_enter Try.func5, Try.ntmps5
      go_wp2_with fail
      refine (tknown_any _).mono ?_
      rintro e w' ⟨rfl, hB⟩
      go_wp2_with fail
      go_ret
      exact ⟨rfl, hB⟩
    · skip
      have h2 : 100 < lc := by omega
      have d0 : decide (100 < la) = false := by simp; omega
      have d1 : decide (100 < lb) = false := by simp; omega
      go_enter Try.func5, Try.ntmps5
      go_wp2_with fail
      refine (tknown_any _).mono ?_
      rintro e w' ⟨rfl, hB⟩
      go_wp2_with fail
      go_ret
      exact ⟨rfl, hB⟩

set_option maxHeartbeats 4000000 in
set_option maxRecDepth 100000 in
theorem timesLaws_zero (a0 b0 c0 : Option Addr) (la ca lb cb lc cc : Nat) (xs ys zs : List Nat) (w : World) (ha : Sl w a0 la ca xs) (hb : Sl w b0 lb cb ys) (hc : Sl w c0 lc cc zs) (h1 : la ≤ 100) (h2 : lb ≤ 100) (h3 : lc ≤ 100) (hz : val xs = 0 ∨ val ys = 0) :
    Calls Try.prog 5 #[.slice a0 la ca, .slice b0 lb cb, .slice c0 lc cc] w (True' w) := by
  have d1 : decide (100 < la) = false := by simp; omega
  have d2 : decide (100 < lb) = false := by simp; omega
  have d3 : decide (100 < lc) = false := by simp; omega
  have HA : Hid (val xs < 4294967296 ^ 100) := val_small 100 ha.wf ha.len h1
  have HBB : Hid (val ys < 4294967296 ^ 100) := val_small 100 hb.wf hb.len h2
  have HC : Hid (val zs < 4294967296 ^ 100) := val_small 100 hc.wf hc.len h3
  have HZ := Lib.hid hz
  clear hz
  have HL0 := Lib.hid (All.cons ha (All.cons hb (All.cons hc (All.nil _))))
  have HB0 := Lib.hid (Below.refl w.heap.size w)
  clear ha hb hc
  go_enter Try.func5, Try.ntmps5
  go_wp2_with fail
  refine (mul_any _ _ _ _ _ _ _ _ _ HL0.out.head HL0.out.tail.head (by omega) (by omega)).mono ?_
  rintro e w1 ⟨ab0, abn, abc, rfl, hX, hB⟩
  have hn_ab : abn ≤ 200 := by rw [← hX.len]; exact limbs_len (mul_lt_pow HA.out HBB.out)
  have HL1 := Lib.hid (All.cons hX.sl (HL0.out.below hB))
  have HB1 := Lib.hid (Below.steps HB0.out hB)
  clear hX hB HL0 HB0
  go_wp2_with fail
  refine (add_any _ _ _ _ _ _ _ _ _ HL1.out.tail.tail.head HL1.out.tail.tail.tail.head (by omega) (by omega)).mono ?_
  rintro e w2 ⟨s0, sn, sc, rfl, hX, hB⟩
  have hn_s : sn ≤ 101 := by rw [← hX.len]; exact limbs_len (sum_lt HBB.out HC.out)
  have HL2 := Lib.hid (All.cons hX.sl (HL1.out.below hB))
  have HB2 := Lib.hid (Below.steps HB1.out hB)
  clear hX hB HL1 HB1
  go_wp2_with fail
  refine (mul_any _ _ _ _ _ _ _ _ _ HL2.out.tail.tail.head HL2.out.head (by omega) (by omega)).mono ?_
  rintro e w3 ⟨as0, asn, asc, rfl, hX, hB⟩
  rw [val_limbs] at hX
  have HL3 := Lib.hid (All.cons hX.sl (HL2.out.below hB))
  have HB3 := Lib.hid (Below.steps HB2.out hB)
  clear hX hB HL2 HB2
  go_wp2_with fail
  refine (mul_any _ _ _ _ _ _ _ _ _ HL3.out.tail.tail.tail.head HL3.out.tail.tail.tail.tail.tail.head (by omega) (by omega)).mono ?_
  rintro e w4 ⟨ac0, acn, acc, rfl, hX, hB⟩
  have hn_ac : acn ≤ 200 := by rw [← hX.len]; exact limbs_len (mul_lt_pow HA.out HC.out)
  have HL4 := Lib.hid (All.cons hX.sl (HL3.out.below hB))
  have HB4 := Lib.hid (Below.steps HB3.out hB)
  clear hX hB HL3 HB3
  go_wp2_with fail
  refine (add_any _ _ _ _ _ _ _ _ _ HL4.out.tail.tail.tail.head HL4.out.head (by omega) (by omega)).mono ?_
  rintro e w5 ⟨t0, tn, tc, rfl, hX, hB⟩
  rw [val_limbs, val_limbs] at hX
  have HL5 := Lib.hid (All.cons hX.sl (HL4.out.below hB))
  have HB5 := Lib.hid (Below.steps HB4.out hB)
  clear hX hB HL4 HB4
  go_wp2_with fail
  refine (same_b _ _ _ _ _ _ _ _ _ HL5.out.tail.tail.head HL5.out.head (by rw [Nat.mul_add])).mono ?_
  rintro e w6 ⟨rfl, hB⟩
  have HL6 := Lib.hid (HL5.out.below hB)
  have HB6 := Lib.hid (Below.steps HB5.out hB)
  clear hB HL5 HB5
  go_wp2_with fail
  refine (mul_any _ _ _ _ _ _ _ _ _ HL6.out.tail.tail.tail.tail.head HL6.out.tail.tail.tail.tail.tail.tail.tail.head (by omega) (by omega)).mono ?_
  rintro e w7 ⟨u0, un, uc, rfl, hX, hB⟩
  rw [val_limbs] at hX
  have HL7 := Lib.hid (All.cons hX.sl (HL6.out.below hB))
  have HB7 := Lib.hid (Below.steps HB6.out hB)
  clear hX hB HL6 HB6
  go_wp2_with fail
  refine (mul_any _ _ _ _ _ _ _ _ _ HL7.out.tail.tail.tail.tail.tail.tail.tail.head HL7.out.tail.tail.tail.tail.tail.tail.tail.tail.head (by omega) (by omega)).mono ?_
  rintro e w8 ⟨bc0, bcn, bcc, rfl, hX, hB⟩
  have hn_bc : bcn ≤ 200 := by rw [← hX.len]; exact limbs_len (mul_lt_pow HBB.out HC.out)
  have HL8 := Lib.hid (All.cons hX.sl (HL7.out.below hB))
  have HB8 := Lib.hid (Below.steps HB7.out hB)
  clear hX hB HL7 HB7
  go_wp2_with fail
  refine (mul_any _ _ _ _ _ _ _ _ _ HL8.out.tail.tail.tail.tail.tail.tail.tail.head HL8.out.head (by omega) (by omega)).mono ?_
  rintro e w9 ⟨v0, vn, vc, rfl, hX, hB⟩
  rw [val_limbs] at hX
  have HL9 := Lib.hid (All.cons hX.sl (HL8.out.below hB))
  have HB9 := Lib.hid (Below.steps HB8.out hB)
  clear hX hB HL8 HB8
  go_wp2_with fail
  refine (same_b _ _ _ _ _ _ _ _ _ HL9.out.tail.tail.head HL9.out.head (by rw [Nat.mul_assoc])).mono ?_
  rintro e w10 ⟨rfl, hB⟩
  have HL10 := Lib.hid (HL9.out.below hB)
  have HB10 := Lib.hid (Below.steps HB9.out hB)
  clear hB HL9 HB9
  go_wp2_with fail
  refine (mul_any _ _ _ _ _ _ _ [] _ HL10.out.tail.tail.tail.tail.tail.tail.tail.tail.head (Sl.none _) (by omega) (by omega)).mono ?_
  rintro e w11 ⟨z0, zn, zc, rfl, hX, hB⟩
  rw [val_nil, Nat.mul_zero] at hX
  have hzn : zn = 0 := by rw [← hX.len]; rfl
  subst hzn
  have HL11 := Lib.hid (All.cons hX.sl (HL10.out.below hB))
  have HB11 := Lib.hid (Below.steps HB10.out hB)
  clear hX hB HL10 HB10
  go_wp2_with fail
  refine (mul_any _ _ _ _ _ _ _ [1] _ (HL11.out.tail.tail.tail.tail.tail.tail.tail.tail.tail.head.alloc _) (lit_sl _ _ 1 _ rfl rfl _ rfl (wf1 (by omega)) (by simp)) (by omega) (by omega)).mono ?_
  rintro e w12 ⟨e10, e1n, e1c, rfl, hX, hB⟩
  rw [show val [1] = 1 from rfl, Nat.mul_one] at hX
  have HL12 := Lib.hid (All.cons hX.sl (HL11.out.below (step_alloc hB)))
  have HB12 := Lib.hid (Below.steps HB11.out (step_alloc hB))
  clear hX hB HL11 HB11
  go_wp2_with fail
  refine (trim_new _ _ _ _ _ HL12.out.tail.tail.tail.tail.tail.tail.tail.tail.tail.tail.head).mono ?_
  rintro e w13 ⟨ta0, tan, tac, rfl, hX, hB⟩
  have HL13 := Lib.hid (All.cons hX.sl (HL12.out.below hB))
  have HB13 := Lib.hid (Below.steps HB12.out hB)
  clear hX hB HL12 HB12
  go_wp2_with fail
  refine (same_b _ _ _ _ _ _ _ _ _ HL13.out.tail.head HL13.out.head rfl).mono ?_
  rintro e w14 ⟨rfl, hB⟩
  have HL14 := Lib.hid (HL13.out.below hB)
  have HB14 := Lib.hid (Below.steps HB13.out hB)
  clear hB HL13 HB13
  go_wp2_with fail
  obtain ⟨na, hna⟩ : ∃ na, na = nbits (val xs) := ⟨_, rfl⟩
  obtain ⟨nb, hnb⟩ : ∃ nb, nb = nbits (val ys) := ⟨_, rfl⟩
  have hal : na ≤ 3200 := by rw [hna]; exact nbits_le32 100 HA.out
  have hbl : nb ≤ 3200 := by rw [hnb]; exact nbits_le32 100 HBB.out
  have hor : na = 0 ∨ nb = 0 := by rw [hna, hnb]; exact HZ.out.imp (fun h => by rw [h]; rfl) (fun h => by rw [h]; rfl)
  have HNA := Lib.hid hna.symm
  have HNB := Lib.hid hnb.symm
  clear hna hnb
  refine (bits_is na _ _ _ _ _ HL14.out.tail.tail.tail.tail.tail.tail.tail.tail.tail.tail.tail.head HNA.out).mono ?_
  rintro e w' ⟨rfl, rfl⟩
  go_wp2_with fail
  refine (bits_is nb _ _ _ _ _ HL14.out.tail.tail.tail.tail.tail.tail.tail.tail.tail.tail.tail.tail.head HNB.out).mono ?_
  rintro e w' ⟨rfl, rfl⟩
  go_wp2_with fail
  refine (bits_is 0 _ _ _ _ _ HL14.out.tail.tail.tail.tail.tail.tail.tail.tail.tail.tail.head (by rw [val_limbs]; rcases HZ.out with h | h <;> simp [h, nbits_zero])).mono ?_
  rintro e w' ⟨rfl, rfl⟩
  by_cases hq : na = 0
  · subst hq
    go_wp2_with fail
    refine (tknown_any _).mono ?_
    rintro e w' ⟨rfl, hB⟩
    go_wp2_with fail
    go_ret
    exact ⟨rfl, Below.steps HB14.out hB⟩
  · obtain rfl : nb = 0 := by omega
    have hq1 : (((na : Nat) : Int) == 0) = false := by simp; omega
    go_wp2_with fail
    refine (tknown_any _).mono ?_
    rintro e w' ⟨rfl, hB⟩
    go_wp2_with fail
    go_ret
    exact ⟨rfl, Below.steps HB14.out hB⟩

set_option maxHeartbeats 4000000 in
set_option maxRecDepth 100000 in
theorem timesLaws_pos (a0 b0 c0 : Option Addr) (la ca lb cb lc cc : Nat) (xs ys zs : List Nat) (w : World) (ha : Sl w a0 la ca xs) (hb : Sl w b0 lb cb ys) (hc : Sl w c0 lc cc zs) (h1 : la ≤ 100) (h2 : lb ≤ 100) (h3 : lc ≤ 100) (hz : val xs ≠ 0 ∧ val ys ≠ 0) :
    Calls Try.prog 5 #[.slice a0 la ca, .slice b0 lb cb, .slice c0 lc cc] w (True' w) := by
  have d1 : decide (100 < la) = false := by simp; omega
  have d2 : decide (100 < lb) = false := by simp; omega
  have d3 : decide (100 < lc) = false := by simp; omega
  have HA : Hid (val xs < 4294967296 ^ 100) := val_small 100 ha.wf ha.len h1
  have HBB : Hid (val ys < 4294967296 ^ 100) := val_small 100 hb.wf hb.len h2
  have HC : Hid (val zs < 4294967296 ^ 100) := val_small 100 hc.wf hc.len h3
  have HN := Lib.hid (nbits_mul hz.1 hz.2)
  obtain ⟨na, hna⟩ : ∃ na, na = nbits (val xs) := ⟨_, rfl⟩
  obtain ⟨nb, hnb⟩ : ∃ nb, nb = nbits (val ys) := ⟨_, rfl⟩
  obtain ⟨nc, hnc⟩ : ∃ nc, nc = nbits (val xs * val ys) := ⟨_, rfl⟩
  have ha0 : na ≠ 0 := by rw [hna]; exact fun h => hz.1 (nbits_eq_zero.1 h)
  have hb0 : nb ≠ 0 := by rw [hnb]; exact fun h => hz.2 (nbits_eq_zero.1 h)
  have hal : na ≤ 3200 := by rw [hna]; exact nbits_le32 100 HA.out
  have hbl : nb ≤ 3200 := by rw [hnb]; exact nbits_le32 100 HBB.out
  rw [← hna, ← hnb, ← hnc] at HN
  have HNA := Lib.hid hna.symm
  have HNB := Lib.hid hnb.symm
  have HNC := Lib.hid hnc.symm
  clear hz hna hnb hnc
  have HL0 := Lib.hid (All.cons ha (All.cons hb (All.cons hc (All.nil _))))
  have HB0 := Lib.hid (Below.refl w.heap.size w)
  clear ha hb hc
  go_enter Try.func5, Try.ntmps5
  go_wp2_with fail
  refine (mul_any _ _ _ _ _ _ _ _ _ HL0.out.head HL0.out.tail.head (by omega) (by omega)).mono ?_
  rintro e w1 ⟨ab0, abn, abc, rfl, hX, hB⟩
  have hn_ab : abn ≤ 200 := by rw [← hX.len]; exact limbs_len (mul_lt_pow HA.out HBB.out)
  have HL1 := Lib.hid (All.cons hX.sl (HL0.out.below hB))
  have HB1 := Lib.hid (Below.steps HB0.out hB)
  clear hX hB HL0 HB0
  go_wp2_with fail
  refine (add_any _ _ _ _ _ _ _ _ _ HL1.out.tail.tail.head HL1.out.tail.tail.tail.head (by omega) (by omega)).mono ?_
  rintro e w2 ⟨s0, sn, sc, rfl, hX, hB⟩
  have hn_s : sn ≤ 101 := by rw [← hX.len]; exact limbs_len (sum_lt HBB.out HC.out)
  have HL2 := Lib.hid (All.cons hX.sl (HL1.out.below hB))
  have HB2 := Lib.hid (Below.steps HB1.out hB)
  clear hX hB HL1 HB1
  go_wp2_with fail
  refine (mul_any _ _ _ _ _ _ _ _ _ HL2.out.tail.tail.head HL2.out.head (by omega) (by omega)).mono ?_
  rintro e w3 ⟨as0, asn, asc, rfl, hX, hB⟩
  rw [val_limbs] at hX
  have HL3 := Lib.hid (All.cons hX.sl (HL2.out.below hB))
  have HB3 := Lib.hid (Below.steps HB2.out hB)
  clear hX hB HL2 HB2
  go_wp2_with fail
  refine (mul_any _ _ _ _ _ _ _ _ _ HL3.out.tail.tail.tail.head HL3.out.tail.tail.tail.tail.tail.head (by omega) (by omega)).mono ?_
  rintro e w4 ⟨ac0, acn, acc, rfl, hX, hB⟩
  have hn_ac : acn ≤ 200 := by rw [← hX.len]; exact limbs_len (mul_lt_pow HA.out HC.out)
  have HL4 := Lib.hid (All.cons hX.sl (HL3.out.below hB))
  have HB4 := Lib.hid (Below.steps HB3.out hB)
  clear hX hB HL3 HB3
  go_wp2_with fail
  refine (add_any _ _ _ _ _ _ _ _ _ HL4.out.tail.tail.tail.head HL4.out.head (by omega) (by omega)).mono ?_
  rintro e w5 ⟨t0, tn, tc, rfl, hX, hB⟩
  rw [val_limbs, val_limbs] at hX
  have HL5 := Lib.hid (All.cons hX.sl (HL4.out.below hB))
  have HB5 := Lib.hid (Below.steps HB4.out hB)
  clear hX hB HL4 HB4
  go_wp2_with fail
  refine (same_b _ _ _ _ _ _ _ _ _ HL5.out.tail.tail.head HL5.out.head (by rw [Nat.mul_add])).mono ?_
  rintro e w6 ⟨rfl, hB⟩
  have HL6 := Lib.hid (HL5.out.below hB)
  have HB6 := Lib.hid (Below.steps HB5.out hB)
  clear hB HL5 HB5
  go_wp2_with fail
  refine (mul_any _ _ _ _ _ _ _ _ _ HL6.out.tail.tail.tail.tail.head HL6.out.tail.tail.tail.tail.tail.tail.tail.head (by omega) (by omega)).mono ?_
  rintro e w7 ⟨u0, un, uc, rfl, hX, hB⟩
  rw [val_limbs] at hX
  have HL7 := Lib.hid (All.cons hX.sl (HL6.out.below hB))
  have HB7 := Lib.hid (Below.steps HB6.out hB)
  clear hX hB HL6 HB6
  go_wp2_with fail
  refine (mul_any _ _ _ _ _ _ _ _ _ HL7.out.tail.tail.tail.tail.tail.tail.tail.head HL7.out.tail.tail.tail.tail.tail.tail.tail.tail.head (by omega) (by omega)).mono ?_
  rintro e w8 ⟨bc0, bcn, bcc, rfl, hX, hB⟩
  have hn_bc : bcn ≤ 200 := by rw [← hX.len]; exact limbs_len (mul_lt_pow HBB.out HC.out)
  have HL8 := Lib.hid (All.cons hX.sl (HL7.out.below hB))
  have HB8 := Lib.hid (Below.steps HB7.out hB)
  clear hX hB HL7 HB7
  go_wp2_with fail
  refine (mul_any _ _ _ _ _ _ _ _ _ HL8.out.tail.tail.tail.tail.tail.tail.tail.head HL8.out.head (by omega) (by omega)).mono ?_
  rintro e w9 ⟨v0, vn, vc, rfl, hX, hB⟩
  rw [val_limbs] at hX
  have HL9 := Lib.hid (All.cons hX.sl (HL8.out.below hB))
  have HB9 := Lib.hid (Below.steps HB8.out hB)
  clear hX hB HL8 HB8
  go_wp2_with fail
  refine (same_b _ _ _ _ _ _ _ _ _ HL9.out.tail.tail.head HL9.out.head (by rw [Nat.mul_assoc])).mono ?_
  rintro e w10 ⟨rfl, hB⟩
  have HL10 := Lib.hid (HL9.out.below hB)
  have HB10 := Lib.hid (Below.steps HB9.out hB)
  clear hB HL9 HB9
  go_wp2_with fail
  refine (mul_any _ _ _ _ _ _ _ [] _ HL10.out.tail.tail.tail.tail.tail.tail.tail.tail.head (Sl.none _) (by omega) (by omega)).mono ?_
  rintro e w11 ⟨z0, zn, zc, rfl, hX, hB⟩
  rw [val_nil, Nat.mul_zero] at hX
  have hzn : zn = 0 := by rw [← hX.len]; rfl
  subst hzn
  have HL11 := Lib.hid (All.cons hX.sl (HL10.out.below hB))
  have HB11 := Lib.hid (Below.steps HB10.out hB)
  clear hX hB HL10 HB10
  go_wp2_with fail
  refine (mul_any _ _ _ _ _ _ _ [1] _ (HL11.out.tail.tail.tail.tail.tail.tail.tail.tail.tail.head.alloc _) (lit_sl _ _ 1 _ rfl rfl _ rfl (wf1 (by omega)) (by simp)) (by omega) (by omega)).mono ?_
  rintro e w12 ⟨e10, e1n, e1c, rfl, hX, hB⟩
  rw [show val [1] = 1 from rfl, Nat.mul_one] at hX
  have HL12 := Lib.hid (All.cons hX.sl (HL11.out.below (step_alloc hB)))
  have HB12 := Lib.hid (Below.steps HB11.out (step_alloc hB))
  clear hX hB HL11 HB11
  go_wp2_with fail
  refine (trim_new _ _ _ _ _ HL12.out.tail.tail.tail.tail.tail.tail.tail.tail.tail.tail.head).mono ?_
  rintro e w13 ⟨ta0, tan, tac, rfl, hX, hB⟩
  have HL13 := Lib.hid (All.cons hX.sl (HL12.out.below hB))
  have HB13 := Lib.hid (Below.steps HB12.out hB)
  clear hX hB HL12 HB12
  go_wp2_with fail
  refine (same_b _ _ _ _ _ _ _ _ _ HL13.out.tail.head HL13.out.head rfl).mono ?_
  rintro e w14 ⟨rfl, hB⟩
  have HL14 := Lib.hid (HL13.out.below hB)
  have HB14 := Lib.hid (Below.steps HB13.out hB)
  clear hB HL13 HB13
  go_wp2_with fail
  refine (bits_is na _ _ _ _ _ HL14.out.tail.tail.tail.tail.tail.tail.tail.tail.tail.tail.tail.head HNA.out).mono ?_
  rintro e w' ⟨rfl, rfl⟩
  go_wp2_with fail
  refine (bits_is nb _ _ _ _ _ HL14.out.tail.tail.tail.tail.tail.tail.tail.tail.tail.tail.tail.tail.head HNB.out).mono ?_
  rintro e w' ⟨rfl, rfl⟩
  go_wp2_with fail
  refine (bits_is nc _ _ _ _ _ HL14.out.tail.tail.tail.tail.tail.tail.tail.tail.tail.tail.head (by rw [val_limbs]; exact HNC.out)).mono ?_
  rintro e w' ⟨rfl, rfl⟩
  have q1 : (((na : Nat) : Int) == 0) = false := by simp; omega
  have q2 : (((nb : Nat) : Int) == 0) = false := by simp; omega
  rcases HN.out with hN | hN
  · have q3 : (((nc : Nat) : Int) == ((na : Nat) : Int) + ((nb : Nat) : Int)) = true := by simp; omega
    clear hN HN
    go_wp2_with fail
    refine (tknown_any _).mono ?_
    rintro e w' ⟨rfl, hB⟩
    go_wp2_with fail
    go_ret
    exact ⟨rfl, Below.steps HB14.out hB⟩
  · have q3 : (((nc : Nat) : Int) == ((na : Nat) : Int) + ((nb : Nat) : Int)) = false := by simp; omega
    have q4 : (((nc : Nat) : Int) == ((na : Nat) : Int) + ((nb : Nat) : Int) - 1) = true := by simp; omega
    clear hN HN
    go_wp2_with fail
    refine (tknown_any _).mono ?_
    rintro e w' ⟨rfl, hB⟩
    go_wp2_with fail
    go_ret
    exact ⟨rfl, Below.steps HB14.out hB⟩

theorem timesLaws_any (a0 b0 c0 : Option Addr) (la ca lb cb lc cc : Nat) (xs ys zs : List Nat) (w : World) (ha : Sl w a0 la ca xs) (hb : Sl w b0 lb cb ys) (hc : Sl w c0 lc cc zs) :
    Calls Try.prog 5 #[.slice a0 la ca, .slice b0 lb cb, .slice c0 lc cc] w (True' w) := by
  by_cases h : 100 < la ∨ 100 < lb ∨ 100 < lc
  · exact timesLaws_long _ _ _ _ _ _ _ _ _ _ _ _ _ ha hb hc h
  · by_cases hz : val xs = 0 ∨ val ys = 0
    · exact timesLaws_zero _ _ _ _ _ _ _ _ _ _ _ _ _ ha hb hc (by omega) (by omega) (by omega) hz
    · exact timesLaws_pos _ _ _ _ _ _ _ _ _ _ _ _ _ ha hb hc (by omega) (by omega) (by omega) (by omega)

end Go.Proofs.Ytpkbijljmapnbaa

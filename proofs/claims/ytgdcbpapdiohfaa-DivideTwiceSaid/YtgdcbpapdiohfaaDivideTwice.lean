/-
  The walk of the law DivideTwice.
-/
import Derived.Test.YtgdcbpapdiohfaaDivideMakes
namespace Go.Proofs.Ytgdcbpapdiohfaa
open Go.RowKit

set_option maxHeartbeats 1000000 in
set_option maxRecDepth 100000 in
theorem divideTwice_long (a0 b0 c0 : Option Addr) (la ca lb cb lc cc : Nat) (xs ys zs : List Nat) (w : World) (ha : Sl w a0 la ca xs) (hb : Sl w b0 lb cb ys) (hc : Sl w c0 lc cc zs) (h : 100 < la ∨ 100 < lb ∨ 100 < lc) :
    Calls Try.prog 6 #[.slice a0 la ca, .slice b0 lb cb, .slice c0 lc cc] w (True' w) := by
  have b_ha := ha.big
  have b_hb := hb.big
  have b_hc := hc.big
  by_cases h0 : 100 < la
  · go_enter Try.func6, Try.ntmps6
    go_wp2_with fail
    refine (dknown_any _).mono ?_
    rintro e w' ⟨rfl, hB⟩
    go_wp2_with fail
    go_ret
    exact ⟨rfl, hB⟩
  · skip
    by_cases h1 : 100 < lb
    · have d0 : decide (100 < la) = false := by simp; omega
      go_enter Try.func6, Try.ntmps6
      go_wp2_with fail
      refine (dknown_any _).mono ?_
      rintro e w' ⟨rfl, hB⟩
      go_wp2_with fail
      go_ret
      exact ⟨rfl, hB⟩
    · skip
      have h2 : 100 < lc := by omega
      have d0 : decide (100 < la) = false := by simp; omega
      have d1 : decide (100 < lb) = false := by simp; omega
      go_enter Try.func6, Try.ntmps6
      go_wp2_with fail
      refine (dknown_any _).mono ?_
      rintro e w' ⟨rfl, hB⟩
      go_wp2_with fail
      go_ret
      exact ⟨rfl, hB⟩

set_option maxHeartbeats 4000000 in
set_option maxRecDepth 100000 in
theorem divideTwice_zero (a0 b0 c0 : Option Addr) (la ca lb cb lc cc : Nat) (xs ys zs : List Nat) (w : World) (_ : Sl w a0 la ca xs) (hb : Sl w b0 lb cb ys) (_ : Sl w c0 lc cc zs) (ka : la ≤ 100) (kb : lb ≤ 100) (kc : lc ≤ 100) (h0 : val ys = 0) :
    Calls Try.prog 6 #[.slice a0 la ca, .slice b0 lb cb, .slice c0 lc cc] w (True' w) := by
  have d0 : decide (100 < la) = false := by simp; omega
  have d1 : decide (100 < lb) = false := by simp; omega
  have d2 : decide (100 < lc) = false := by simp; omega
  go_enter Try.func6, Try.ntmps6
  go_wp2_with fail
  refine (bits_is 0 _ _ _ _ _ hb (by rw [h0]; rfl)).mono ?_
  rintro e w' ⟨rfl, rfl⟩
  go_wp2_with fail
  refine (dknown_any _).mono ?_
  rintro e w' ⟨rfl, hB⟩
  go_wp2_with fail
  go_ret
  exact ⟨rfl, hB⟩

set_option maxHeartbeats 4000000 in
set_option maxRecDepth 100000 in
theorem divideTwice_zero2 (a0 b0 c0 : Option Addr) (la ca lb cb lc cc : Nat) (xs ys zs : List Nat) (w : World) (ha : Sl w a0 la ca xs) (hb : Sl w b0 lb cb ys) (hc : Sl w c0 lc cc zs) (h1 : la ≤ 100) (h2 : lb ≤ 100) (h3 : lc ≤ 100) (h0 : val ys ≠ 0) (hz : val zs = 0) :
    Calls Try.prog 6 #[.slice a0 la ca, .slice b0 lb cb, .slice c0 lc cc] w (True' w) := by
  have HZ := Lib.hid hz
  clear hz
  have d1 : decide (100 < la) = false := by simp; omega
  have d2 : decide (100 < lb) = false := by simp; omega
  have d3 : decide (100 < lc) = false := by simp; omega
  obtain ⟨nb, hnb⟩ : ∃ nb, nb = nbits (val ys) := ⟨_, rfl⟩
  have hq := nbits_ne hnb.symm h0
  have HNB := Lib.hid hnb.symm
  clear h0 hnb
  have HL0 := Lib.hid (All.cons ha (All.cons hb (All.cons hc (All.nil _))))
  have HB0 := Lib.hid (Below.refl w.heap.size w)
  clear ha hb hc
  go_enter Try.func6, Try.ntmps6
  go_wp2_with fail
  refine (bits_is nb _ _ _ _ _ HL0.out.tail.head HNB.out).mono ?_
  rintro e w' ⟨rfl, rfl⟩
  go_wp2_with fail
  refine (bits_is 0 _ _ _ _ _ HL0.out.tail.tail.head (by rw [HZ.out]; rfl)).mono ?_
  rintro e w' ⟨rfl, rfl⟩
  go_wp2_with fail
  refine (dknown_any _).mono ?_
  rintro e w' ⟨rfl, hB⟩
  go_wp2_with fail
  go_ret
  exact ⟨rfl, Below.steps HB0.out hB⟩

set_option maxHeartbeats 4000000 in
set_option maxRecDepth 100000 in
theorem divideTwice_short (a0 b0 c0 : Option Addr) (la ca lb cb lc cc : Nat) (xs ys zs : List Nat) (w : World) (ha : Sl w a0 la ca xs) (hb : Sl w b0 lb cb ys) (hc : Sl w c0 lc cc zs) (h1 : la ≤ 100) (h2 : lb ≤ 100) (h3 : lc ≤ 100) (h0 : val ys ≠ 0) (hz : val zs ≠ 0) :
    Calls Try.prog 6 #[.slice a0 la ca, .slice b0 lb cb, .slice c0 lc cc] w (True' w) := by
  have d1 : decide (100 < la) = false := by simp; omega
  have d2 : decide (100 < lb) = false := by simp; omega
  have d3 : decide (100 < lc) = false := by simp; omega
  have HA : Hid (val xs < 4294967296 ^ 100) := val_small 100 ha.wf ha.len h1
  have HBB : Hid (val ys < 4294967296 ^ 100) := val_small 100 hb.wf hb.len h2
  have HCC : Hid (val zs < 4294967296 ^ 100) := val_small 100 hc.wf hc.len h3
  have H0 := Lib.hid h0
  have HZ := Lib.hid hz
  have HZ2 : Hid (val ys * val zs ≠ 0) := Nat.mul_ne_zero h0 hz
  obtain ⟨nb, hnb⟩ : ∃ nb, nb = nbits (val ys) := ⟨_, rfl⟩
  obtain ⟨nc, hnc⟩ : ∃ nc, nc = nbits (val zs) := ⟨_, rfl⟩
  have hq := nbits_ne hnb.symm h0
  have hq2 := nbits_ne hnc.symm hz
  have HNB := Lib.hid hnb.symm
  have HNC := Lib.hid hnc.symm
  have HM : Hid (val xs % val ys < val ys) := Nat.mod_lt _ (by omega)
  have HM2 : Hid (val xs / val ys % val zs < val zs) := Nat.mod_lt _ (by omega)
  clear h0 hz hnb hnc
  have HL0 := Lib.hid (All.cons ha (All.cons hb (All.cons hc (All.nil _))))
  have HB0 := Lib.hid (Below.refl w.heap.size w)
  clear ha hb hc
  go_enter Try.func6, Try.ntmps6
  go_wp2_with fail
  refine (bits_is nb _ _ _ _ _ HL0.out.tail.head HNB.out).mono ?_
  rintro e w' ⟨rfl, rfl⟩
  go_wp2_with fail
  refine (bits_is nc _ _ _ _ _ HL0.out.tail.tail.head HNC.out).mono ?_
  rintro e w' ⟨rfl, rfl⟩
  go_wp2_with fail
  refine (ddiv_any _ _ _ _ _ _ _ _ _ HL0.out.head HL0.out.tail.head H0.out (by omega)).mono ?_
  rintro e w1 ⟨q0, qn, qc, rr0, rrn, rrc, rfl, hX, hY, hB⟩
  have hn_q : qn ≤ 100 := by rw [← hX.len]; exact limbs_len (Nat.lt_of_le_of_lt (Nat.div_le_self _ _) HA.out)
  have hn_rr : rrn ≤ 100 := by rw [← hY.len]; exact limbs_len (Nat.lt_trans HM.out HBB.out)
  have HL1 := Lib.hid (All.cons hX (All.cons hY (HL0.out.below hB)))
  have HB1 := Lib.hid (Below.steps HB0.out hB)
  clear hX hY hB HL0 HB0
  go_wp2_with fail
  refine (ddiv_any _ _ _ _ _ _ _ _ _ HL1.out.head HL1.out.tail.tail.tail.tail.head HZ.out (by omega)).mono ?_
  rintro e w2 ⟨p0, pn, pc, s0, sn, sc, rfl, hX, hY, hB⟩
  rw [val_limbs, Nat.div_div_eq_div_mul] at hX
  rw [val_limbs] at hY
  have hn_s : sn ≤ 100 := by rw [← hY.len]; exact limbs_len (Nat.lt_trans HM2.out HCC.out)
  have HL2 := Lib.hid (All.cons hX (All.cons hY (HL1.out.below hB)))
  have HB2 := Lib.hid (Below.steps HB1.out hB)
  clear hX hY hB HL1 HB1
  go_wp2_with fail
  refine (mul_any _ _ _ _ _ _ _ _ _ HL2.out.tail.tail.tail.tail.tail.head HL2.out.tail.tail.tail.tail.tail.tail.head (by omega) (by omega)).mono ?_
  rintro e w3 ⟨m0, mn, mc, rfl, hX, hB⟩
  have HL3 := Lib.hid (All.cons hX.sl (HL2.out.below hB))
  have HB3 := Lib.hid (Below.steps HB2.out hB)
  clear hX hB HL2 HB2
  go_wp2_with fail
  refine (ddiv_any _ _ _ _ _ _ _ _ _ HL3.out.tail.tail.tail.tail.tail.head HL3.out.head (by rw [val_limbs]; exact HZ2.out) (by omega)).mono ?_
  rintro e w4 ⟨x0, xn, xc, y0, yn, yc, rfl, hX, hY, hB⟩
  rw [val_limbs] at hX
  rw [val_limbs] at hY
  have HL4 := Lib.hid (All.cons hX (All.cons hY (HL3.out.below hB)))
  have HB4 := Lib.hid (Below.steps HB3.out hB)
  clear hX hY hB HL3 HB3
  go_wp2_with fail
  refine (same_b _ _ _ _ _ _ _ _ _ HL4.out.tail.tail.tail.head HL4.out.head rfl).mono ?_
  rintro e w5 ⟨rfl, hB⟩
  have HL5 := Lib.hid (HL4.out.below hB)
  have HB5 := Lib.hid (Below.steps HB4.out hB)
  clear hB HL4 HB4
  go_wp2_with fail
  refine (mul_any _ _ _ _ _ _ _ _ _ HL5.out.tail.tail.tail.tail.head HL5.out.tail.tail.tail.tail.tail.tail.tail.tail.head (by omega) (by omega)).mono ?_
  rintro e w6 ⟨sb0, sbn, sbc, rfl, hX, hB⟩
  rw [val_limbs] at hX
  have hn_sb : sbn ≤ 200 := by rw [← hX.len]; exact limbs_len (n := val xs / val ys % val zs * val ys) (k := 200) (mul_lt_pow (Nat.lt_trans HM2.out HCC.out) HBB.out)
  have HL6 := Lib.hid (All.cons hX.sl (HL5.out.below hB))
  have HB6 := Lib.hid (Below.steps HB5.out hB)
  clear hX hB HL5 HB5
  go_wp2_with fail
  refine (add_any _ _ _ _ _ _ _ _ _ HL6.out.head HL6.out.tail.tail.tail.tail.tail.tail.tail.head (by omega) (by omega)).mono ?_
  rintro e w7 ⟨t0, tn, tc, rfl, hX, hB⟩
  rw [val_limbs, val_limbs] at hX
  have HL7 := Lib.hid (All.cons hX.sl (HL6.out.below hB))
  have HB7 := Lib.hid (Below.steps HB6.out hB)
  clear hX hB HL6 HB6
  go_wp2_with fail
  refine (same_b _ _ _ _ _ _ _ _ _ HL7.out.tail.tail.tail.head HL7.out.head (by rw [Nat.mod_mul, Nat.add_comm, Nat.mul_comm (val ys)])).mono ?_
  rintro e w8 ⟨rfl, hB⟩
  have HL8 := Lib.hid (HL7.out.below hB)
  have HB8 := Lib.hid (Below.steps HB7.out hB)
  clear hB HL7 HB7
  go_wp2_with fail
  refine (dknown_any _).mono ?_
  rintro e w' ⟨rfl, hB⟩
  go_wp2_with fail
  go_ret
  exact ⟨rfl, Below.steps HB8.out hB⟩

theorem divideTwice_any (a0 b0 c0 : Option Addr) (la ca lb cb lc cc : Nat) (xs ys zs : List Nat) (w : World) (ha : Sl w a0 la ca xs) (hb : Sl w b0 lb cb ys) (hc : Sl w c0 lc cc zs) :
    Calls Try.prog 6 #[.slice a0 la ca, .slice b0 lb cb, .slice c0 lc cc] w (True' w) := by
  by_cases h : 100 < la ∨ 100 < lb ∨ 100 < lc
  · exact divideTwice_long _ _ _ _ _ _ _ _ _ _ _ _ _ ha hb hc h
  · by_cases h0 : val ys = 0
    · exact divideTwice_zero _ _ _ _ _ _ _ _ _ _ _ _ _ ha hb hc (by omega) (by omega) (by omega) h0
    · by_cases hz : val zs = 0
      · exact divideTwice_zero2 _ _ _ _ _ _ _ _ _ _ _ _ _ ha hb hc (by omega) (by omega) (by omega) h0 hz
      · exact divideTwice_short _ _ _ _ _ _ _ _ _ _ _ _ _ ha hb hc (by omega) (by omega) (by omega) h0 hz

end Go.Proofs.Ytgdcbpapdiohfaa

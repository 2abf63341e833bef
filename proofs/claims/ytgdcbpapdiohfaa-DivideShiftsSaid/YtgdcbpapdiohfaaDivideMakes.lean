/-
  The walk of the law DivideMakes.
-/
import Derived.Test.YtgdcbpapdiohfaaGDiv2
import Derived.Test.YtgdcbpapdiohfaaGNatA
import Derived.Test.YtgdcbpapdiohfaaGLaw
import Derived.Test.YtgdcbpapdiohfaaGTimes
import Derived.Test.YtgdcbpapdiohfaaGNatB
namespace Go.Proofs.Ytgdcbpapdiohfaa
open Go.RowKit

theorem cmpN_lt {a b : Nat} (h : a < b) : cmpN a b = -1 := by unfold cmpN; rw [if_pos h]
theorem cmpN_ge {a b : Nat} (h : b ≤ a) : 0 ≤ cmpN a b := by unfold cmpN; rw [if_neg (by omega)]; split <;> omega

/-- the number of bits is known to be 0, or not to be 0 -/
theorem nbits_ne {n k : Nat} (h : nbits n = k) (h0 : n ≠ 0) : (((k : Nat) : Int) == 0) = false := by
  have : k ≠ 0 := by rw [← h]; exact fun e => h0 (nbits_eq_zero.1 e)
  simp; omega

set_option maxHeartbeats 1000000 in
set_option maxRecDepth 100000 in
theorem divideMakes_long (a0 b0 : Option Addr) (la ca lb cb : Nat) (xs ys : List Nat) (w : World) (ha : Sl w a0 la ca xs) (hb : Sl w b0 lb cb ys) (h : 200 < la ∨ 200 < lb) :
    Calls Try.prog 5 #[.slice a0 la ca, .slice b0 lb cb] w (True' w) := by
  have b_ha := ha.big
  have b_hb := hb.big
  by_cases h0 : 200 < la
  · go_enter Try.func5, Try.ntmps5
    go_wp2_with fail
    refine (dknown_any _).mono ?_
    rintro e w' ⟨rfl, hB⟩
    go_wp2_with fail
    go_ret
    exact ⟨rfl, hB⟩
  · skip
    have h1 : 200 < lb := by omega
    have d0 : decide (200 < la) = false := by simp; omega
    go_enter Try.func5, Try.ntmps5
    go_wp2_with fail
    refine (dknown_any _).mono ?_
    rintro e w' ⟨rfl, hB⟩
    go_wp2_with fail
    go_ret
    exact ⟨rfl, hB⟩

set_option maxHeartbeats 4000000 in
set_option maxRecDepth 100000 in
theorem divideMakes_zero (a0 b0 : Option Addr) (la ca lb cb : Nat) (xs ys : List Nat) (w : World) (_ : Sl w a0 la ca xs) (hb : Sl w b0 lb cb ys) (ka : la ≤ 200) (kb : lb ≤ 200) (h0 : val ys = 0) :
    Calls Try.prog 5 #[.slice a0 la ca, .slice b0 lb cb] w (True' w) := by
  have d0 : decide (200 < la) = false := by simp; omega
  have d1 : decide (200 < lb) = false := by simp; omega
  go_enter Try.func5, Try.ntmps5
  go_wp2_with fail
  refine (bits_is 0 _ _ _ _ _ hb (by rw [h0]; rfl)).mono ?_
  rintro e w' ⟨rfl, rfl⟩
  go_wp2_with fail
  refine (dknown_any _).mono ?_
  rintro e w' ⟨rfl, hB⟩
  go_wp2_with fail
  go_ret
  exact ⟨rfl, hB⟩

set_option maxHeartbeats 4000000 in
set_option maxRecDepth 100000 in
theorem divideMakes_lt (a0 b0 : Option Addr) (la ca lb cb : Nat) (xs ys : List Nat) (w : World) (ha : Sl w a0 la ca xs) (hb : Sl w b0 lb cb ys) (h1 : la ≤ 200) (h2 : lb ≤ 200) (h0 : val ys ≠ 0) (hc : val xs < val ys) :
    Calls Try.prog 5 #[.slice a0 la ca, .slice b0 lb cb] w (True' w) := by
  have d1 : decide (200 < la) = false := by simp; omega
  have d2 : decide (200 < lb) = false := by simp; omega
  have HA : Hid (val xs < 4294967296 ^ 200) := val_small 200 ha.wf ha.len h1
  have HBB : Hid (val ys < 4294967296 ^ 200) := val_small 200 hb.wf hb.len h2
  have H0 := Lib.hid h0
  obtain ⟨nb, hnb⟩ : ∃ nb, nb = nbits (val ys) := ⟨_, rfl⟩
  have hq := nbits_ne hnb.symm h0
  have HNB := Lib.hid hnb.symm
  have HC := Lib.hid hc
  have HM : Hid (val xs % val ys < val ys) := Nat.mod_lt _ (by omega)
  clear h0 hnb hc
  have HL0 := Lib.hid (All.cons ha (All.cons hb (All.nil _)))
  have HB0 := Lib.hid (Below.refl w.heap.size w)
  clear ha hb
  go_enter Try.func5, Try.ntmps5
  go_wp2_with fail
  refine (bits_is nb _ _ _ _ _ HL0.out.tail.head HNB.out).mono ?_
  rintro e w' ⟨rfl, rfl⟩
  go_wp2_with fail
  refine (ddiv_any _ _ _ _ _ _ _ _ _ HL0.out.head HL0.out.tail.head H0.out (by omega)).mono ?_
  rintro e w1 ⟨q0, qn, qc, r0, rn, rc, rfl, hX, hY, hB⟩
  have hn_q : qn ≤ 200 := by rw [← hX.len]; exact limbs_len (Nat.lt_of_le_of_lt (Nat.div_le_self _ _) HA.out)
  have hn_r : rn ≤ 200 := by rw [← hY.len]; exact limbs_len (Nat.lt_trans HM.out HBB.out)
  obtain rfl : qn = 0 := sl_nil hX (Nat.div_eq_of_lt HC.out)
  have HL1 := Lib.hid (All.cons hX (All.cons hY (HL0.out.below hB)))
  have HB1 := Lib.hid (Below.steps HB0.out hB)
  clear hX hY hB HL0 HB0
  go_wp2_with fail
  refine (cmp_b (-1) _ _ _ _ _ _ _ _ _ HL1.out.tail.head HL1.out.tail.tail.tail.head (by rw [Hid, val_limbs]; exact cmpN_lt HM.out)).mono ?_
  rintro e w2 ⟨rfl, hB⟩
  have HL2 := Lib.hid (HL1.out.below hB)
  have HB2 := Lib.hid (Below.steps HB1.out hB)
  clear hB HL1 HB1
  go_wp2_with fail
  refine (mul_any _ _ _ _ _ _ _ _ _ HL2.out.head HL2.out.tail.tail.tail.head (by omega) (by omega)).mono ?_
  rintro e w3 ⟨p0, pn, pc, rfl, hX, hB⟩
  rw [val_limbs] at hX
  have hn_p : pn ≤ 200 := by rw [← hX.len]; exact limbs_len (Nat.lt_of_le_of_lt (Nat.div_mul_le_self _ _) HA.out)
  have HL3 := Lib.hid (All.cons hX.sl (HL2.out.below hB))
  have HB3 := Lib.hid (Below.steps HB2.out hB)
  clear hX hB HL2 HB2
  go_wp2_with fail
  refine (add_any _ _ _ _ _ _ _ _ _ HL3.out.head HL3.out.tail.tail.head (by omega) (by omega)).mono ?_
  rintro e w4 ⟨s0, sn, sc, rfl, hX, hB⟩
  rw [val_limbs, val_limbs] at hX
  have HL4 := Lib.hid (All.cons hX.sl (HL3.out.below hB))
  have HB4 := Lib.hid (Below.steps HB3.out hB)
  clear hX hB HL3 HB3
  go_wp2_with fail
  refine (trim_new _ _ _ _ _ HL4.out.tail.tail.tail.tail.head).mono ?_
  rintro e w5 ⟨t0, tn, tc, rfl, hX, hB⟩
  have HL5 := Lib.hid (All.cons hX.sl (HL4.out.below hB))
  have HB5 := Lib.hid (Below.steps HB4.out hB)
  clear hX hB HL4 HB4
  go_wp2_with fail
  refine (same_b _ _ _ _ _ _ _ _ _ HL5.out.tail.head HL5.out.head (by rw [Nat.mul_comm, Nat.div_add_mod])).mono ?_
  rintro e w6 ⟨rfl, hB⟩
  have HL6 := Lib.hid (HL5.out.below hB)
  have HB6 := Lib.hid (Below.steps HB5.out hB)
  clear hB HL5 HB5
  go_wp2_with fail
  refine (cmp_b (-1) _ _ _ _ _ _ _ _ _ HL6.out.tail.tail.tail.tail.tail.head HL6.out.tail.tail.tail.tail.tail.tail.head (cmpN_lt HC.out)).mono ?_
  rintro e w7 ⟨rfl, hB⟩
  have HL7 := Lib.hid (HL6.out.below hB)
  have HB7 := Lib.hid (Below.steps HB6.out hB)
  clear hB HL6 HB6
  go_wp2_with fail
  refine (dknown_any _).mono ?_
  rintro e w' ⟨rfl, hB⟩
  go_wp2_with fail
  go_ret
  exact ⟨rfl, Below.steps HB7.out hB⟩

set_option maxHeartbeats 4000000 in
set_option maxRecDepth 100000 in
theorem divideMakes_ge (a0 b0 : Option Addr) (la ca lb cb : Nat) (xs ys : List Nat) (w : World) (ha : Sl w a0 la ca xs) (hb : Sl w b0 lb cb ys) (h1 : la ≤ 200) (h2 : lb ≤ 200) (h0 : val ys ≠ 0) (hc : val ys ≤ val xs) :
    Calls Try.prog 5 #[.slice a0 la ca, .slice b0 lb cb] w (True' w) := by
  have d1 : decide (200 < la) = false := by simp; omega
  have d2 : decide (200 < lb) = false := by simp; omega
  have HA : Hid (val xs < 4294967296 ^ 200) := val_small 200 ha.wf ha.len h1
  have HBB : Hid (val ys < 4294967296 ^ 200) := val_small 200 hb.wf hb.len h2
  have H0 := Lib.hid h0
  obtain ⟨nb, hnb⟩ : ∃ nb, nb = nbits (val ys) := ⟨_, rfl⟩
  have hq := nbits_ne hnb.symm h0
  have HNB := Lib.hid hnb.symm
  have HC := Lib.hid hc
  have HM : Hid (val xs % val ys < val ys) := Nat.mod_lt _ (by omega)
  clear h0 hnb hc
  have HL0 := Lib.hid (All.cons ha (All.cons hb (All.nil _)))
  have HB0 := Lib.hid (Below.refl w.heap.size w)
  clear ha hb
  go_enter Try.func5, Try.ntmps5
  go_wp2_with fail
  refine (bits_is nb _ _ _ _ _ HL0.out.tail.head HNB.out).mono ?_
  rintro e w' ⟨rfl, rfl⟩
  go_wp2_with fail
  refine (ddiv_any _ _ _ _ _ _ _ _ _ HL0.out.head HL0.out.tail.head H0.out (by omega)).mono ?_
  rintro e w1 ⟨q0, qn, qc, r0, rn, rc, rfl, hX, hY, hB⟩
  have hn_q : qn ≤ 200 := by rw [← hX.len]; exact limbs_len (Nat.lt_of_le_of_lt (Nat.div_le_self _ _) HA.out)
  have hn_r : rn ≤ 200 := by rw [← hY.len]; exact limbs_len (Nat.lt_trans HM.out HBB.out)
  have hq0 := sl_pos hX (by have := Nat.div_pos HC.out (by have := H0.out; omega); omega)
  have HL1 := Lib.hid (All.cons hX (All.cons hY (HL0.out.below hB)))
  have HB1 := Lib.hid (Below.steps HB0.out hB)
  clear hX hY hB HL0 HB0
  go_wp2_with fail
  refine (cmp_b (-1) _ _ _ _ _ _ _ _ _ HL1.out.tail.head HL1.out.tail.tail.tail.head (by rw [Hid, val_limbs]; exact cmpN_lt HM.out)).mono ?_
  rintro e w2 ⟨rfl, hB⟩
  have HL2 := Lib.hid (HL1.out.below hB)
  have HB2 := Lib.hid (Below.steps HB1.out hB)
  clear hB HL1 HB1
  go_wp2_with fail
  refine (mul_any _ _ _ _ _ _ _ _ _ HL2.out.head HL2.out.tail.tail.tail.head (by omega) (by omega)).mono ?_
  rintro e w3 ⟨p0, pn, pc, rfl, hX, hB⟩
  rw [val_limbs] at hX
  have hn_p : pn ≤ 200 := by rw [← hX.len]; exact limbs_len (Nat.lt_of_le_of_lt (Nat.div_mul_le_self _ _) HA.out)
  have HL3 := Lib.hid (All.cons hX.sl (HL2.out.below hB))
  have HB3 := Lib.hid (Below.steps HB2.out hB)
  clear hX hB HL2 HB2
  go_wp2_with fail
  refine (add_any _ _ _ _ _ _ _ _ _ HL3.out.head HL3.out.tail.tail.head (by omega) (by omega)).mono ?_
  rintro e w4 ⟨s0, sn, sc, rfl, hX, hB⟩
  rw [val_limbs, val_limbs] at hX
  have HL4 := Lib.hid (All.cons hX.sl (HL3.out.below hB))
  have HB4 := Lib.hid (Below.steps HB3.out hB)
  clear hX hB HL3 HB3
  go_wp2_with fail
  refine (trim_new _ _ _ _ _ HL4.out.tail.tail.tail.tail.head).mono ?_
  rintro e w5 ⟨t0, tn, tc, rfl, hX, hB⟩
  have HL5 := Lib.hid (All.cons hX.sl (HL4.out.below hB))
  have HB5 := Lib.hid (Below.steps HB4.out hB)
  clear hX hB HL4 HB4
  go_wp2_with fail
  refine (same_b _ _ _ _ _ _ _ _ _ HL5.out.tail.head HL5.out.head (by rw [Nat.mul_comm, Nat.div_add_mod])).mono ?_
  rintro e w6 ⟨rfl, hB⟩
  have HL6 := Lib.hid (HL5.out.below hB)
  have HB6 := Lib.hid (Below.steps HB5.out hB)
  clear hB HL5 HB5
  obtain ⟨c, hc⟩ : ∃ c, c = cmpN (val xs) (val ys) := ⟨_, rfl⟩
  have hc0 : 0 ≤ c := by rw [hc]; exact cmpN_ge HC.out
  have HCC := Lib.hid hc.symm
  clear hc
  go_wp2_with fail
  refine (cmp_b c _ _ _ _ _ _ _ _ _ HL6.out.tail.tail.tail.tail.tail.head HL6.out.tail.tail.tail.tail.tail.tail.head HCC.out).mono ?_
  rintro e w7 ⟨rfl, hB⟩
  have HL7 := Lib.hid (HL6.out.below hB)
  have HB7 := Lib.hid (Below.steps HB6.out hB)
  clear hB HL6 HB6
  go_wp2_with fail
  refine (dknown_any _).mono ?_
  rintro e w' ⟨rfl, hB⟩
  go_wp2_with fail
  go_ret
  exact ⟨rfl, Below.steps HB7.out hB⟩

theorem divideMakes_any (a0 b0 : Option Addr) (la ca lb cb : Nat) (xs ys : List Nat) (w : World) (ha : Sl w a0 la ca xs) (hb : Sl w b0 lb cb ys) :
    Calls Try.prog 5 #[.slice a0 la ca, .slice b0 lb cb] w (True' w) := by
  by_cases h : 200 < la ∨ 200 < lb
  · exact divideMakes_long _ _ _ _ _ _ _ _ _ ha hb h
  · by_cases h0 : val ys = 0
    · exact divideMakes_zero _ _ _ _ _ _ _ _ _ ha hb (by omega) (by omega) h0
    · by_cases hc : val xs < val ys
      · exact divideMakes_lt _ _ _ _ _ _ _ _ _ ha hb (by omega) (by omega) h0 hc
      · exact divideMakes_ge _ _ _ _ _ _ _ _ _ ha hb (by omega) (by omega) h0 (by omega)

end Go.Proofs.Ytgdcbpapdiohfaa

/-
  The walk of the law TimesWays.
-/
import Derived.Test.YtpkbijljmapnbaaTKnown
namespace Go.Proofs.Ytpkbijljmapnbaa
open Go.RowKit

theorem limbs_last {n k : Nat} (h : (limbs n).length = k) (h0 : 0 < k) : (limbs n).getD (k - 1) 0 ≠ 0 := by
  intro hz
  have h1 := nl_take_zero (limbs n) (k - 1) (by omega) hz
  rw [show k - 1 + 1 = k from by omega, take_all _ _ h, nl_limbs, h] at h1
  have h2 := nl_le ((limbs n).take (k - 1))
  rw [List.length_take] at h2
  omega

set_option maxHeartbeats 1000000 in
theorem timesWays_long (a0 b0 : Option Addr) (la ca lb cb : Nat) (xs ys : List Nat) (w : World) (ha : Sl w a0 la ca xs) (hb : Sl w b0 lb cb ys) (h : 300 < la ∨ 300 < lb) :
    Calls Try.prog 4 #[.slice a0 la ca, .slice b0 lb cb] w (True' w) := by
  have b_ha := ha.big
  have b_hb := hb.big
  by_cases h0 : 300 < la
  · go_enter Try.func4, Try.ntmps4
    go_wp2_with fail
    refine (tknown_any _).mono ?_
    rintro e w' ⟨rfl, hB⟩
    go_wp2_with fail
    go_ret
    exact ⟨rfl, hB⟩
  · skip
    have h1 : 300 < lb := by omega
    have d0 : decide (300 < la) = false := by simp; omega
    go_enter Try.func4, Try.ntmps4
    go_wp2_with fail
    refine (tknown_any _).mono ?_
    rintro e w' ⟨rfl, hB⟩
    go_wp2_with fail
    go_ret
    exact ⟨rfl, hB⟩

set_option maxHeartbeats 2000000 in
set_option maxRecDepth 100000 in
theorem timesWays_short (a0 b0 : Option Addr) (la ca lb cb : Nat) (xs ys : List Nat) (w : World) (ha : Sl w a0 la ca xs) (hb : Sl w b0 lb cb ys) (h1 : la ≤ 300) (h2 : lb ≤ 300) :
    Calls Try.prog 4 #[.slice a0 la ca, .slice b0 lb cb] w (True' w) := by
  have d1 : decide (300 < la) = false := by simp; omega
  have d2 : decide (300 < lb) = false := by simp; omega
  have HL0 := Lib.hid (All.cons ha (All.cons hb (All.nil _)))
  have HB0 := Lib.hid (Below.refl w.heap.size w)
  clear ha hb
  go_enter Try.func4, Try.ntmps4
  go_wp2_with fail
  refine (rows_any _ _ _ _ _ _ _ _ _ HL0.out.head HL0.out.tail.head (by omega) (by omega)).mono ?_
  rintro e w1 ⟨p0, pn, pc, rfl, hX, hB⟩
  have HL1 := Lib.hid (All.cons hX.sl (HL0.out.below hB))
  have HB1 := Lib.hid (Below.steps HB0.out hB)
  clear hX hB HL0 HB0
  go_wp2_with fail
  refine (split_any _ _ _ _ _ _ _ _ _ HL1.out.tail.head HL1.out.tail.tail.head (by omega) (by omega)).mono ?_
  rintro e w2 ⟨q0, qn, qc, rfl, hX, hB⟩
  have HL2 := Lib.hid (All.cons hX.sl (HL1.out.below hB))
  have HB2 := Lib.hid (Below.steps HB1.out hB)
  clear hX hB HL1 HB1
  go_wp2_with fail
  refine (same_b _ _ _ _ _ _ _ _ _ HL2.out.head HL2.out.tail.head rfl).mono ?_
  rintro e w3 ⟨rfl, hB⟩
  have HL3 := Lib.hid (HL2.out.below hB)
  have HB3 := Lib.hid (Below.steps HB2.out hB)
  clear hB HL2 HB2
  go_wp2_with fail
  refine (mul_any _ _ _ _ _ _ _ _ _ HL3.out.tail.tail.head HL3.out.tail.tail.tail.head (by omega) (by omega)).mono ?_
  rintro e w4 ⟨r0, rn, rc, rfl, hX, hB⟩
  have HL4 := Lib.hid (All.cons hX.sl (HL3.out.below hB))
  have HB4 := Lib.hid (Below.steps HB3.out hB)
  clear hX hB HL3 HB3
  go_wp2_with fail
  refine (same_b _ _ _ _ _ _ _ _ _ HL4.out.head HL4.out.tail.tail.head rfl).mono ?_
  rintro e w5 ⟨rfl, hB⟩
  have HL5 := Lib.hid (HL4.out.below hB)
  have HB5 := Lib.hid (Below.steps HB4.out hB)
  clear hB HL4 HB4
  go_wp2_with fail
  refine (mul_any _ _ _ _ _ _ _ _ _ HL5.out.tail.tail.tail.tail.head HL5.out.tail.tail.tail.head (by omega) (by omega)).mono ?_
  rintro e w6 ⟨s0, sn, sc, rfl, hX, hB⟩
  have HL6 := Lib.hid (All.cons hX.sl (HL5.out.below hB))
  have HB6 := Lib.hid (Below.steps HB5.out hB)
  clear hX hB HL5 HB5
  go_wp2_with fail
  refine (same_b _ _ _ _ _ _ _ _ _ HL6.out.head HL6.out.tail.tail.tail.head (by rw [Nat.mul_comm])).mono ?_
  rintro e w7 ⟨rfl, hB⟩
  have HL7 := Lib.hid (HL6.out.below hB)
  have HB7 := Lib.hid (Below.steps HB6.out hB)
  clear hB HL6 HB6
  have SP := Lib.hid HL7.out.tail.tail.tail.head
  have hbig := SP.out.big
  by_cases hp0 : pn = 0
  · subst hp0
    go_wp2_with fail
    refine (tknown_any _).mono ?_
    rintro e w' ⟨rfl, hB⟩
    go_wp2_with fail
    go_ret
    exact ⟨rfl, Below.steps HB7.out hB⟩
  · have hb0 : (((pn : Nat) : Int) == 0) = false := by simp; omega
    obtain ⟨b, off, rfl, hbb, hcell⟩ := SP.out.at (by omega)
    have hc := hcell (pn - 1) (by omega)
    have hne := limbs_last SP.out.len (by omega)
    obtain ⟨z, hz⟩ : ∃ z, z = (limbs (val xs * val ys)).getD (pn - 1) 0 := ⟨_, rfl⟩
    rw [← hz] at hc hne
    have hz1 : (((z : Nat) : Int) != 0) = true := by simp; omega
    have HZ := Lib.hid hz
    have hpi : (0 : Int) ≤ (pn : Int) - 1 := by omega
    have hpt : ((pn : Int) - 1).toNat = pn - 1 := by omega
    clear hz hcell hne
    go_wp2_with fail
    refine (tknown_any _).mono ?_
    rintro e w' ⟨rfl, hB⟩
    go_wp2_with fail
    go_ret
    exact ⟨rfl, Below.steps HB7.out hB⟩

theorem timesWays_any (a0 b0 : Option Addr) (la ca lb cb : Nat) (xs ys : List Nat) (w : World) (ha : Sl w a0 la ca xs) (hb : Sl w b0 lb cb ys) :
    Calls Try.prog 4 #[.slice a0 la ca, .slice b0 lb cb] w (True' w) := by
  by_cases h : 300 < la ∨ 300 < lb
  · exact timesWays_long _ _ _ _ _ _ _ _ _ ha hb h
  · exact timesWays_short _ _ _ _ _ _ _ _ _ ha hb (by omega) (by omega)

end Go.Proofs.Ytpkbijljmapnbaa

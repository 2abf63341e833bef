/-
  The walk of the law NatLaws.
-/
import Derived.Test.YtkopkmbijmofjaaGLaw
import Derived.Test.YtkopkmbijmofjaaKnown
import Derived.Test.YtkopkmbijmofjaaCanon
import Derived.Test.YtkopkmbijmofjaaGNatA
namespace Go.Proofs.Ytkopkmbijmofjaa
open Go.RowKit

/-- One of the three is longer than 200 limbs. -/
theorem natLaws_long (a0 b0 c0 : Option Addr) (la ca lb cb lc cc : Nat) (xs ys zs : List Nat) (w : World) (ha : Sl w a0 la ca xs) (hb : Sl w b0 lb cb ys) (hc : Sl w c0 lc cc zs) (h : 200 < la ∨ 200 < lb ∨ 200 < lc) :
    Calls Try.prog 5 #[.slice a0 la ca, .slice b0 lb cb, .slice c0 lc cc] w (True' w) := by
  have b1 := ha.big
  have b2 := hb.big
  have b3 := hc.big
  have l1 := ha.le
  have l2 := hb.le
  have l3 := hc.le
  by_cases h1 : 200 < la
  · go_enter Try.func5, Try.ntmps5
    go_wp2_with fail
    refine (known_any _).mono ?_
    rintro e w' ⟨rfl, hB⟩
    go_wp2_with fail
    go_ret
    exact ⟨rfl, hB⟩
  · by_cases h2 : 200 < lb
    · have d1 : decide (200 < la) = false := by simp; omega
      go_enter Try.func5, Try.ntmps5
      go_wp2_with fail
      refine (known_any _).mono ?_
      rintro e w' ⟨rfl, hB⟩
      go_wp2_with fail
      go_ret
      exact ⟨rfl, hB⟩
    · have h3 : 200 < lc := by omega
      have d1 : decide (200 < la) = false := by simp; omega
      have d2 : decide (200 < lb) = false := by simp; omega
      go_enter Try.func5, Try.ntmps5
      go_wp2_with fail
      refine (known_any _).mono ?_
      rintro e w' ⟨rfl, hB⟩
      go_wp2_with fail
      go_ret
      exact ⟨rfl, hB⟩

set_option maxHeartbeats 2000000 in
theorem natLaws_lt (a0 b0 c0 : Option Addr) (la ca lb cb lc cc : Nat) (xs ys zs : List Nat) (w : World) (ha : Sl w a0 la ca xs) (hb : Sl w b0 lb cb ys) (hc : Sl w c0 lc cc zs) (h1 : la ≤ 200) (h2 : lb ≤ 200) (h3 : lc ≤ 200) (hcmp : val xs < val ys) :
    Calls Try.prog 5 #[.slice a0 la ca, .slice b0 lb cb, .slice c0 lc cc] w (True' w) := by
  have HA : Hid (val xs < 4294967296 ^ 200) := val_small 200 ha.wf ha.len h1
  have HBV : Hid (val ys < 4294967296 ^ 200) := val_small 200 hb.wf hb.len h2
  have HCV : Hid (val zs < 4294967296 ^ 200) := val_small 200 hc.wf hc.len h3
  have HCMP : Hid (cmpN (val xs) (val ys) = -1) := by show _ = _; unfold cmpN; split <;> (try split) <;> omega
  have HCMP2 : Hid (cmpN (val ys) (val xs) = 1) := by show _ = _; unfold cmpN; split <;> (try split) <;> omega
  have HH := Lib.hid hcmp
  clear hcmp
  obtain ⟨cg, hcg⟩ : ∃ cg, cg = cmpN (val xs + val ys) (val xs) := ⟨_, rfl⟩
  have hcg0 : 0 ≤ cg := by rw [hcg]; unfold cmpN; rw [if_neg (by omega)]; split <;> omega
  have HCG : Hid (cmpN (val (limbs (val xs + val ys))) (val xs) = cg) := by rw [Hid, val_limbs]; exact hcg.symm
  clear hcg
  have HL0 := Lib.hid (All.cons ha (All.cons hb (All.cons hc (All.nil _))))
  have HB0 := Lib.hid (Below.refl w.heap.size w)
  clear ha hb hc
  go_enter Try.func5, Try.ntmps5
  go_wp2_with fail
  refine (add_any _ _ _ _ _ _ _ _ _ HL0.out.head HL0.out.tail.head (by omega) (by omega)).mono ?_
  rintro e w1 ⟨ab0, abn, abc, rfl, hX, hB⟩
  have hn_ab : abn ≤ 201 := by rw [← hX.len]; exact limbs_len (sum_lt HA.out HBV.out)
  have HL1 := Lib.hid (All.cons hX.sl (HL0.out.below hB))
  have HB1 := Lib.hid (Below.steps HB0.out hB)
  clear hX hB HL0 HB0
  go_wp2_with fail
  refine (sub_any _ _ _ _ _ _ _ _ _ HL1.out.head HL1.out.tail.tail.head (by rw [val_limbs]; omega)).mono ?_
  rintro e w2 ⟨back0, backn, backc, rfl, hX, hB⟩
  rw [val_limbs, Nat.add_sub_cancel] at hX
  have HL2 := Lib.hid (All.cons hX.sl (HL1.out.below hB))
  have HB2 := Lib.hid (Below.steps HB1.out hB)
  clear hX hB HL1 HB1
  go_wp2_with fail
  refine (sub_low _ _ _ _ _ _ _ _ _ HL2.out.tail.tail.head HL2.out.tail.tail.tail.head HH.out).mono ?_
  rintro e w3 ⟨d0, dn, dc, rfl, hX, hB⟩
  have HL3 := Lib.hid (All.cons hX.sl (HL2.out.below hB))
  have HB3 := Lib.hid (Below.steps HB2.out hB)
  clear hX hB HL2 HB2
  go_wp2_with fail
  refine (canonical_yes _ _ _ _ _ HL3.out.tail.tail.head (canon_limbs _)).mono ?_
  rintro e w' ⟨rfl, rfl⟩
  go_wp2_with fail
  refine (add_any _ _ _ _ _ _ _ _ _ HL3.out.tail.tail.tail.tail.head HL3.out.tail.tail.tail.head (by omega) (by omega)).mono ?_
  rintro e w4 ⟨ba0, ban, bac, rfl, hX, hB⟩
  have HL4 := Lib.hid (All.cons hX.sl (HL3.out.below hB))
  have HB4 := Lib.hid (Below.steps HB3.out hB)
  clear hX hB HL3 HB3
  go_wp2_with fail
  refine (same_b _ _ _ _ _ _ _ _ _ HL4.out.tail.tail.tail.head HL4.out.head (by rw [Nat.add_comm])).mono ?_
  rintro e w5 ⟨rfl, hB⟩
  have HL5 := Lib.hid (HL4.out.below hB)
  have HB5 := Lib.hid (Below.steps HB4.out hB)
  clear hB HL4 HB4
  go_wp2_with fail
  refine (add_any _ _ _ _ _ _ _ _ _ HL5.out.tail.tail.tail.head HL5.out.tail.tail.tail.tail.tail.tail.head (by omega) (by omega)).mono ?_
  rintro e w6 ⟨abc0, abcn, abcc, rfl, hX, hB⟩
  have HL6 := Lib.hid (All.cons hX.sl (HL5.out.below hB))
  have HB6 := Lib.hid (Below.steps HB5.out hB)
  clear hX hB HL5 HB5
  go_wp2_with fail
  refine (add_any _ _ _ _ _ _ _ _ _ HL6.out.tail.tail.tail.tail.tail.tail.head HL6.out.tail.tail.tail.tail.tail.tail.tail.head (by omega) (by omega)).mono ?_
  rintro e w7 ⟨bc0, bcn, bcc, rfl, hX, hB⟩
  have hn_bc : bcn ≤ 201 := by rw [← hX.len]; exact limbs_len (sum_lt HBV.out HCV.out)
  have HL7 := Lib.hid (All.cons hX.sl (HL6.out.below hB))
  have HB7 := Lib.hid (Below.steps HB6.out hB)
  clear hX hB HL6 HB6
  go_wp2_with fail
  refine (add_any _ _ _ _ _ _ _ _ _ HL7.out.tail.tail.tail.tail.tail.tail.head HL7.out.head (by omega) (by omega)).mono ?_
  rintro e w8 ⟨abc20, abc2n, abc2c, rfl, hX, hB⟩
  have HL8 := Lib.hid (All.cons hX.sl (HL7.out.below hB))
  have HB8 := Lib.hid (Below.steps HB7.out hB)
  clear hX hB HL7 HB7
  go_wp2_with fail
  refine (same_b _ _ _ _ _ _ _ _ _ HL8.out.tail.tail.head HL8.out.head (by rw [val_limbs, val_limbs, Nat.add_assoc])).mono ?_
  rintro e w9 ⟨rfl, hB⟩
  have HL9 := Lib.hid (HL8.out.below hB)
  have HB9 := Lib.hid (Below.steps HB8.out hB)
  clear hB HL8 HB8
  go_wp2_with fail
  refine (trim_new _ _ _ _ _ HL9.out.tail.tail.tail.tail.tail.tail.tail.head).mono ?_
  rintro e w10 ⟨ta0, tan, tac, rfl, hX, hB⟩
  have HL10 := Lib.hid (All.cons hX.sl (HL9.out.below hB))
  have HB10 := Lib.hid (Below.steps HB9.out hB)
  clear hX hB HL9 HB9
  go_wp2_with fail
  refine (same_b _ _ _ _ _ _ _ _ _ HL10.out.tail.tail.tail.tail.tail.tail.head HL10.out.head rfl).mono ?_
  rintro e w11 ⟨rfl, hB⟩
  have HL11 := Lib.hid (HL10.out.below hB)
  have HB11 := Lib.hid (Below.steps HB10.out hB)
  clear hB HL10 HB10
  go_wp2_with fail
  refine (cmp_b cg _ _ _ _ _ _ _ _ _ HL11.out.tail.tail.tail.tail.tail.tail.tail.head HL11.out.tail.tail.tail.tail.tail.tail.tail.tail.head HCG).mono ?_
  rintro e w12 ⟨rfl, hB⟩
  have HL12 := Lib.hid (HL11.out.below hB)
  have HB12 := Lib.hid (Below.steps HB11.out hB)
  clear hB HL11 HB11
  go_wp2_with fail
  refine (cmp_b (-1) _ _ _ _ _ _ _ _ _ HL12.out.tail.tail.tail.tail.tail.tail.tail.tail.head HL12.out.tail.tail.tail.tail.tail.tail.tail.tail.tail.head HCMP).mono ?_
  rintro e w13 ⟨rfl, hB⟩
  have HL13 := Lib.hid (HL12.out.below hB)
  have HB13 := Lib.hid (Below.steps HB12.out hB)
  clear hB HL12 HB12
  go_wp2_with fail
  refine (cmp_b (-1) _ _ _ _ _ _ _ _ _ HL13.out.tail.tail.tail.tail.tail.tail.tail.tail.head HL13.out.tail.tail.tail.tail.tail.tail.tail.tail.tail.head HCMP).mono ?_
  rintro e w14 ⟨rfl, hB⟩
  have HL14 := Lib.hid (HL13.out.below hB)
  have HB14 := Lib.hid (Below.steps HB13.out hB)
  clear hB HL13 HB13
  go_wp2_with fail
  refine (cmp_b (1) _ _ _ _ _ _ _ _ _ HL14.out.tail.tail.tail.tail.tail.tail.tail.tail.tail.head HL14.out.tail.tail.tail.tail.tail.tail.tail.tail.head HCMP2).mono ?_
  rintro e w15 ⟨rfl, hB⟩
  have HL15 := Lib.hid (HL14.out.below hB)
  have HB15 := Lib.hid (Below.steps HB14.out hB)
  clear hB HL14 HB14
  go_wp2_with fail
  refine (cmp_b (-1) _ _ _ _ _ _ _ _ _ HL15.out.tail.tail.tail.tail.tail.tail.tail.tail.head HL15.out.tail.tail.tail.tail.tail.tail.tail.tail.tail.head HCMP).mono ?_
  rintro e w16 ⟨rfl, hB⟩
  have HL16 := Lib.hid (HL15.out.below hB)
  have HB16 := Lib.hid (Below.steps HB15.out hB)
  clear hB HL15 HB15
  go_wp2_with fail
  refine (trim_new _ _ _ _ _ HL16.out.tail.tail.tail.tail.tail.tail.tail.tail.head).mono ?_
  rintro e w17 ⟨ta20, ta2n, ta2c, rfl, hX, hB⟩
  have HL17 := Lib.hid (All.cons hX.sl (HL16.out.below hB))
  have HB17 := Lib.hid (Below.steps HB16.out hB)
  clear hX hB HL16 HB16
  go_wp2_with fail
  refine (trim_new _ _ _ _ _ HL17.out.tail.tail.tail.tail.tail.tail.tail.tail.tail.tail.head).mono ?_
  rintro e w18 ⟨tb20, tb2n, tb2c, rfl, hX, hB⟩
  have HL18 := Lib.hid (All.cons hX.sl (HL17.out.below hB))
  have HB18 := Lib.hid (Below.steps HB17.out hB)
  clear hX hB HL17 HB17
  go_wp2_with fail
  refine (same_bb false _ _ _ _ _ _ _ _ _ HL18.out.tail.head HL18.out.head (sameB_ne (by have := HH.out; omega))).mono ?_
  rintro e w19 ⟨rfl, hB⟩
  have HL19 := Lib.hid (HL18.out.below hB)
  have HB19 := Lib.hid (Below.steps HB18.out hB)
  clear hB HL18 HB18
  go_wp2_with fail
  refine (known_any _).mono ?_
  rintro e w' ⟨rfl, hB⟩
  go_wp2_with fail
  go_ret
  exact ⟨rfl, Below.steps HB19.out hB⟩

set_option maxHeartbeats 2000000 in
theorem natLaws_eq (a0 b0 c0 : Option Addr) (la ca lb cb lc cc : Nat) (xs ys zs : List Nat) (w : World) (ha : Sl w a0 la ca xs) (hb : Sl w b0 lb cb ys) (hc : Sl w c0 lc cc zs) (h1 : la ≤ 200) (h2 : lb ≤ 200) (h3 : lc ≤ 200) (hcmp : val xs = val ys) :
    Calls Try.prog 5 #[.slice a0 la ca, .slice b0 lb cb, .slice c0 lc cc] w (True' w) := by
  have HA : Hid (val xs < 4294967296 ^ 200) := val_small 200 ha.wf ha.len h1
  have HBV : Hid (val ys < 4294967296 ^ 200) := val_small 200 hb.wf hb.len h2
  have HCV : Hid (val zs < 4294967296 ^ 200) := val_small 200 hc.wf hc.len h3
  have HCMP : Hid (cmpN (val xs) (val ys) = 0) := by show _ = _; unfold cmpN; split <;> (try split) <;> omega
  have HCMP2 : Hid (cmpN (val ys) (val xs) = 0) := by show _ = _; unfold cmpN; split <;> (try split) <;> omega
  have HH := Lib.hid hcmp
  clear hcmp
  obtain ⟨cg, hcg⟩ : ∃ cg, cg = cmpN (val xs + val ys) (val xs) := ⟨_, rfl⟩
  have hcg0 : 0 ≤ cg := by rw [hcg]; unfold cmpN; rw [if_neg (by omega)]; split <;> omega
  have HCG : Hid (cmpN (val (limbs (val xs + val ys))) (val xs) = cg) := by rw [Hid, val_limbs]; exact hcg.symm
  clear hcg
  have HL0 := Lib.hid (All.cons ha (All.cons hb (All.cons hc (All.nil _))))
  have HB0 := Lib.hid (Below.refl w.heap.size w)
  clear ha hb hc
  go_enter Try.func5, Try.ntmps5
  go_wp2_with fail
  refine (add_any _ _ _ _ _ _ _ _ _ HL0.out.head HL0.out.tail.head (by omega) (by omega)).mono ?_
  rintro e w1 ⟨ab0, abn, abc, rfl, hX, hB⟩
  have hn_ab : abn ≤ 201 := by rw [← hX.len]; exact limbs_len (sum_lt HA.out HBV.out)
  have HL1 := Lib.hid (All.cons hX.sl (HL0.out.below hB))
  have HB1 := Lib.hid (Below.steps HB0.out hB)
  clear hX hB HL0 HB0
  go_wp2_with fail
  refine (sub_any _ _ _ _ _ _ _ _ _ HL1.out.head HL1.out.tail.tail.head (by rw [val_limbs]; omega)).mono ?_
  rintro e w2 ⟨back0, backn, backc, rfl, hX, hB⟩
  rw [val_limbs, Nat.add_sub_cancel] at hX
  have HL2 := Lib.hid (All.cons hX.sl (HL1.out.below hB))
  have HB2 := Lib.hid (Below.steps HB1.out hB)
  clear hX hB HL1 HB1
  go_wp2_with fail
  refine (sub_any _ _ _ _ _ _ _ _ _ HL2.out.tail.tail.head HL2.out.tail.tail.tail.head (by have := HH.out; omega)).mono ?_
  rintro e w3 ⟨d0, dn, dc, rfl, hX, hB⟩
  have hn_d : dn ≤ 200 := by rw [← hX.len]; exact limbs_len (by have := HA.out; omega)
  have HL3 := Lib.hid (All.cons hX.sl (HL2.out.below hB))
  have HB3 := Lib.hid (Below.steps HB2.out hB)
  clear hX hB HL2 HB2
  go_wp2_with fail
  refine (canonical_yes _ _ _ _ _ HL3.out.tail.tail.head (canon_limbs _)).mono ?_
  rintro e w' ⟨rfl, rfl⟩
  go_wp2_with fail
  refine (add_any _ _ _ _ _ _ _ _ _ HL3.out.tail.tail.tail.tail.head HL3.out.tail.tail.tail.head (by omega) (by omega)).mono ?_
  rintro e w4 ⟨ba0, ban, bac, rfl, hX, hB⟩
  have HL4 := Lib.hid (All.cons hX.sl (HL3.out.below hB))
  have HB4 := Lib.hid (Below.steps HB3.out hB)
  clear hX hB HL3 HB3
  go_wp2_with fail
  refine (same_b _ _ _ _ _ _ _ _ _ HL4.out.tail.tail.tail.head HL4.out.head (by rw [Nat.add_comm])).mono ?_
  rintro e w5 ⟨rfl, hB⟩
  have HL5 := Lib.hid (HL4.out.below hB)
  have HB5 := Lib.hid (Below.steps HB4.out hB)
  clear hB HL4 HB4
  go_wp2_with fail
  refine (add_any _ _ _ _ _ _ _ _ _ HL5.out.tail.tail.tail.head HL5.out.tail.tail.tail.tail.tail.tail.head (by omega) (by omega)).mono ?_
  rintro e w6 ⟨abc0, abcn, abcc, rfl, hX, hB⟩
  have HL6 := Lib.hid (All.cons hX.sl (HL5.out.below hB))
  have HB6 := Lib.hid (Below.steps HB5.out hB)
  clear hX hB HL5 HB5
  go_wp2_with fail
  refine (add_any _ _ _ _ _ _ _ _ _ HL6.out.tail.tail.tail.tail.tail.tail.head HL6.out.tail.tail.tail.tail.tail.tail.tail.head (by omega) (by omega)).mono ?_
  rintro e w7 ⟨bc0, bcn, bcc, rfl, hX, hB⟩
  have hn_bc : bcn ≤ 201 := by rw [← hX.len]; exact limbs_len (sum_lt HBV.out HCV.out)
  have HL7 := Lib.hid (All.cons hX.sl (HL6.out.below hB))
  have HB7 := Lib.hid (Below.steps HB6.out hB)
  clear hX hB HL6 HB6
  go_wp2_with fail
  refine (add_any _ _ _ _ _ _ _ _ _ HL7.out.tail.tail.tail.tail.tail.tail.head HL7.out.head (by omega) (by omega)).mono ?_
  rintro e w8 ⟨abc20, abc2n, abc2c, rfl, hX, hB⟩
  have HL8 := Lib.hid (All.cons hX.sl (HL7.out.below hB))
  have HB8 := Lib.hid (Below.steps HB7.out hB)
  clear hX hB HL7 HB7
  go_wp2_with fail
  refine (same_b _ _ _ _ _ _ _ _ _ HL8.out.tail.tail.head HL8.out.head (by rw [val_limbs, val_limbs, Nat.add_assoc])).mono ?_
  rintro e w9 ⟨rfl, hB⟩
  have HL9 := Lib.hid (HL8.out.below hB)
  have HB9 := Lib.hid (Below.steps HB8.out hB)
  clear hB HL8 HB8
  go_wp2_with fail
  refine (trim_new _ _ _ _ _ HL9.out.tail.tail.tail.tail.tail.tail.tail.head).mono ?_
  rintro e w10 ⟨ta0, tan, tac, rfl, hX, hB⟩
  have HL10 := Lib.hid (All.cons hX.sl (HL9.out.below hB))
  have HB10 := Lib.hid (Below.steps HB9.out hB)
  clear hX hB HL9 HB9
  go_wp2_with fail
  refine (same_b _ _ _ _ _ _ _ _ _ HL10.out.tail.tail.tail.tail.tail.tail.head HL10.out.head rfl).mono ?_
  rintro e w11 ⟨rfl, hB⟩
  have HL11 := Lib.hid (HL10.out.below hB)
  have HB11 := Lib.hid (Below.steps HB10.out hB)
  clear hB HL10 HB10
  go_wp2_with fail
  refine (cmp_b cg _ _ _ _ _ _ _ _ _ HL11.out.tail.tail.tail.tail.tail.tail.tail.head HL11.out.tail.tail.tail.tail.tail.tail.tail.tail.head HCG).mono ?_
  rintro e w12 ⟨rfl, hB⟩
  have HL12 := Lib.hid (HL11.out.below hB)
  have HB12 := Lib.hid (Below.steps HB11.out hB)
  clear hB HL11 HB11
  go_wp2_with fail
  refine (cmp_b (0) _ _ _ _ _ _ _ _ _ HL12.out.tail.tail.tail.tail.tail.tail.tail.tail.head HL12.out.tail.tail.tail.tail.tail.tail.tail.tail.tail.head HCMP).mono ?_
  rintro e w13 ⟨rfl, hB⟩
  have HL13 := Lib.hid (HL12.out.below hB)
  have HB13 := Lib.hid (Below.steps HB12.out hB)
  clear hB HL12 HB12
  go_wp2_with fail
  refine (cmp_b (0) _ _ _ _ _ _ _ _ _ HL13.out.tail.tail.tail.tail.tail.tail.tail.tail.head HL13.out.tail.tail.tail.tail.tail.tail.tail.tail.tail.head HCMP).mono ?_
  rintro e w14 ⟨rfl, hB⟩
  have HL14 := Lib.hid (HL13.out.below hB)
  have HB14 := Lib.hid (Below.steps HB13.out hB)
  clear hB HL13 HB13
  go_wp2_with fail
  refine (cmp_b (0) _ _ _ _ _ _ _ _ _ HL14.out.tail.tail.tail.tail.tail.tail.tail.tail.tail.head HL14.out.tail.tail.tail.tail.tail.tail.tail.tail.head HCMP2).mono ?_
  rintro e w15 ⟨rfl, hB⟩
  have HL15 := Lib.hid (HL14.out.below hB)
  have HB15 := Lib.hid (Below.steps HB14.out hB)
  clear hB HL14 HB14
  go_wp2_with fail
  refine (cmp_b (0) _ _ _ _ _ _ _ _ _ HL15.out.tail.tail.tail.tail.tail.tail.tail.tail.head HL15.out.tail.tail.tail.tail.tail.tail.tail.tail.tail.head HCMP).mono ?_
  rintro e w16 ⟨rfl, hB⟩
  have HL16 := Lib.hid (HL15.out.below hB)
  have HB16 := Lib.hid (Below.steps HB15.out hB)
  clear hB HL15 HB15
  go_wp2_with fail
  refine (trim_new _ _ _ _ _ HL16.out.tail.tail.tail.tail.tail.tail.tail.tail.head).mono ?_
  rintro e w17 ⟨ta20, ta2n, ta2c, rfl, hX, hB⟩
  have HL17 := Lib.hid (All.cons hX.sl (HL16.out.below hB))
  have HB17 := Lib.hid (Below.steps HB16.out hB)
  clear hX hB HL16 HB16
  go_wp2_with fail
  refine (trim_new _ _ _ _ _ HL17.out.tail.tail.tail.tail.tail.tail.tail.tail.tail.tail.head).mono ?_
  rintro e w18 ⟨tb20, tb2n, tb2c, rfl, hX, hB⟩
  have HL18 := Lib.hid (All.cons hX.sl (HL17.out.below hB))
  have HB18 := Lib.hid (Below.steps HB17.out hB)
  clear hX hB HL17 HB17
  go_wp2_with fail
  refine (same_b _ _ _ _ _ _ _ _ _ HL18.out.tail.head HL18.out.head (by rw [HH.out])).mono ?_
  rintro e w19 ⟨rfl, hB⟩
  have HL19 := Lib.hid (HL18.out.below hB)
  have HB19 := Lib.hid (Below.steps HB18.out hB)
  clear hB HL18 HB18
  go_wp2_with fail
  refine (add_any _ _ _ _ _ _ _ _ _ HL19.out.tail.tail.tail.tail.tail.tail.tail.head HL19.out.tail.tail.tail.tail.tail.tail.tail.tail.tail.tail.tail.head (by omega) (by omega)).mono ?_
  rintro e w20 ⟨db0, dbn, dbc, rfl, hX, hB⟩
  have HL20 := Lib.hid (All.cons hX.sl (HL19.out.below hB))
  have HB20 := Lib.hid (Below.steps HB19.out hB)
  clear hX hB HL19 HB19
  go_wp2_with fail
  refine (trim_new _ _ _ _ _ HL20.out.tail.tail.tail.tail.tail.tail.tail.tail.tail.tail.tail.head).mono ?_
  rintro e w21 ⟨ta30, ta3n, ta3c, rfl, hX, hB⟩
  have HL21 := Lib.hid (All.cons hX.sl (HL20.out.below hB))
  have HB21 := Lib.hid (Below.steps HB20.out hB)
  clear hX hB HL20 HB20
  go_wp2_with fail
  refine (same_b _ _ _ _ _ _ _ _ _ HL21.out.tail.head HL21.out.head (by rw [val_limbs]; congr 1; have := HH.out; omega)).mono ?_
  rintro e w22 ⟨rfl, hB⟩
  have HL22 := Lib.hid (HL21.out.below hB)
  have HB22 := Lib.hid (Below.steps HB21.out hB)
  clear hB HL21 HB21
  go_wp2_with fail
  refine (known_any _).mono ?_
  rintro e w' ⟨rfl, hB⟩
  go_wp2_with fail
  go_ret
  exact ⟨rfl, Below.steps HB22.out hB⟩

set_option maxHeartbeats 2000000 in
theorem natLaws_gt (a0 b0 c0 : Option Addr) (la ca lb cb lc cc : Nat) (xs ys zs : List Nat) (w : World) (ha : Sl w a0 la ca xs) (hb : Sl w b0 lb cb ys) (hc : Sl w c0 lc cc zs) (h1 : la ≤ 200) (h2 : lb ≤ 200) (h3 : lc ≤ 200) (hcmp : val ys < val xs) :
    Calls Try.prog 5 #[.slice a0 la ca, .slice b0 lb cb, .slice c0 lc cc] w (True' w) := by
  have HA : Hid (val xs < 4294967296 ^ 200) := val_small 200 ha.wf ha.len h1
  have HBV : Hid (val ys < 4294967296 ^ 200) := val_small 200 hb.wf hb.len h2
  have HCV : Hid (val zs < 4294967296 ^ 200) := val_small 200 hc.wf hc.len h3
  have HCMP : Hid (cmpN (val xs) (val ys) = 1) := by show _ = _; unfold cmpN; split <;> (try split) <;> omega
  have HCMP2 : Hid (cmpN (val ys) (val xs) = -1) := by show _ = _; unfold cmpN; split <;> (try split) <;> omega
  have HH := Lib.hid hcmp
  clear hcmp
  obtain ⟨cg, hcg⟩ : ∃ cg, cg = cmpN (val xs + val ys) (val xs) := ⟨_, rfl⟩
  have hcg0 : 0 ≤ cg := by rw [hcg]; unfold cmpN; rw [if_neg (by omega)]; split <;> omega
  have HCG : Hid (cmpN (val (limbs (val xs + val ys))) (val xs) = cg) := by rw [Hid, val_limbs]; exact hcg.symm
  clear hcg
  have HL0 := Lib.hid (All.cons ha (All.cons hb (All.cons hc (All.nil _))))
  have HB0 := Lib.hid (Below.refl w.heap.size w)
  clear ha hb hc
  go_enter Try.func5, Try.ntmps5
  go_wp2_with fail
  refine (add_any _ _ _ _ _ _ _ _ _ HL0.out.head HL0.out.tail.head (by omega) (by omega)).mono ?_
  rintro e w1 ⟨ab0, abn, abc, rfl, hX, hB⟩
  have hn_ab : abn ≤ 201 := by rw [← hX.len]; exact limbs_len (sum_lt HA.out HBV.out)
  have HL1 := Lib.hid (All.cons hX.sl (HL0.out.below hB))
  have HB1 := Lib.hid (Below.steps HB0.out hB)
  clear hX hB HL0 HB0
  go_wp2_with fail
  refine (sub_any _ _ _ _ _ _ _ _ _ HL1.out.head HL1.out.tail.tail.head (by rw [val_limbs]; omega)).mono ?_
  rintro e w2 ⟨back0, backn, backc, rfl, hX, hB⟩
  rw [val_limbs, Nat.add_sub_cancel] at hX
  have HL2 := Lib.hid (All.cons hX.sl (HL1.out.below hB))
  have HB2 := Lib.hid (Below.steps HB1.out hB)
  clear hX hB HL1 HB1
  go_wp2_with fail
  refine (sub_any _ _ _ _ _ _ _ _ _ HL2.out.tail.tail.head HL2.out.tail.tail.tail.head (by have := HH.out; omega)).mono ?_
  rintro e w3 ⟨d0, dn, dc, rfl, hX, hB⟩
  have hn_d : dn ≤ 200 := by rw [← hX.len]; exact limbs_len (by have := HA.out; omega)
  have HL3 := Lib.hid (All.cons hX.sl (HL2.out.below hB))
  have HB3 := Lib.hid (Below.steps HB2.out hB)
  clear hX hB HL2 HB2
  go_wp2_with fail
  refine (canonical_yes _ _ _ _ _ HL3.out.tail.tail.head (canon_limbs _)).mono ?_
  rintro e w' ⟨rfl, rfl⟩
  go_wp2_with fail
  refine (add_any _ _ _ _ _ _ _ _ _ HL3.out.tail.tail.tail.tail.head HL3.out.tail.tail.tail.head (by omega) (by omega)).mono ?_
  rintro e w4 ⟨ba0, ban, bac, rfl, hX, hB⟩
  have HL4 := Lib.hid (All.cons hX.sl (HL3.out.below hB))
  have HB4 := Lib.hid (Below.steps HB3.out hB)
  clear hX hB HL3 HB3
  go_wp2_with fail
  refine (same_b _ _ _ _ _ _ _ _ _ HL4.out.tail.tail.tail.head HL4.out.head (by rw [Nat.add_comm])).mono ?_
  rintro e w5 ⟨rfl, hB⟩
  have HL5 := Lib.hid (HL4.out.below hB)
  have HB5 := Lib.hid (Below.steps HB4.out hB)
  clear hB HL4 HB4
  go_wp2_with fail
  refine (add_any _ _ _ _ _ _ _ _ _ HL5.out.tail.tail.tail.head HL5.out.tail.tail.tail.tail.tail.tail.head (by omega) (by omega)).mono ?_
  rintro e w6 ⟨abc0, abcn, abcc, rfl, hX, hB⟩
  have HL6 := Lib.hid (All.cons hX.sl (HL5.out.below hB))
  have HB6 := Lib.hid (Below.steps HB5.out hB)
  clear hX hB HL5 HB5
  go_wp2_with fail
  refine (add_any _ _ _ _ _ _ _ _ _ HL6.out.tail.tail.tail.tail.tail.tail.head HL6.out.tail.tail.tail.tail.tail.tail.tail.head (by omega) (by omega)).mono ?_
  rintro e w7 ⟨bc0, bcn, bcc, rfl, hX, hB⟩
  have hn_bc : bcn ≤ 201 := by rw [← hX.len]; exact limbs_len (sum_lt HBV.out HCV.out)
  have HL7 := Lib.hid (All.cons hX.sl (HL6.out.below hB))
  have HB7 := Lib.hid (Below.steps HB6.out hB)
  clear hX hB HL6 HB6
  go_wp2_with fail
  refine (add_any _ _ _ _ _ _ _ _ _ HL7.out.tail.tail.tail.tail.tail.tail.head HL7.out.head (by omega) (by omega)).mono ?_
  rintro e w8 ⟨abc20, abc2n, abc2c, rfl, hX, hB⟩
  have HL8 := Lib.hid (All.cons hX.sl (HL7.out.below hB))
  have HB8 := Lib.hid (Below.steps HB7.out hB)
  clear hX hB HL7 HB7
  go_wp2_with fail
  refine (same_b _ _ _ _ _ _ _ _ _ HL8.out.tail.tail.head HL8.out.head (by rw [val_limbs, val_limbs, Nat.add_assoc])).mono ?_
  rintro e w9 ⟨rfl, hB⟩
  have HL9 := Lib.hid (HL8.out.below hB)
  have HB9 := Lib.hid (Below.steps HB8.out hB)
  clear hB HL8 HB8
  go_wp2_with fail
  refine (trim_new _ _ _ _ _ HL9.out.tail.tail.tail.tail.tail.tail.tail.head).mono ?_
  rintro e w10 ⟨ta0, tan, tac, rfl, hX, hB⟩
  have HL10 := Lib.hid (All.cons hX.sl (HL9.out.below hB))
  have HB10 := Lib.hid (Below.steps HB9.out hB)
  clear hX hB HL9 HB9
  go_wp2_with fail
  refine (same_b _ _ _ _ _ _ _ _ _ HL10.out.tail.tail.tail.tail.tail.tail.head HL10.out.head rfl).mono ?_
  rintro e w11 ⟨rfl, hB⟩
  have HL11 := Lib.hid (HL10.out.below hB)
  have HB11 := Lib.hid (Below.steps HB10.out hB)
  clear hB HL10 HB10
  go_wp2_with fail
  refine (cmp_b cg _ _ _ _ _ _ _ _ _ HL11.out.tail.tail.tail.tail.tail.tail.tail.head HL11.out.tail.tail.tail.tail.tail.tail.tail.tail.head HCG).mono ?_
  rintro e w12 ⟨rfl, hB⟩
  have HL12 := Lib.hid (HL11.out.below hB)
  have HB12 := Lib.hid (Below.steps HB11.out hB)
  clear hB HL11 HB11
  go_wp2_with fail
  refine (cmp_b (1) _ _ _ _ _ _ _ _ _ HL12.out.tail.tail.tail.tail.tail.tail.tail.tail.head HL12.out.tail.tail.tail.tail.tail.tail.tail.tail.tail.head HCMP).mono ?_
  rintro e w13 ⟨rfl, hB⟩
  have HL13 := Lib.hid (HL12.out.below hB)
  have HB13 := Lib.hid (Below.steps HB12.out hB)
  clear hB HL12 HB12
  go_wp2_with fail
  refine (cmp_b (1) _ _ _ _ _ _ _ _ _ HL13.out.tail.tail.tail.tail.tail.tail.tail.tail.head HL13.out.tail.tail.tail.tail.tail.tail.tail.tail.tail.head HCMP).mono ?_
  rintro e w14 ⟨rfl, hB⟩
  have HL14 := Lib.hid (HL13.out.below hB)
  have HB14 := Lib.hid (Below.steps HB13.out hB)
  clear hB HL13 HB13
  go_wp2_with fail
  refine (cmp_b (-1) _ _ _ _ _ _ _ _ _ HL14.out.tail.tail.tail.tail.tail.tail.tail.tail.tail.head HL14.out.tail.tail.tail.tail.tail.tail.tail.tail.head HCMP2).mono ?_
  rintro e w15 ⟨rfl, hB⟩
  have HL15 := Lib.hid (HL14.out.below hB)
  have HB15 := Lib.hid (Below.steps HB14.out hB)
  clear hB HL14 HB14
  go_wp2_with fail
  refine (cmp_b (1) _ _ _ _ _ _ _ _ _ HL15.out.tail.tail.tail.tail.tail.tail.tail.tail.head HL15.out.tail.tail.tail.tail.tail.tail.tail.tail.tail.head HCMP).mono ?_
  rintro e w16 ⟨rfl, hB⟩
  have HL16 := Lib.hid (HL15.out.below hB)
  have HB16 := Lib.hid (Below.steps HB15.out hB)
  clear hB HL15 HB15
  go_wp2_with fail
  refine (trim_new _ _ _ _ _ HL16.out.tail.tail.tail.tail.tail.tail.tail.tail.head).mono ?_
  rintro e w17 ⟨ta20, ta2n, ta2c, rfl, hX, hB⟩
  have HL17 := Lib.hid (All.cons hX.sl (HL16.out.below hB))
  have HB17 := Lib.hid (Below.steps HB16.out hB)
  clear hX hB HL16 HB16
  go_wp2_with fail
  refine (trim_new _ _ _ _ _ HL17.out.tail.tail.tail.tail.tail.tail.tail.tail.tail.tail.head).mono ?_
  rintro e w18 ⟨tb20, tb2n, tb2c, rfl, hX, hB⟩
  have HL18 := Lib.hid (All.cons hX.sl (HL17.out.below hB))
  have HB18 := Lib.hid (Below.steps HB17.out hB)
  clear hX hB HL17 HB17
  go_wp2_with fail
  refine (same_bb false _ _ _ _ _ _ _ _ _ HL18.out.tail.head HL18.out.head (sameB_ne (by have := HH.out; omega))).mono ?_
  rintro e w19 ⟨rfl, hB⟩
  have HL19 := Lib.hid (HL18.out.below hB)
  have HB19 := Lib.hid (Below.steps HB18.out hB)
  clear hB HL18 HB18
  go_wp2_with fail
  refine (add_any _ _ _ _ _ _ _ _ _ HL19.out.tail.tail.tail.tail.tail.tail.tail.head HL19.out.tail.tail.tail.tail.tail.tail.tail.tail.tail.tail.tail.head (by omega) (by omega)).mono ?_
  rintro e w20 ⟨db0, dbn, dbc, rfl, hX, hB⟩
  have HL20 := Lib.hid (All.cons hX.sl (HL19.out.below hB))
  have HB20 := Lib.hid (Below.steps HB19.out hB)
  clear hX hB HL19 HB19
  go_wp2_with fail
  refine (trim_new _ _ _ _ _ HL20.out.tail.tail.tail.tail.tail.tail.tail.tail.tail.tail.tail.head).mono ?_
  rintro e w21 ⟨ta30, ta3n, ta3c, rfl, hX, hB⟩
  have HL21 := Lib.hid (All.cons hX.sl (HL20.out.below hB))
  have HB21 := Lib.hid (Below.steps HB20.out hB)
  clear hX hB HL20 HB20
  go_wp2_with fail
  refine (same_b _ _ _ _ _ _ _ _ _ HL21.out.tail.head HL21.out.head (by rw [val_limbs]; congr 1; have := HH.out; omega)).mono ?_
  rintro e w22 ⟨rfl, hB⟩
  have HL22 := Lib.hid (HL21.out.below hB)
  have HB22 := Lib.hid (Below.steps HB21.out hB)
  clear hB HL21 HB21
  go_wp2_with fail
  refine (known_any _).mono ?_
  rintro e w' ⟨rfl, hB⟩
  go_wp2_with fail
  go_ret
  exact ⟨rfl, Below.steps HB22.out hB⟩

theorem natLaws_any (a0 b0 c0 : Option Addr) (la ca lb cb lc cc : Nat) (xs ys zs : List Nat) (w : World) (ha : Sl w a0 la ca xs) (hb : Sl w b0 lb cb ys) (hc : Sl w c0 lc cc zs) :
    Calls Try.prog 5 #[.slice a0 la ca, .slice b0 lb cb, .slice c0 lc cc] w (True' w) := by
  by_cases h : 200 < la ∨ 200 < lb ∨ 200 < lc
  · exact natLaws_long _ _ _ _ _ _ _ _ _ _ _ _ _ ha hb hc h
  · rcases Nat.lt_trichotomy (val xs) (val ys) with h1 | h1 | h1
    · exact natLaws_lt _ _ _ _ _ _ _ _ _ _ _ _ _ ha hb hc (by omega) (by omega) (by omega) h1
    · exact natLaws_eq _ _ _ _ _ _ _ _ _ _ _ _ _ ha hb hc (by omega) (by omega) (by omega) h1
    · exact natLaws_gt _ _ _ _ _ _ _ _ _ _ _ _ _ ha hb hc (by omega) (by omega) (by omega) h1

end Go.Proofs.Ytkopkmbijmofjaa

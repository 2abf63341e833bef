/-
  The walk of the law NatAdds.
-/
import Derived.Test.YtkopkmbijmofjaaGLaw
import Derived.Test.YtkopkmbijmofjaaGreat
import Derived.Test.YtkopkmbijmofjaaGMem
import Derived.Test.YtkopkmbijmofjaaKnown
import Derived.Test.YtkopkmbijmofjaaGNatA
import Derived.Test.YtkopkmbijmofjaaGRef
namespace Go.Proofs.Ytkopkmbijmofjaa
open Go.RowKit

set_option maxHeartbeats 1000000 in
theorem natAdds_long (a0 b0 : Option Addr) (la ca lb cb : Nat) (xs ys : List Nat) (w : World) (ha : Sl w a0 la ca xs) (hb : Sl w b0 lb cb ys) (h : 40 < la ∨ 40 < lb) :
    Calls Try.prog 3 #[.slice a0 la ca, .slice b0 lb cb] w (True' w) := by
  have b1 := ha.big
  have b2 := hb.big
  go_enter Try.func3, Try.ntmps3
  go_wp2_with fail
  refine (great_yes _ _ _ _ _ _ _ (by omega) (by omega) h).mono ?_
  rintro e w' ⟨rfl, rfl⟩
  go_wp2_with fail
  refine (known_any _).mono ?_
  rintro e w' ⟨rfl, hB⟩
  go_wp2_with fail
  go_ret
  exact ⟨rfl, hB⟩

set_option maxHeartbeats 4000000 in
set_option maxRecDepth 100000 in
theorem natAdds_lt (a0 b0 : Option Addr) (la ca lb cb : Nat) (xs ys : List Nat) (w : World) (ha : Sl w a0 la ca xs) (hb : Sl w b0 lb cb ys) (h1 : la ≤ 40) (h2 : lb ≤ 40) (hcmp : val xs < val ys) :
    Calls Try.prog 3 #[.slice a0 la ca, .slice b0 lb cb] w (True' w) := by
  obtain ⟨i0, hi, hz0, hz1, hz2⟩ := info_parts Try.info_u32
  have HLA := Lib.hid (dig_len 40 ha.wf ha.len h1)
  have HLB := Lib.hid (dig_len 40 hb.wf hb.len h2)
  have HH := Lib.hid hcmp
  obtain ⟨c, hc⟩ : ∃ c, c = cmpN (val xs) (val ys) := ⟨_, rfl⟩
  have hc0 : c < 0 := by rw [hc]; unfold cmpN; rw [if_pos hcmp]; omega
  have HCMP : Hid (cmpN (val xs) (val ys) = c) := hc.symm
  clear hc hcmp
  have d1 : decide (40 < la) = false := by simp; omega
  have d2 : decide (40 < lb) = false := by simp; omega
  have HL0 := Lib.hid (All.cons ha (All.cons hb (All.nil _)))
  have HD0 := Lib.hid (Dg.All.nil w)
  have HB0 := Lib.hid (Below.refl w.heap.size w)
  clear ha hb
  go_enter Try.func3, Try.ntmps3
  go_wp2_with fail
  refine (great_no _ _ _ _ _ _ _ (by omega) (by omega)).mono ?_
  rintro e w' ⟨rfl, rfl⟩
  go_wp2_with (first | (at_builtin; refine wpList_dup w w rfl (.tmp 19) (.tmp 20) 22 rfl w.heap.size i0 (.int .u32 0) Try.underlying22 hi hz0 hz1 hz2 rfl rfl _ _ _ _ rfl (HL0.out.head) (Below.refl _ _) (Nat.le_refl _) ?_; intro x0 xc w1 hX1 hB1 hb1) | (at_builtin; refine wpList_dup w1 w rfl (.tmp 22) (.tmp 23) 22 rfl w.heap.size i0 (.int .u32 0) Try.underlying22 hi hz0 hz1 hz2 rfl rfl _ _ _ _ rfl (HL0.out.tail.head.below hb1) hB1 (by exact hB1.size) ?_; intro y0 yc w2 hX2 hB2 hb2))
  have HL1 := Lib.hid (All.cons hX2.sl (All.cons (hX1.below hb2).sl ((HL0.out.below hb1).below hb2)))
  have HB1 := Lib.hid hB2
  have HD1 := Lib.hid (Dg.All.nil w2)
  clear hX1 hX2 hB1 hB2 hb1 hb2 HL0 HB0 HD0
  obtain ⟨w1, rfl⟩ : ∃ w1 : World, w1 = w2 := ⟨_, rfl⟩
  refine (Dg.of_any _ _ _ _ _ HL1.out.tail.tail.head (by omega)).mono ?_
  rintro e w2 ⟨d0, dn, dc, rfl, hX, hB⟩
  have hn_d : dn ≤ 400 := by rw [← hX.len]; exact HLA.out
  have HL2 := Lib.hid (HL1.out.below hB)
  have HD2 := Lib.hid (Dg.All.cons hX.sl (HD1.out.below hB))
  have HB2 := Lib.hid (Below.steps HB1.out hB)
  clear hX hB HL1 HB1 HD1
  go_wp2_with fail
  refine (Dg.of_any _ _ _ _ _ HL2.out.tail.tail.tail.head (by omega)).mono ?_
  rintro e w3 ⟨f0, fn, fc, rfl, hX, hB⟩
  have hn_f : fn ≤ 400 := by rw [← hX.len]; exact HLB.out
  have HL3 := Lib.hid (HL2.out.below hB)
  have HD3 := Lib.hid (Dg.All.cons hX.sl (HD2.out.below hB))
  have HB3 := Lib.hid (Below.steps HB2.out hB)
  clear hX hB HL2 HB2 HD2
  go_wp2_with fail
  refine (add_any _ _ _ _ _ _ _ _ _ HL3.out.tail.head HL3.out.head (by omega) (by omega)).mono ?_
  rintro e w4 ⟨sum0, sumn, sumc, rfl, hX, hB⟩
  have HL4 := Lib.hid (All.cons hX.sl (HL3.out.below hB))
  have HD4 := Lib.hid (HD3.out.below hB)
  have HB4 := Lib.hid (Below.steps HB3.out hB)
  clear hX hB HL3 HB3 HD3
  go_wp2_with fail
  refine (sub_low _ _ _ _ _ _ _ _ _ HL4.out.tail.tail.head HL4.out.tail.head HH.out).mono ?_
  rintro e w5 ⟨dif0, difn, difc, rfl, hX, hB⟩
  have hdn : difn = 0 := by rw [← hX.len]; rfl
  subst hdn
  have HL5 := Lib.hid (All.cons hX.sl (HL4.out.below hB))
  have HD5 := Lib.hid (HD4.out.below hB)
  have HB5 := Lib.hid (Below.steps HB4.out hB)
  clear hX hB HL4 HB4 HD4
  go_wp2_with fail
  refine (Dg.add_any _ _ _ _ _ _ _ _ _ HD5.out.tail.head HD5.out.head (by omega) (by omega)).mono ?_
  rintro e w6 ⟨df0, dfn, dfc, rfl, hX, hB⟩
  rw [Dg.val_limbs, Dg.val_limbs] at hX
  have HL6 := Lib.hid (HL5.out.below hB)
  have HD6 := Lib.hid (Dg.All.cons hX.sl (HD5.out.below hB))
  have HB6 := Lib.hid (Below.steps HB5.out hB)
  clear hX hB HL5 HB5 HD5
  go_wp2_with fail
  refine (Dg.limbs_any _ _ _ _ _ HD6.out.head).mono ?_
  rintro e w7 ⟨dl0, dln, dlc, rfl, hX, hB⟩
  have HL7 := Lib.hid (All.cons hX.sl (HL6.out.below hB))
  have HD7 := Lib.hid (HD6.out.below hB)
  have HB7 := Lib.hid (Below.steps HB6.out hB)
  clear hX hB HL6 HB6 HD6
  go_wp2_with fail
  refine (same_b _ _ _ _ _ _ _ _ _ HL7.out.tail.tail.head HL7.out.head rfl).mono ?_
  rintro e w8 ⟨rfl, hB⟩
  have HL8 := Lib.hid (HL7.out.below hB)
  have HD8 := Lib.hid (HD7.out.below hB)
  have HB8 := Lib.hid (Below.steps HB7.out hB)
  clear hB HL7 HB7 HD7
  go_wp2_with fail
  refine (cmp_b c _ _ _ _ _ _ _ _ _ HL8.out.tail.tail.tail.tail.head HL8.out.tail.tail.tail.head HCMP).mono ?_
  rintro e w9 ⟨rfl, hB⟩
  have HL9 := Lib.hid (HL8.out.below hB)
  have HD9 := Lib.hid (HD8.out.below hB)
  have HB9 := Lib.hid (Below.steps HB8.out hB)
  clear hB HL8 HB8 HD8
  go_wp2_with fail
  refine (Dg.cmp_is c _ _ _ _ _ _ _ _ _ HD9.out.tail.tail.head HD9.out.tail.head HCMP).mono ?_
  rintro e w10 ⟨rfl, hB⟩
  have HL10 := Lib.hid (HL9.out.below hB)
  have HD10 := Lib.hid (HD9.out.below hB)
  have HB10 := Lib.hid (Below.steps HB9.out hB)
  clear hB HL9 HB9 HD9
  go_wp2_with fail
  refine (trim_new _ _ _ _ _ HL10.out.tail.tail.tail.tail.head).mono ?_
  rintro e w11 ⟨tx0, txn, txc, rfl, hX, hB⟩
  have HL11 := Lib.hid (All.cons hX.sl (HL10.out.below hB))
  have HD11 := Lib.hid (HD10.out.below hB)
  have HB11 := Lib.hid (Below.steps HB10.out hB)
  clear hX hB HL10 HB10 HD10
  go_wp2_with fail
  refine (Dg.limbs_any _ _ _ _ _ HD11.out.tail.tail.head).mono ?_
  rintro e w12 ⟨ld0, ldn, ldc, rfl, hX, hB⟩
  have HL12 := Lib.hid (All.cons hX.sl (HL11.out.below hB))
  have HD12 := Lib.hid (HD11.out.below hB)
  have HB12 := Lib.hid (Below.steps HB11.out hB)
  clear hX hB HL11 HB11 HD11
  go_wp2_with fail
  refine (same_b _ _ _ _ _ _ _ _ _ HL12.out.tail.head HL12.out.head rfl).mono ?_
  rintro e w13 ⟨rfl, hB⟩
  have HL13 := Lib.hid (HL12.out.below hB)
  have HD13 := Lib.hid (HD12.out.below hB)
  have HB13 := Lib.hid (Below.steps HB12.out hB)
  clear hB HL12 HB12 HD12
  go_wp2_with fail
  refine (Dg.cmp_is c _ _ _ _ _ _ _ _ _ HD13.out.tail.tail.head HD13.out.tail.head HCMP).mono ?_
  rintro e w14 ⟨rfl, hB⟩
  have HL14 := Lib.hid (HL13.out.below hB)
  have HD14 := Lib.hid (HD13.out.below hB)
  have HB14 := Lib.hid (Below.steps HB13.out hB)
  clear hB HL13 HB13 HD13
  go_wp2_with fail
  refine (kept_b _ _ _ _ _ _ _ _ _ HL14.out.tail.tail.tail.tail.tail.tail.head HL14.out.tail.tail.tail.tail.tail.tail.tail.head rfl).mono ?_
  rintro e w15 ⟨rfl, hB⟩
  have HL15 := Lib.hid (HL14.out.below hB)
  have HD15 := Lib.hid (HD14.out.below hB)
  have HB15 := Lib.hid (Below.steps HB14.out hB)
  clear hB HL14 HB14 HD14
  go_wp2_with fail
  refine (kept_b _ _ _ _ _ _ _ _ _ HL15.out.tail.tail.tail.tail.tail.head HL15.out.tail.tail.tail.tail.tail.tail.tail.tail.head rfl).mono ?_
  rintro e w16 ⟨rfl, hB⟩
  have HL16 := Lib.hid (HL15.out.below hB)
  have HD16 := Lib.hid (HD15.out.below hB)
  have HB16 := Lib.hid (Below.steps HB15.out hB)
  clear hB HL15 HB15 HD15
  go_wp2_with fail
  refine (known_any _).mono ?_
  rintro e w' ⟨rfl, hB⟩
  go_wp2_with fail
  go_ret
  exact ⟨rfl, Below.steps HB16.out hB⟩

set_option maxHeartbeats 4000000 in
set_option maxRecDepth 100000 in
theorem natAdds_ge (a0 b0 : Option Addr) (la ca lb cb : Nat) (xs ys : List Nat) (w : World) (ha : Sl w a0 la ca xs) (hb : Sl w b0 lb cb ys) (h1 : la ≤ 40) (h2 : lb ≤ 40) (hcmp : val ys ≤ val xs) :
    Calls Try.prog 3 #[.slice a0 la ca, .slice b0 lb cb] w (True' w) := by
  obtain ⟨i0, hi, hz0, hz1, hz2⟩ := info_parts Try.info_u32
  have HLA := Lib.hid (dig_len 40 ha.wf ha.len h1)
  have HLB := Lib.hid (dig_len 40 hb.wf hb.len h2)
  have HH := Lib.hid hcmp
  obtain ⟨c, hc⟩ : ∃ c, c = cmpN (val xs) (val ys) := ⟨_, rfl⟩
  have hc0 : 0 ≤ c := by rw [hc]; unfold cmpN; rw [if_neg (by omega)]; split <;> omega
  have HCMP : Hid (cmpN (val xs) (val ys) = c) := hc.symm
  clear hc hcmp
  have d1 : decide (40 < la) = false := by simp; omega
  have d2 : decide (40 < lb) = false := by simp; omega
  have HL0 := Lib.hid (All.cons ha (All.cons hb (All.nil _)))
  have HD0 := Lib.hid (Dg.All.nil w)
  have HB0 := Lib.hid (Below.refl w.heap.size w)
  clear ha hb
  go_enter Try.func3, Try.ntmps3
  go_wp2_with fail
  refine (great_no _ _ _ _ _ _ _ (by omega) (by omega)).mono ?_
  rintro e w' ⟨rfl, rfl⟩
  go_wp2_with (first | (at_builtin; refine wpList_dup w w rfl (.tmp 19) (.tmp 20) 22 rfl w.heap.size i0 (.int .u32 0) Try.underlying22 hi hz0 hz1 hz2 rfl rfl _ _ _ _ rfl (HL0.out.head) (Below.refl _ _) (Nat.le_refl _) ?_; intro x0 xc w1 hX1 hB1 hb1) | (at_builtin; refine wpList_dup w1 w rfl (.tmp 22) (.tmp 23) 22 rfl w.heap.size i0 (.int .u32 0) Try.underlying22 hi hz0 hz1 hz2 rfl rfl _ _ _ _ rfl (HL0.out.tail.head.below hb1) hB1 (by exact hB1.size) ?_; intro y0 yc w2 hX2 hB2 hb2))
  have HL1 := Lib.hid (All.cons hX2.sl (All.cons (hX1.below hb2).sl ((HL0.out.below hb1).below hb2)))
  have HB1 := Lib.hid hB2
  have HD1 := Lib.hid (Dg.All.nil w2)
  clear hX1 hX2 hB1 hB2 hb1 hb2 HL0 HB0 HD0
  obtain ⟨w1, rfl⟩ : ∃ w1 : World, w1 = w2 := ⟨_, rfl⟩
  refine (Dg.of_any _ _ _ _ _ HL1.out.tail.tail.head (by omega)).mono ?_
  rintro e w2 ⟨d0, dn, dc, rfl, hX, hB⟩
  have hn_d : dn ≤ 400 := by rw [← hX.len]; exact HLA.out
  have HL2 := Lib.hid (HL1.out.below hB)
  have HD2 := Lib.hid (Dg.All.cons hX.sl (HD1.out.below hB))
  have HB2 := Lib.hid (Below.steps HB1.out hB)
  clear hX hB HL1 HB1 HD1
  go_wp2_with fail
  refine (Dg.of_any _ _ _ _ _ HL2.out.tail.tail.tail.head (by omega)).mono ?_
  rintro e w3 ⟨f0, fn, fc, rfl, hX, hB⟩
  have hn_f : fn ≤ 400 := by rw [← hX.len]; exact HLB.out
  have HL3 := Lib.hid (HL2.out.below hB)
  have HD3 := Lib.hid (Dg.All.cons hX.sl (HD2.out.below hB))
  have HB3 := Lib.hid (Below.steps HB2.out hB)
  clear hX hB HL2 HB2 HD2
  go_wp2_with fail
  have HCK := HL3
  have HBC := HB3
  have HCB := Lib.hid (Below.refl w3.heap.size w3)
  refine (add_any _ _ _ _ _ _ _ _ _ HL3.out.tail.head HL3.out.head (by omega) (by omega)).mono ?_
  rintro e w4 ⟨sum0, sumn, sumc, rfl, hX, hB⟩
  have HSUM := Lib.hid hX
  have HL4 := Lib.hid (All.cons hX.sl (HL3.out.below hB))
  have HD4 := Lib.hid (HD3.out.below hB)
  have HB4 := Lib.hid (Below.steps HB3.out hB)
  have HCBx := Lib.hid (Below.steps HCB.out hB)
  clear HCB
  have HCB := Lib.hid HCBx.out
  clear HCBx
  clear hX hB HL3 HB3 HD3
  go_wp2_with fail
  refine (sub_any _ _ _ _ _ _ _ _ _ HL4.out.tail.tail.head HL4.out.tail.head HH.out).mono ?_
  rintro e w5 ⟨dif0, difn, difc, rfl, hX, hB⟩
  have HDIF := Lib.hid (hX.mono HCB.out.size)
  have HAP := Lib.hid (apart32 HSUM.out hX)
  have HL5 := Lib.hid (All.cons hX.sl (HL4.out.below hB))
  have HD5 := Lib.hid (HD4.out.below hB)
  have HB5 := Lib.hid (Below.steps HB4.out hB)
  have HSUMx := Lib.hid (HSUM.out.below hB)
  clear HSUM
  have HSUM := Lib.hid HSUMx.out
  clear HSUMx
  have HCBx := Lib.hid (Below.steps HCB.out hB)
  clear HCB
  have HCB := Lib.hid HCBx.out
  clear HCBx
  clear hX hB HL4 HB4 HD4
  go_wp2_with fail
  refine (Dg.add_any _ _ _ _ _ _ _ _ _ HD5.out.tail.head HD5.out.head (by omega) (by omega)).mono ?_
  rintro e w6 ⟨df0, dfn, dfc, rfl, hX, hB⟩
  rw [Dg.val_limbs, Dg.val_limbs] at hX
  have HL6 := Lib.hid (HL5.out.below hB)
  have HD6 := Lib.hid (Dg.All.cons hX.sl (HD5.out.below hB))
  have HB6 := Lib.hid (Below.steps HB5.out hB)
  have HSUMx := Lib.hid (HSUM.out.below hB)
  clear HSUM
  have HSUM := Lib.hid HSUMx.out
  clear HSUMx
  have HDIFx := Lib.hid (HDIF.out.below hB)
  clear HDIF
  have HDIF := Lib.hid HDIFx.out
  clear HDIFx
  have HCBx := Lib.hid (Below.steps HCB.out hB)
  clear HCB
  have HCB := Lib.hid HCBx.out
  clear HCBx
  clear hX hB HL5 HB5 HD5
  go_wp2_with fail
  refine (Dg.limbs_any _ _ _ _ _ HD6.out.head).mono ?_
  rintro e w7 ⟨dl0, dln, dlc, rfl, hX, hB⟩
  have HL7 := Lib.hid (All.cons hX.sl (HL6.out.below hB))
  have HD7 := Lib.hid (HD6.out.below hB)
  have HB7 := Lib.hid (Below.steps HB6.out hB)
  have HSUMx := Lib.hid (HSUM.out.below hB)
  clear HSUM
  have HSUM := Lib.hid HSUMx.out
  clear HSUMx
  have HDIFx := Lib.hid (HDIF.out.below hB)
  clear HDIF
  have HDIF := Lib.hid HDIFx.out
  clear HDIFx
  have HCBx := Lib.hid (Below.steps HCB.out hB)
  clear HCB
  have HCB := Lib.hid HCBx.out
  clear HCBx
  clear hX hB HL6 HB6 HD6
  go_wp2_with fail
  refine (same_b _ _ _ _ _ _ _ _ _ HL7.out.tail.tail.head HL7.out.head rfl).mono ?_
  rintro e w8 ⟨rfl, hB⟩
  have HL8 := Lib.hid (HL7.out.below hB)
  have HD8 := Lib.hid (HD7.out.below hB)
  have HB8 := Lib.hid (Below.steps HB7.out hB)
  have HSUMx := Lib.hid (HSUM.out.below hB)
  clear HSUM
  have HSUM := Lib.hid HSUMx.out
  clear HSUMx
  have HDIFx := Lib.hid (HDIF.out.below hB)
  clear HDIF
  have HDIF := Lib.hid HDIFx.out
  clear HDIFx
  have HCBx := Lib.hid (Below.steps HCB.out hB)
  clear HCB
  have HCB := Lib.hid HCBx.out
  clear HCBx
  clear hB HL7 HB7 HD7
  go_wp2_with fail
  refine (cmp_b c _ _ _ _ _ _ _ _ _ HL8.out.tail.tail.tail.tail.head HL8.out.tail.tail.tail.head HCMP).mono ?_
  rintro e w9 ⟨rfl, hB⟩
  have HL9 := Lib.hid (HL8.out.below hB)
  have HD9 := Lib.hid (HD8.out.below hB)
  have HB9 := Lib.hid (Below.steps HB8.out hB)
  have HSUMx := Lib.hid (HSUM.out.below hB)
  clear HSUM
  have HSUM := Lib.hid HSUMx.out
  clear HSUMx
  have HDIFx := Lib.hid (HDIF.out.below hB)
  clear HDIF
  have HDIF := Lib.hid HDIFx.out
  clear HDIFx
  have HCBx := Lib.hid (Below.steps HCB.out hB)
  clear HCB
  have HCB := Lib.hid HCBx.out
  clear HCBx
  clear hB HL8 HB8 HD8
  go_wp2_with fail
  refine (Dg.cmp_is c _ _ _ _ _ _ _ _ _ HD9.out.tail.tail.head HD9.out.tail.head HCMP).mono ?_
  rintro e w10 ⟨rfl, hB⟩
  have HL10 := Lib.hid (HL9.out.below hB)
  have HD10 := Lib.hid (HD9.out.below hB)
  have HB10 := Lib.hid (Below.steps HB9.out hB)
  have HSUMx := Lib.hid (HSUM.out.below hB)
  clear HSUM
  have HSUM := Lib.hid HSUMx.out
  clear HSUMx
  have HDIFx := Lib.hid (HDIF.out.below hB)
  clear HDIF
  have HDIF := Lib.hid HDIFx.out
  clear HDIFx
  have HCBx := Lib.hid (Below.steps HCB.out hB)
  clear HCB
  have HCB := Lib.hid HCBx.out
  clear HCBx
  clear hB HL9 HB9 HD9
  go_wp2_with fail
  refine (trim_new _ _ _ _ _ HL10.out.tail.tail.tail.tail.head).mono ?_
  rintro e w11 ⟨tx0, txn, txc, rfl, hX, hB⟩
  have HL11 := Lib.hid (All.cons hX.sl (HL10.out.below hB))
  have HD11 := Lib.hid (HD10.out.below hB)
  have HB11 := Lib.hid (Below.steps HB10.out hB)
  have HSUMx := Lib.hid (HSUM.out.below hB)
  clear HSUM
  have HSUM := Lib.hid HSUMx.out
  clear HSUMx
  have HDIFx := Lib.hid (HDIF.out.below hB)
  clear HDIF
  have HDIF := Lib.hid HDIFx.out
  clear HDIFx
  have HCBx := Lib.hid (Below.steps HCB.out hB)
  clear HCB
  have HCB := Lib.hid HCBx.out
  clear HCBx
  clear hX hB HL10 HB10 HD10
  go_wp2_with fail
  refine (Dg.limbs_any _ _ _ _ _ HD11.out.tail.tail.head).mono ?_
  rintro e w12 ⟨ld0, ldn, ldc, rfl, hX, hB⟩
  have HL12 := Lib.hid (All.cons hX.sl (HL11.out.below hB))
  have HD12 := Lib.hid (HD11.out.below hB)
  have HB12 := Lib.hid (Below.steps HB11.out hB)
  have HSUMx := Lib.hid (HSUM.out.below hB)
  clear HSUM
  have HSUM := Lib.hid HSUMx.out
  clear HSUMx
  have HDIFx := Lib.hid (HDIF.out.below hB)
  clear HDIF
  have HDIF := Lib.hid HDIFx.out
  clear HDIFx
  have HCBx := Lib.hid (Below.steps HCB.out hB)
  clear HCB
  have HCB := Lib.hid HCBx.out
  clear HCBx
  clear hX hB HL11 HB11 HD11
  go_wp2_with fail
  refine (same_b _ _ _ _ _ _ _ _ _ HL12.out.tail.head HL12.out.head rfl).mono ?_
  rintro e w13 ⟨rfl, hB⟩
  have HL13 := Lib.hid (HL12.out.below hB)
  have HD13 := Lib.hid (HD12.out.below hB)
  have HB13 := Lib.hid (Below.steps HB12.out hB)
  have HSUMx := Lib.hid (HSUM.out.below hB)
  clear HSUM
  have HSUM := Lib.hid HSUMx.out
  clear HSUMx
  have HDIFx := Lib.hid (HDIF.out.below hB)
  clear HDIF
  have HDIF := Lib.hid HDIFx.out
  clear HDIFx
  have HCBx := Lib.hid (Below.steps HCB.out hB)
  clear HCB
  have HCB := Lib.hid HCBx.out
  clear HCBx
  clear hB HL12 HB12 HD12
  go_wp2_with fail
  refine (Dg.cmp_is c _ _ _ _ _ _ _ _ _ HD13.out.tail.tail.head HD13.out.tail.head HCMP).mono ?_
  rintro e w14 ⟨rfl, hB⟩
  have HL14 := Lib.hid (HL13.out.below hB)
  have HD14 := Lib.hid (HD13.out.below hB)
  have HB14 := Lib.hid (Below.steps HB13.out hB)
  have HSUMx := Lib.hid (HSUM.out.below hB)
  clear HSUM
  have HSUM := Lib.hid HSUMx.out
  clear HSUMx
  have HDIFx := Lib.hid (HDIF.out.below hB)
  clear HDIF
  have HDIF := Lib.hid HDIFx.out
  clear HDIFx
  have HCBx := Lib.hid (Below.steps HCB.out hB)
  clear HCB
  have HCB := Lib.hid HCBx.out
  clear HCBx
  clear hB HL13 HB13 HD13
  go_wp2_with fail
  refine (Dg.sub_any _ _ _ _ _ _ _ _ _ HD14.out.tail.tail.head HD14.out.tail.head HH.out (by omega)).mono ?_
  rintro e w15 ⟨sd0, sdn, sdc, rfl, hX, hB⟩
  have HL15 := Lib.hid (HL14.out.below hB)
  have HD15 := Lib.hid (Dg.All.cons hX.sl (HD14.out.below hB))
  have HB15 := Lib.hid (Below.steps HB14.out hB)
  have HSUMx := Lib.hid (HSUM.out.below hB)
  clear HSUM
  have HSUM := Lib.hid HSUMx.out
  clear HSUMx
  have HDIFx := Lib.hid (HDIF.out.below hB)
  clear HDIF
  have HDIF := Lib.hid HDIFx.out
  clear HDIFx
  have HCBx := Lib.hid (Below.steps HCB.out hB)
  clear HCB
  have HCB := Lib.hid HCBx.out
  clear HCBx
  clear hX hB HL14 HB14 HD14
  go_wp2_with fail
  refine (Dg.limbs_any _ _ _ _ _ HD15.out.head).mono ?_
  rintro e w16 ⟨ls0, lsn, lsc, rfl, hX, hB⟩
  have HL16 := Lib.hid (All.cons hX.sl (HL15.out.below hB))
  have HD16 := Lib.hid (HD15.out.below hB)
  have HB16 := Lib.hid (Below.steps HB15.out hB)
  have HSUMx := Lib.hid (HSUM.out.below hB)
  clear HSUM
  have HSUM := Lib.hid HSUMx.out
  clear HSUMx
  have HDIFx := Lib.hid (HDIF.out.below hB)
  clear HDIF
  have HDIF := Lib.hid HDIFx.out
  clear HDIFx
  have HCBx := Lib.hid (Below.steps HCB.out hB)
  clear HCB
  have HCB := Lib.hid HCBx.out
  clear HCBx
  clear hX hB HL15 HB15 HD15
  go_wp2_with fail
  refine (same_b _ _ _ _ _ _ _ _ _ HL16.out.tail.tail.tail.tail.head HL16.out.head rfl).mono ?_
  rintro e w17 ⟨rfl, hB⟩
  have HL17 := Lib.hid (HL16.out.below hB)
  have HD17 := Lib.hid (HD16.out.below hB)
  have HB17 := Lib.hid (Below.steps HB16.out hB)
  have HSUMx := Lib.hid (HSUM.out.below hB)
  clear HSUM
  have HSUM := Lib.hid HSUMx.out
  clear HSUMx
  have HDIFx := Lib.hid (HDIF.out.below hB)
  clear HDIF
  have HDIF := Lib.hid HDIFx.out
  clear HDIFx
  have HCBx := Lib.hid (Below.steps HCB.out hB)
  clear HCB
  have HCB := Lib.hid HCBx.out
  clear HCBx
  clear hB HL16 HB16 HD16
  go_wp2_with fail
  have HT := Lib.hid (TwoOwn.mk (wc := w3) ⟨_, HSUM.out⟩ ⟨_, HDIF.out⟩ HCB.out)
  clear HL17 HD17 HB17 HSUM HDIF HCB HCMP HH HLA HLB
  skip
  have hix0 : ∀ W : World, (Instr.index 37 (.agg #[.slice sum0 sumn sumc, .slice dif0 difn difc]) (.int .i64 0)).run Try.prog W = .ok (.slice sum0 sumn sumc) W := fun _ => by kernel_rfl
  have hix1 : ∀ W : World, (Instr.index 37 (.agg #[.slice sum0 sumn sumc, .slice dif0 difn difc]) (.int .i64 1)).run Try.prog W = .ok (.slice dif0 difn difc) W := fun _ => by kernel_rfl
  go_loopw [100] (fun i wr => ∃ t : Nat, t ≤ 2 ∧ i = .int .i64 ((t : Nat) : Int) ∧ TwoOwn w3 sum0 sumn sumc dif0 difn difc wr) (fun i _ => 2 - (intOf i).toNat)
  case atStart => exact ⟨0, Nat.zero_le _, rfl, HT.out⟩
  case round =>
    clear HT
    obtain ⟨t, ht, rfl, hT⟩ := hrel
    match t, ht with
    | 0, _ =>
      have hbig : sumn ≤ 35184372088832 := by
        obtain ⟨_, h⟩ := hT.one
        exact h.big
      obtain ⟨wo, rfl⟩ : ∃ wo : World, wo = wr := ⟨_, rfl⟩
      go_wp2_with fail
      go_loopw [14, 105] (fun _ i wr => ∃ k : Nat, k ≤ sumn ∧ i = .int .i64 ((k : Nat) : Int) ∧ TwoOwn w3 sum0 sumn sumc dif0 difn difc wr) (fun _ i _ => sumn - (intOf i).toNat)
      case atStart => exact ⟨0, Nat.zero_le _, rfl, hT⟩
      case round =>
        clear hT
        obtain ⟨k, hk, rfl, hT⟩ := hrel
        by_cases hkn : k < sumn
        · obtain ⟨g, zs, rfl, hg, hO⟩ := hT.at_one (by omega)
          have hzc := hO.cell k hkn
          have hzf := hO.frozen k
          have hzl := hO.getD_lt k
          obtain ⟨z, hz⟩ : ∃ z, z = zs.getD k 0 := ⟨_, rfl⟩
          rw [← hz] at hzc hzl
          have HT2 : Hid (TwoOwn w3 (some ⟨g, 0, none⟩) sumn sumc dif0 difn difc (wr.setCell ⟨g, k, none⟩ (.int .u32 ((((z + 1) % 4294967296 : Nat)) : Int)))) := hT.set_one hg HAP.out k ((z + 1) % 4294967296) (Nat.mod_lt _ (by omega)) rfl
          clear hz hO hT
          go_wp2_with fail
          go_roundw
          case rel =>
            refine ⟨k + 1, by omega, by go_num, ?_⟩
            first
              | exact HT2.out
              | (have e : (((z : Nat) : Int) + 1) % 4294967296 = (((z + 1) % 4294967296 : Nat) : Int) := by omega
                 rw [e]
                 exact HT2.out)
          case measure => simp [intOf]; omega
        · go_wp2_with fail
          go_roundw
          case rel => exact ⟨1, by omega, by go_num, hT⟩
          case measure => simp [intOf]
    | 1, _ =>
      have hbig : difn ≤ 35184372088832 := by
        obtain ⟨_, h⟩ := hT.two
        exact h.big
      obtain ⟨wo, rfl⟩ : ∃ wo : World, wo = wr := ⟨_, rfl⟩
      go_wp2_with fail
      go_loopw [14, 105] (fun _ i wr => ∃ k : Nat, k ≤ difn ∧ i = .int .i64 ((k : Nat) : Int) ∧ TwoOwn w3 sum0 sumn sumc dif0 difn difc wr) (fun _ i _ => difn - (intOf i).toNat)
      case atStart => exact ⟨0, Nat.zero_le _, rfl, hT⟩
      case round =>
        clear hT
        obtain ⟨k, hk, rfl, hT⟩ := hrel
        by_cases hkn : k < difn
        · obtain ⟨g, zs, rfl, hg, hO⟩ := hT.at_two (by omega)
          have hzc := hO.cell k hkn
          have hzf := hO.frozen k
          have hzl := hO.getD_lt k
          obtain ⟨z, hz⟩ : ∃ z, z = zs.getD k 0 := ⟨_, rfl⟩
          rw [← hz] at hzc hzl
          have HT2 : Hid (TwoOwn w3 sum0 sumn sumc (some ⟨g, 0, none⟩) difn difc (wr.setCell ⟨g, k, none⟩ (.int .u32 ((((z + 1) % 4294967296 : Nat)) : Int)))) := hT.set_two hg HAP.out k ((z + 1) % 4294967296) (Nat.mod_lt _ (by omega)) rfl
          clear hz hO hT
          go_wp2_with fail
          go_roundw
          case rel =>
            refine ⟨k + 1, by omega, by go_num, ?_⟩
            first
              | exact HT2.out
              | (have e : (((z : Nat) : Int) + 1) % 4294967296 = (((z + 1) % 4294967296 : Nat) : Int) := by omega
                 rw [e]
                 exact HT2.out)
          case measure => simp [intOf]; omega
        · go_wp2_with fail
          go_roundw
          case rel => exact ⟨2, by omega, by go_num, hT⟩
          case measure => simp [intOf]
    | 2, _ =>
      have HL18 := Lib.hid (HCK.out.below hT.below)
      have HB18 := Lib.hid (Below.steps HBC.out hT.below)
      clear hT HCK HBC
      go_wp2_with fail
      refine (kept_b _ _ _ _ _ _ _ _ _ HL18.out.tail.head HL18.out.tail.tail.head rfl).mono ?_
      rintro e w19 ⟨rfl, hB⟩
      have HL19 := Lib.hid (HL18.out.below hB)
      have HB19 := Lib.hid (Below.steps HB18.out hB)
      clear hB HL18 HB18
      go_wp2_with fail
      refine (kept_b _ _ _ _ _ _ _ _ _ HL19.out.head HL19.out.tail.tail.tail.head rfl).mono ?_
      rintro e w20 ⟨rfl, hB⟩
      have HL20 := Lib.hid (HL19.out.below hB)
      have HB20 := Lib.hid (Below.steps HB19.out hB)
      clear hB HL19 HB19
      go_wp2_with fail
      refine (known_any _).mono ?_
      rintro e w' ⟨rfl, hB⟩
      go_wp2_with fail
      go_ret
      exact ⟨rfl, Below.steps HB20.out hB⟩

theorem natAdds_any (a0 b0 : Option Addr) (la ca lb cb : Nat) (xs ys : List Nat) (w : World) (ha : Sl w a0 la ca xs) (hb : Sl w b0 lb cb ys) :
    Calls Try.prog 3 #[.slice a0 la ca, .slice b0 lb cb] w (True' w) := by
  by_cases h : 40 < la ∨ 40 < lb
  · exact natAdds_long _ _ _ _ _ _ _ _ _ ha hb h
  · rcases Nat.lt_or_ge (val xs) (val ys) with h1 | h1
    · exact natAdds_lt _ _ _ _ _ _ _ _ _ ha hb (by omega) (by omega) h1
    · exact natAdds_ge _ _ _ _ _ _ _ _ _ ha hb (by omega) (by omega) h1

end Go.Proofs.Ytkopkmbijmofjaa

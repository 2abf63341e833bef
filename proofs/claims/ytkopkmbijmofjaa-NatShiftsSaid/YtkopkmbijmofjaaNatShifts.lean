/-
  The walk of the law NatShifts.
-/
import Derived.Test.YtkopkmbijmofjaaGLaw
import Derived.Test.YtkopkmbijmofjaaGreat
import Derived.Test.YtkopkmbijmofjaaGMem
import Derived.Test.YtkopkmbijmofjaaKnown
import Derived.Test.YtkopkmbijmofjaaGNatB
import Derived.Test.YtkopkmbijmofjaaGNatA
import Derived.Test.YtkopkmbijmofjaaGRef
namespace Go.Proofs.Ytkopkmbijmofjaa
open Go.RowKit

theorem Dg.bits_is (k : Nat) (ao : Option Addr) (n cap : Nat) (v0 : Nat) (w : World) (ha : Dg.Sl w ao n cap (Dg.limbs v0)) (hk : nbits v0 = k) (hb : k ≤ 1000000) :
    Calls Try.prog 27 #[.slice ao n cap] w (RetB (.int .i64 (k : Nat)) w) := by
  subst hk; exact Dg.bits_any ao n cap v0 w ha hb

set_option maxHeartbeats 1000000 in
set_option maxRecDepth 100000 in
theorem natShifts_long (a0 : Option Addr) (la ca : Nat) (xs : List Nat) (n : Int) (u : Nat) (w : World) (ha : Sl w a0 la ca xs) (h : 40 < la) :
    Calls Try.prog 4 #[.slice a0 la ca, .int .i64 n, .int .u64 (u : Int)] w (True' w) := by
  have b1 := ha.big
  go_enter Try.func4, Try.ntmps4
  go_wp2_with fail
  refine (great_yes _ _ _ _ _ _ _ (by omega) (by omega) (Or.inl h)).mono ?_
  rintro e w' ⟨rfl, rfl⟩
  go_wp2_with fail
  refine (known_any _).mono ?_
  rintro e w' ⟨rfl, hB⟩
  go_wp2_with fail
  go_ret
  exact ⟨rfl, hB⟩

set_option maxHeartbeats 1000000 in
set_option maxRecDepth 100000 in
theorem natShifts_far (a0 : Option Addr) (la ca : Nat) (xs : List Nat) (n : Int) (u : Nat) (w : World) (_ : Sl w a0 la ca xs) (h : la ≤ 40) (h1 : 400 < n) (h2 : n ≤ 1048576) :
    Calls Try.prog 4 #[.slice a0 la ca, .int .i64 n, .int .u64 (u : Int)] w (True' w) := by
  go_enter Try.func4, Try.ntmps4
  go_wp2_with fail
  refine (great_no _ _ _ _ _ _ _ (by omega) (by omega)).mono ?_
  rintro e w' ⟨rfl, rfl⟩
  go_wp2_with fail
  refine (known_any _).mono ?_
  rintro e w' ⟨rfl, hB⟩
  go_wp2_with fail
  go_ret
  exact ⟨rfl, hB⟩

set_option maxHeartbeats 2000000 in
set_option maxRecDepth 100000 in
theorem natShifts_below (a0 : Option Addr) (la ca : Nat) (xs : List Nat) (n : Int) (u : Nat) (w : World) (ha : Sl w a0 la ca xs) (h1 : la ≤ 40) (hn : n < 0) :
    Calls Try.prog 4 #[.slice a0 la ca, .int .i64 n, .int .u64 (u : Int)] w (True' w) := by
  obtain ⟨i0, hi, hz0, hz1, hz2⟩ := info_parts Try.info_u32
  have HLA := Lib.hid (dig_len 40 ha.wf ha.len h1)
  have e1 : decide (400 < n) = false := by simp; omega
  have HL0 := Lib.hid (All.cons ha (All.nil _))
  have HD0 := Lib.hid (Dg.All.nil w)
  have HB0 := Lib.hid (Below.refl w.heap.size w)
  clear ha
  go_enter Try.func4, Try.ntmps4
  go_wp2_with fail
  refine (great_no _ _ _ _ _ _ _ (by omega) (by omega)).mono ?_
  rintro e w' ⟨rfl, rfl⟩
  go_wp2_with (at_builtin; refine wpList_dup w w rfl (.tmp 28) (.tmp 29) 22 rfl w.heap.size i0 (.int .u32 0) Try.underlying22 hi hz0 hz1 hz2 rfl rfl _ _ _ _ rfl (HL0.out.head) (Below.refl _ _) (Nat.le_refl _) ?_; intro x0 xc w1 hX1 hB1 hb1)
  have HL1 := Lib.hid (All.cons hX1.sl (HL0.out.below hb1))
  have HB1 := Lib.hid hB1
  have HD1 := Lib.hid (Dg.All.nil w1)
  clear hX1 hB1 hb1 HL0 HB0 HD0
  refine (Dg.of_any _ _ _ _ _ HL1.out.tail.head (by omega)).mono ?_
  rintro e w2 ⟨d0, dn, dc, rfl, hX, hB⟩
  have hn_d : dn ≤ 400 := by rw [← hX.len]; exact HLA.out
  have HL2 := Lib.hid (HL1.out.below hB)
  have HD2 := Lib.hid (Dg.All.cons hX.sl (HD1.out.below hB))
  have HB2 := Lib.hid (Below.steps HB1.out hB)
  clear hX hB HL1 HB1 HD1
  go_wp2_with fail
  refine (shl_bad _ _ _ _ _ (by omega)).mono ?_
  rintro e w3 ⟨l0, ln, lc, rfl, hX, hB⟩
  have hln : ln = 0 := by rw [← hX.len]; rfl
  subst hln
  have HL3 := Lib.hid (All.cons hX.sl (HL2.out.below hB))
  have HD3 := Lib.hid (HD2.out.below hB)
  have HB3 := Lib.hid (Below.steps HB2.out hB)
  clear hX hB HL2 HB2 HD2
  go_wp2_with fail
  refine (shr_bad _ _ _ _ _ (by omega)).mono ?_
  rintro e w4 ⟨r0, rn, rc, rfl, hX, hB⟩
  have hrn : rn = 0 := by rw [← hX.len]; rfl
  subst hrn
  have HL4 := Lib.hid (All.cons hX.sl (HL3.out.below hB))
  have HD4 := Lib.hid (HD3.out.below hB)
  have HB4 := Lib.hid (Below.steps HB3.out hB)
  clear hX hB HL3 HB3 HD3
  go_wp2_with fail
  refine (known_any _).mono ?_
  rintro e w' ⟨rfl, hB⟩
  go_wp2_with fail
  go_ret
  exact ⟨rfl, Below.steps HB4.out hB⟩

set_option maxHeartbeats 2000000 in
set_option maxRecDepth 100000 in
theorem natShifts_above (a0 : Option Addr) (la ca : Nat) (xs : List Nat) (n : Int) (u : Nat) (w : World) (ha : Sl w a0 la ca xs) (h1 : la ≤ 40) (hn : 1048576 < n) :
    Calls Try.prog 4 #[.slice a0 la ca, .int .i64 n, .int .u64 (u : Int)] w (True' w) := by
  obtain ⟨i0, hi, hz0, hz1, hz2⟩ := info_parts Try.info_u32
  have HLA := Lib.hid (dig_len 40 ha.wf ha.len h1)
  have e1 : decide (400 < n) = true := by simp; omega
  have e2 : decide (n ≤ 1048576) = false := by simp; omega
  have e3 : decide (n < 0) = false := by simp; omega
  have HL0 := Lib.hid (All.cons ha (All.nil _))
  have HD0 := Lib.hid (Dg.All.nil w)
  have HB0 := Lib.hid (Below.refl w.heap.size w)
  clear ha
  go_enter Try.func4, Try.ntmps4
  go_wp2_with fail
  refine (great_no _ _ _ _ _ _ _ (by omega) (by omega)).mono ?_
  rintro e w' ⟨rfl, rfl⟩
  go_wp2_with (at_builtin; refine wpList_dup w w rfl (.tmp 28) (.tmp 29) 22 rfl w.heap.size i0 (.int .u32 0) Try.underlying22 hi hz0 hz1 hz2 rfl rfl _ _ _ _ rfl (HL0.out.head) (Below.refl _ _) (Nat.le_refl _) ?_; intro x0 xc w1 hX1 hB1 hb1)
  have HL1 := Lib.hid (All.cons hX1.sl (HL0.out.below hb1))
  have HB1 := Lib.hid hB1
  have HD1 := Lib.hid (Dg.All.nil w1)
  clear hX1 hB1 hb1 HL0 HB0 HD0
  refine (Dg.of_any _ _ _ _ _ HL1.out.tail.head (by omega)).mono ?_
  rintro e w2 ⟨d0, dn, dc, rfl, hX, hB⟩
  have hn_d : dn ≤ 400 := by rw [← hX.len]; exact HLA.out
  have HL2 := Lib.hid (HL1.out.below hB)
  have HD2 := Lib.hid (Dg.All.cons hX.sl (HD1.out.below hB))
  have HB2 := Lib.hid (Below.steps HB1.out hB)
  clear hX hB HL1 HB1 HD1
  go_wp2_with fail
  refine (shl_bad _ _ _ _ _ (by omega)).mono ?_
  rintro e w3 ⟨l0, ln, lc, rfl, hX, hB⟩
  have hln : ln = 0 := by rw [← hX.len]; rfl
  subst hln
  have HL3 := Lib.hid (All.cons hX.sl (HL2.out.below hB))
  have HD3 := Lib.hid (HD2.out.below hB)
  have HB3 := Lib.hid (Below.steps HB2.out hB)
  clear hX hB HL2 HB2 HD2
  go_wp2_with fail
  refine (shr_bad _ _ _ _ _ (by omega)).mono ?_
  rintro e w4 ⟨r0, rn, rc, rfl, hX, hB⟩
  have hrn : rn = 0 := by rw [← hX.len]; rfl
  subst hrn
  have HL4 := Lib.hid (All.cons hX.sl (HL3.out.below hB))
  have HD4 := Lib.hid (HD3.out.below hB)
  have HB4 := Lib.hid (Below.steps HB3.out hB)
  clear hX hB HL3 HB3 HD3
  go_wp2_with fail
  refine (known_any _).mono ?_
  rintro e w' ⟨rfl, hB⟩
  go_wp2_with fail
  go_ret
  exact ⟨rfl, Below.steps HB4.out hB⟩

set_option maxHeartbeats 4000000 in
set_option maxRecDepth 100000 in
theorem natShifts_low (a0 : Option Addr) (la ca : Nat) (xs : List Nat) (n : Nat) (u : Nat) (w : World) (ha : Sl w a0 la ca xs) (h1 : la ≤ 40) (hn : n ≤ 400) (hu : Hid (u ≤ 18446744073709551615)) (hs : Hid (val xs < 18446744073709551616)) :
    Calls Try.prog 4 #[.slice a0 la ca, .int .i64 (n : Int), .int .u64 (u : Int)] w (True' w) := by
  obtain ⟨i0, hi, hz0, hz1, hz2⟩ := info_parts Try.info_u32
  have HLA := Lib.hid (dig_len 40 ha.wf ha.len h1)
  have HV : Hid (val xs < 4294967296 ^ 40) := val_small 40 ha.wf ha.len h1
  obtain ⟨A, hA⟩ : ∃ A, A = val xs := ⟨_, rfl⟩
  have HA := Lib.hid hA
  rw [← hA] at hs
  obtain ⟨kb, hkb⟩ : ∃ kb, kb = nbits (val xs) := ⟨_, rfl⟩
  have hkl : kb ≤ 1280 := by rw [hkb]; exact nbits_le32 40 HV.out
  have HNL : Hid (nl xs ≤ 2) := nl_short (by rw [← hA]; exact hs.out)
  have hk64 : kb ≤ 64 := by rw [hkb, ← hA]; exact nbits_short hs.out
  have HAL : Hid (A ≤ 18446744073709551615) := by have := hs.out; rw [Hid]; omega
  have d64 : decide (64 < kb) = false := by simp; omega
  have HKB := Lib.hid hkb
  clear hA hkb hs
  have e1 : decide (400 < (n : Int)) = false := by simp; omega
  have e2 : decide (1048576 < (n : Int)) = false := by simp; omega
  have e3 : decide ((n : Int) < 0) = false := by simp
  have HL0 := Lib.hid (All.cons ha (All.nil _))
  have HD0 := Lib.hid (Dg.All.nil w)
  have HB0 := Lib.hid (Below.refl w.heap.size w)
  clear ha
  go_enter Try.func4, Try.ntmps4
  go_wp2_with fail
  refine (great_no _ _ _ _ _ _ _ (by omega) (by omega)).mono ?_
  rintro e w' ⟨rfl, rfl⟩
  go_wp2_with (at_builtin; refine wpList_dup w w rfl (.tmp 28) (.tmp 29) 22 rfl w.heap.size i0 (.int .u32 0) Try.underlying22 hi hz0 hz1 hz2 rfl rfl _ _ _ _ rfl (HL0.out.head) (Below.refl _ _) (Nat.le_refl _) ?_; intro x0 xc w1 hX1 hB1 hb1)
  have HL1 := Lib.hid (All.cons hX1.sl (HL0.out.below hb1))
  have HB1 := Lib.hid hB1
  have HD1 := Lib.hid (Dg.All.nil w1)
  clear hX1 hB1 hb1 HL0 HB0 HD0
  refine (Dg.of_any _ _ _ _ _ HL1.out.tail.head (by omega)).mono ?_
  rintro e w2 ⟨d0, dn, dc, rfl, hX, hB⟩
  have hn_d : dn ≤ 400 := by rw [← hX.len]; exact HLA.out
  have HL2 := Lib.hid (HL1.out.below hB)
  have HD2 := Lib.hid (Dg.All.cons hX.sl (HD1.out.below hB))
  have HB2 := Lib.hid (Below.steps HB1.out hB)
  clear hX hB HL1 HB1 HD1
  go_wp2_with fail
  refine (shl_any _ _ _ _ n _ HL2.out.head (by omega) (by omega)).mono ?_
  rintro e w3 ⟨l0, ln, lc, rfl, hX, hB⟩
  have HL3 := Lib.hid (All.cons hX.sl (HL2.out.below hB))
  have HD3 := Lib.hid (HD2.out.below hB)
  have HB3 := Lib.hid (Below.steps HB2.out hB)
  clear hX hB HL2 HB2 HD2
  go_wp2_with fail
  refine (shr_any _ _ _ _ n _ HL3.out.tail.head (by omega)).mono ?_
  rintro e w4 ⟨r0, rn, rc, rfl, hX, hB⟩
  have HL4 := Lib.hid (All.cons hX.sl (HL3.out.below hB))
  have HD4 := Lib.hid (HD3.out.below hB)
  have HB4 := Lib.hid (Below.steps HB3.out hB)
  clear hX hB HL3 HB3 HD3
  go_wp2_with fail
  refine (Dg.two_any n _ (by omega)).mono ?_
  rintro e w5 ⟨t0, tn, tc, rfl, hX, hB⟩
  have hn_t : tn ≤ 401 := by rw [← hX.len]; exact Nat.le_trans (Dg.two_len n) (by omega)
  have HL5 := Lib.hid (HL4.out.below hB)
  have HD5 := Lib.hid (Dg.All.cons hX.sl (HD4.out.below hB))
  have HB5 := Lib.hid (Below.steps HB4.out hB)
  clear hX hB HL4 HB4 HD4
  go_wp2_with fail
  refine (Dg.divmod_any _ _ _ _ _ _ _ (2 ^ n) _ HD5.out.tail.head HD5.out.head (Nat.two_pow_pos n) (by omega) (by omega)).mono ?_
  rintro e w6 ⟨q0, qn, qc, m0, mn, mc, rfl, hX, _, hB⟩
  rw [Dg.val_limbs] at hX
  have HL6 := Lib.hid (HL5.out.below hB)
  have HD6 := Lib.hid (Dg.All.cons hX (HD5.out.below hB))
  have HB6 := Lib.hid (Below.steps HB5.out hB)
  clear hX hB HL5 HD5 HB5
  go_wp2_with fail
  refine (Dg.two_any n _ (by omega)).mono ?_
  rintro e w7 ⟨t20, t2n, t2c, rfl, hX, hB⟩
  have hn_t2 : t2n ≤ 401 := by rw [← hX.len]; exact Nat.le_trans (Dg.two_len n) (by omega)
  have HL7 := Lib.hid (HL6.out.below hB)
  have HD7 := Lib.hid (Dg.All.cons hX.sl (HD6.out.below hB))
  have HB7 := Lib.hid (Below.steps HB6.out hB)
  clear hX hB HL6 HB6 HD6
  go_wp2_with fail
  refine (Dg.mul_any _ _ _ _ _ _ _ _ _ HD7.out.tail.tail.tail.head HD7.out.head (by omega) (by omega)).mono ?_
  rintro e w8 ⟨m0, mn, mc, rfl, hX, hB⟩
  rw [Dg.val_limbs, Dg.val_limbs] at hX
  have HL8 := Lib.hid (HL7.out.below hB)
  have HD8 := Lib.hid (Dg.All.cons hX.sl (HD7.out.below hB))
  have HB8 := Lib.hid (Below.steps HB7.out hB)
  clear hX hB HL7 HB7 HD7
  go_wp2_with fail
  refine (Dg.limbs_any _ _ _ _ _ HD8.out.head).mono ?_
  rintro e w9 ⟨lm0, lmn, lmc, rfl, hX, hB⟩
  have HL9 := Lib.hid (All.cons hX.sl (HL8.out.below hB))
  have HD9 := Lib.hid (HD8.out.below hB)
  have HB9 := Lib.hid (Below.steps HB8.out hB)
  clear hX hB HL8 HB8 HD8
  go_wp2_with fail
  refine (same_b _ _ _ _ _ _ _ _ _ HL9.out.tail.tail.head HL9.out.head rfl).mono ?_
  rintro e w10 ⟨rfl, hB⟩
  have HL10 := Lib.hid (HL9.out.below hB)
  have HD10 := Lib.hid (HD9.out.below hB)
  have HB10 := Lib.hid (Below.steps HB9.out hB)
  clear hB HL9 HB9 HD9
  go_wp2_with fail
  refine (Dg.limbs_any _ _ _ _ _ HD10.out.tail.tail.head).mono ?_
  rintro e w11 ⟨lq0, lqn, lqc, rfl, hX, hB⟩
  have HL11 := Lib.hid (All.cons hX.sl (HL10.out.below hB))
  have HD11 := Lib.hid (HD10.out.below hB)
  have HB11 := Lib.hid (Below.steps HB10.out hB)
  clear hX hB HL10 HB10 HD10
  go_wp2_with fail
  refine (same_b _ _ _ _ _ _ _ _ _ HL11.out.tail.tail.head HL11.out.head rfl).mono ?_
  rintro e w12 ⟨rfl, hB⟩
  have HL12 := Lib.hid (HL11.out.below hB)
  have HD12 := Lib.hid (HD11.out.below hB)
  have HB12 := Lib.hid (Below.steps HB11.out hB)
  clear hB HL11 HB11 HD11
  go_wp2_with fail
  refine (bits_is kb _ _ _ _ _ HL12.out.tail.tail.tail.tail.head HKB.out.symm).mono ?_
  rintro e w' ⟨rfl, rfl⟩
  go_wp2_with fail
  refine (Dg.bits_is kb _ _ _ _ _ HD12.out.tail.tail.tail.tail.head HKB.out.symm (by omega)).mono ?_
  rintro e w13 ⟨rfl, hB⟩
  have HL13 := Lib.hid (HL12.out.below hB)
  have HD13 := Lib.hid (HD12.out.below hB)
  have HB13 := Lib.hid (Below.steps HB12.out hB)
  clear hB HL12 HB12 HD12
  go_wp2_with fail
  refine (small_any u _ hu.out).mono ?_
  rintro e w14 ⟨sw0, swn, swc, rfl, hX, hB⟩
  have HL14 := Lib.hid (All.cons hX.sl (HL13.out.below hB))
  have HD14 := Lib.hid (HD13.out.below hB)
  have HB14 := Lib.hid (Below.steps HB13.out hB)
  clear hX hB HL13 HB13 HD13
  go_wp2_with fail
  refine (Dg.small_any u _ hu).mono ?_
  rintro e w15 ⟨dw0, dwn, dwc, rfl, hX, hB⟩
  have HL15 := Lib.hid (HL14.out.below hB)
  have HD15 := Lib.hid (Dg.All.cons hX.sl (HD14.out.below hB))
  have HB15 := Lib.hid (Below.steps HB14.out hB)
  clear hX hB HL14 HB14 HD14
  go_wp2_with fail
  refine (Dg.limbs_any _ _ _ _ _ HD15.out.head).mono ?_
  rintro e w16 ⟨lw0, lwn, lwc, rfl, hX, hB⟩
  have HL16 := Lib.hid (All.cons hX.sl (HL15.out.below hB))
  have HD16 := Lib.hid (HD15.out.below hB)
  have HB16 := Lib.hid (Below.steps HB15.out hB)
  clear hX hB HL15 HB15 HD15
  go_wp2_with fail
  refine (same_b _ _ _ _ _ _ _ _ _ HL16.out.tail.head HL16.out.head rfl).mono ?_
  rintro e w17 ⟨rfl, hB⟩
  have HL17 := Lib.hid (HL16.out.below hB)
  have HD17 := Lib.hid (HD16.out.below hB)
  have HB17 := Lib.hid (Below.steps HB16.out hB)
  clear hB HL16 HB16 HD16
  go_wp2_with fail
  refine (kept_b _ _ _ _ _ _ _ _ _ HL17.out.tail.tail.tail.tail.tail.tail.head HL17.out.tail.tail.tail.tail.tail.tail.tail.head rfl).mono ?_
  rintro e w18 ⟨rfl, hB⟩
  have HL18 := Lib.hid (HL17.out.below hB)
  have HD18 := Lib.hid (HD17.out.below hB)
  have HB18 := Lib.hid (Below.steps HB17.out hB)
  clear hB HL17 HB17 HD17
  go_wp2_with fail
  refine (word_is A _ _ _ _ _ HL18.out.tail.tail.tail.tail.tail.tail.head HNL.out HA.out.symm).mono ?_
  rintro e w' ⟨rfl, rfl⟩
  go_wp2_with fail
  refine (Dg.bits_is kb _ _ _ _ _ HD18.out.tail.tail.tail.tail.tail.head HKB.out.symm (by omega)).mono ?_
  rintro e w19 ⟨rfl, hB⟩
  have HL19 := Lib.hid (HL18.out.below hB)
  have HD19 := Lib.hid (HD18.out.below hB)
  have HB19 := Lib.hid (Below.steps HB18.out hB)
  clear hB HL18 HB18 HD18
  go_wp2_with fail
  refine (Dg.small_any A _ HAL).mono ?_
  rintro e w20 ⟨dy0, dyn, dyc, rfl, hX, hB⟩
  have HL20 := Lib.hid (HL19.out.below hB)
  have HD20 := Lib.hid (Dg.All.cons hX.sl (HD19.out.below hB))
  have HB20 := Lib.hid (Below.steps HB19.out hB)
  clear hX hB HL19 HB19 HD19
  go_wp2_with fail
  refine (Dg.limbs_any _ _ _ _ _ HD20.out.head).mono ?_
  rintro e w21 ⟨ly0, lyn, lyc, rfl, hX, hB⟩
  have HL21 := Lib.hid (All.cons hX.sl (HL20.out.below hB))
  have HD21 := Lib.hid (HD20.out.below hB)
  have HB21 := Lib.hid (Below.steps HB20.out hB)
  clear hX hB HL20 HB20 HD20
  go_wp2_with fail
  refine (Dg.limbs_any _ _ _ _ _ HD21.out.tail.tail.tail.tail.tail.tail.head).mono ?_
  rintro e w22 ⟨ld0, ldn, ldc, rfl, hX, hB⟩
  have HL22 := Lib.hid (All.cons hX.sl (HL21.out.below hB))
  have HD22 := Lib.hid (HD21.out.below hB)
  have HB22 := Lib.hid (Below.steps HB21.out hB)
  clear hX hB HL21 HB21 HD21
  go_wp2_with fail
  refine (same_b _ _ _ _ _ _ _ _ _ HL22.out.tail.head HL22.out.head (by rw [HA.out])).mono ?_
  rintro e w23 ⟨rfl, hB⟩
  have HL23 := Lib.hid (HL22.out.below hB)
  have HD23 := Lib.hid (HD22.out.below hB)
  have HB23 := Lib.hid (Below.steps HB22.out hB)
  clear hB HL22 HB22 HD22
  go_wp2_with fail
  refine (known_any _).mono ?_
  rintro e w' ⟨rfl, hB⟩
  go_wp2_with fail
  go_ret
  exact ⟨rfl, Below.steps HB23.out hB⟩

set_option maxHeartbeats 4000000 in
set_option maxRecDepth 100000 in
theorem natShifts_high (a0 : Option Addr) (la ca : Nat) (xs : List Nat) (n : Nat) (u : Nat) (w : World) (ha : Sl w a0 la ca xs) (h1 : la ≤ 40) (hn : n ≤ 400) (hu : Hid (u ≤ 18446744073709551615)) (hs : Hid (18446744073709551616 ≤ val xs)) :
    Calls Try.prog 4 #[.slice a0 la ca, .int .i64 (n : Int), .int .u64 (u : Int)] w (True' w) := by
  obtain ⟨i0, hi, hz0, hz1, hz2⟩ := info_parts Try.info_u32
  have HLA := Lib.hid (dig_len 40 ha.wf ha.len h1)
  have HV : Hid (val xs < 4294967296 ^ 40) := val_small 40 ha.wf ha.len h1
  obtain ⟨A, hA⟩ : ∃ A, A = val xs := ⟨_, rfl⟩
  have HA := Lib.hid hA
  rw [← hA] at hs
  obtain ⟨kb, hkb⟩ : ∃ kb, kb = nbits (val xs) := ⟨_, rfl⟩
  have hkl : kb ≤ 1280 := by rw [hkb]; exact nbits_le32 40 HV.out
  have HNL : Hid (2 < nl xs) := nl_long ha.wf (by rw [← hA]; exact hs.out)
  have hk64 : 64 < kb := by rw [hkb, ← hA]; exact nbits_long hs.out
  have HKB := Lib.hid hkb
  clear hA hkb hs
  have e1 : decide (400 < (n : Int)) = false := by simp; omega
  have e2 : decide (1048576 < (n : Int)) = false := by simp; omega
  have e3 : decide ((n : Int) < 0) = false := by simp
  have HL0 := Lib.hid (All.cons ha (All.nil _))
  have HD0 := Lib.hid (Dg.All.nil w)
  have HB0 := Lib.hid (Below.refl w.heap.size w)
  clear ha
  go_enter Try.func4, Try.ntmps4
  go_wp2_with fail
  refine (great_no _ _ _ _ _ _ _ (by omega) (by omega)).mono ?_
  rintro e w' ⟨rfl, rfl⟩
  go_wp2_with (at_builtin; refine wpList_dup w w rfl (.tmp 28) (.tmp 29) 22 rfl w.heap.size i0 (.int .u32 0) Try.underlying22 hi hz0 hz1 hz2 rfl rfl _ _ _ _ rfl (HL0.out.head) (Below.refl _ _) (Nat.le_refl _) ?_; intro x0 xc w1 hX1 hB1 hb1)
  have HL1 := Lib.hid (All.cons hX1.sl (HL0.out.below hb1))
  have HB1 := Lib.hid hB1
  have HD1 := Lib.hid (Dg.All.nil w1)
  clear hX1 hB1 hb1 HL0 HB0 HD0
  refine (Dg.of_any _ _ _ _ _ HL1.out.tail.head (by omega)).mono ?_
  rintro e w2 ⟨d0, dn, dc, rfl, hX, hB⟩
  have hn_d : dn ≤ 400 := by rw [← hX.len]; exact HLA.out
  have HL2 := Lib.hid (HL1.out.below hB)
  have HD2 := Lib.hid (Dg.All.cons hX.sl (HD1.out.below hB))
  have HB2 := Lib.hid (Below.steps HB1.out hB)
  clear hX hB HL1 HB1 HD1
  go_wp2_with fail
  refine (shl_any _ _ _ _ n _ HL2.out.head (by omega) (by omega)).mono ?_
  rintro e w3 ⟨l0, ln, lc, rfl, hX, hB⟩
  have HL3 := Lib.hid (All.cons hX.sl (HL2.out.below hB))
  have HD3 := Lib.hid (HD2.out.below hB)
  have HB3 := Lib.hid (Below.steps HB2.out hB)
  clear hX hB HL2 HB2 HD2
  go_wp2_with fail
  refine (shr_any _ _ _ _ n _ HL3.out.tail.head (by omega)).mono ?_
  rintro e w4 ⟨r0, rn, rc, rfl, hX, hB⟩
  have HL4 := Lib.hid (All.cons hX.sl (HL3.out.below hB))
  have HD4 := Lib.hid (HD3.out.below hB)
  have HB4 := Lib.hid (Below.steps HB3.out hB)
  clear hX hB HL3 HB3 HD3
  go_wp2_with fail
  refine (Dg.two_any n _ (by omega)).mono ?_
  rintro e w5 ⟨t0, tn, tc, rfl, hX, hB⟩
  have hn_t : tn ≤ 401 := by rw [← hX.len]; exact Nat.le_trans (Dg.two_len n) (by omega)
  have HL5 := Lib.hid (HL4.out.below hB)
  have HD5 := Lib.hid (Dg.All.cons hX.sl (HD4.out.below hB))
  have HB5 := Lib.hid (Below.steps HB4.out hB)
  clear hX hB HL4 HB4 HD4
  go_wp2_with fail
  refine (Dg.divmod_any _ _ _ _ _ _ _ (2 ^ n) _ HD5.out.tail.head HD5.out.head (Nat.two_pow_pos n) (by omega) (by omega)).mono ?_
  rintro e w6 ⟨q0, qn, qc, m0, mn, mc, rfl, hX, _, hB⟩
  rw [Dg.val_limbs] at hX
  have HL6 := Lib.hid (HL5.out.below hB)
  have HD6 := Lib.hid (Dg.All.cons hX (HD5.out.below hB))
  have HB6 := Lib.hid (Below.steps HB5.out hB)
  clear hX hB HL5 HD5 HB5
  go_wp2_with fail
  refine (Dg.two_any n _ (by omega)).mono ?_
  rintro e w7 ⟨t20, t2n, t2c, rfl, hX, hB⟩
  have hn_t2 : t2n ≤ 401 := by rw [← hX.len]; exact Nat.le_trans (Dg.two_len n) (by omega)
  have HL7 := Lib.hid (HL6.out.below hB)
  have HD7 := Lib.hid (Dg.All.cons hX.sl (HD6.out.below hB))
  have HB7 := Lib.hid (Below.steps HB6.out hB)
  clear hX hB HL6 HB6 HD6
  go_wp2_with fail
  refine (Dg.mul_any _ _ _ _ _ _ _ _ _ HD7.out.tail.tail.tail.head HD7.out.head (by omega) (by omega)).mono ?_
  rintro e w8 ⟨m0, mn, mc, rfl, hX, hB⟩
  rw [Dg.val_limbs, Dg.val_limbs] at hX
  have HL8 := Lib.hid (HL7.out.below hB)
  have HD8 := Lib.hid (Dg.All.cons hX.sl (HD7.out.below hB))
  have HB8 := Lib.hid (Below.steps HB7.out hB)
  clear hX hB HL7 HB7 HD7
  go_wp2_with fail
  refine (Dg.limbs_any _ _ _ _ _ HD8.out.head).mono ?_
  rintro e w9 ⟨lm0, lmn, lmc, rfl, hX, hB⟩
  have HL9 := Lib.hid (All.cons hX.sl (HL8.out.below hB))
  have HD9 := Lib.hid (HD8.out.below hB)
  have HB9 := Lib.hid (Below.steps HB8.out hB)
  clear hX hB HL8 HB8 HD8
  go_wp2_with fail
  refine (same_b _ _ _ _ _ _ _ _ _ HL9.out.tail.tail.head HL9.out.head rfl).mono ?_
  rintro e w10 ⟨rfl, hB⟩
  have HL10 := Lib.hid (HL9.out.below hB)
  have HD10 := Lib.hid (HD9.out.below hB)
  have HB10 := Lib.hid (Below.steps HB9.out hB)
  clear hB HL9 HB9 HD9
  go_wp2_with fail
  refine (Dg.limbs_any _ _ _ _ _ HD10.out.tail.tail.head).mono ?_
  rintro e w11 ⟨lq0, lqn, lqc, rfl, hX, hB⟩
  have HL11 := Lib.hid (All.cons hX.sl (HL10.out.below hB))
  have HD11 := Lib.hid (HD10.out.below hB)
  have HB11 := Lib.hid (Below.steps HB10.out hB)
  clear hX hB HL10 HB10 HD10
  go_wp2_with fail
  refine (same_b _ _ _ _ _ _ _ _ _ HL11.out.tail.tail.head HL11.out.head rfl).mono ?_
  rintro e w12 ⟨rfl, hB⟩
  have HL12 := Lib.hid (HL11.out.below hB)
  have HD12 := Lib.hid (HD11.out.below hB)
  have HB12 := Lib.hid (Below.steps HB11.out hB)
  clear hB HL11 HB11 HD11
  go_wp2_with fail
  refine (bits_is kb _ _ _ _ _ HL12.out.tail.tail.tail.tail.head HKB.out.symm).mono ?_
  rintro e w' ⟨rfl, rfl⟩
  go_wp2_with fail
  refine (Dg.bits_is kb _ _ _ _ _ HD12.out.tail.tail.tail.tail.head HKB.out.symm (by omega)).mono ?_
  rintro e w13 ⟨rfl, hB⟩
  have HL13 := Lib.hid (HL12.out.below hB)
  have HD13 := Lib.hid (HD12.out.below hB)
  have HB13 := Lib.hid (Below.steps HB12.out hB)
  clear hB HL12 HB12 HD12
  go_wp2_with fail
  refine (small_any u _ hu.out).mono ?_
  rintro e w14 ⟨sw0, swn, swc, rfl, hX, hB⟩
  have HL14 := Lib.hid (All.cons hX.sl (HL13.out.below hB))
  have HD14 := Lib.hid (HD13.out.below hB)
  have HB14 := Lib.hid (Below.steps HB13.out hB)
  clear hX hB HL13 HB13 HD13
  go_wp2_with fail
  refine (Dg.small_any u _ hu).mono ?_
  rintro e w15 ⟨dw0, dwn, dwc, rfl, hX, hB⟩
  have HL15 := Lib.hid (HL14.out.below hB)
  have HD15 := Lib.hid (Dg.All.cons hX.sl (HD14.out.below hB))
  have HB15 := Lib.hid (Below.steps HB14.out hB)
  clear hX hB HL14 HB14 HD14
  go_wp2_with fail
  refine (Dg.limbs_any _ _ _ _ _ HD15.out.head).mono ?_
  rintro e w16 ⟨lw0, lwn, lwc, rfl, hX, hB⟩
  have HL16 := Lib.hid (All.cons hX.sl (HL15.out.below hB))
  have HD16 := Lib.hid (HD15.out.below hB)
  have HB16 := Lib.hid (Below.steps HB15.out hB)
  clear hX hB HL15 HB15 HD15
  go_wp2_with fail
  refine (same_b _ _ _ _ _ _ _ _ _ HL16.out.tail.head HL16.out.head rfl).mono ?_
  rintro e w17 ⟨rfl, hB⟩
  have HL17 := Lib.hid (HL16.out.below hB)
  have HD17 := Lib.hid (HD16.out.below hB)
  have HB17 := Lib.hid (Below.steps HB16.out hB)
  clear hB HL16 HB16 HD16
  go_wp2_with fail
  refine (kept_b _ _ _ _ _ _ _ _ _ HL17.out.tail.tail.tail.tail.tail.tail.head HL17.out.tail.tail.tail.tail.tail.tail.tail.head rfl).mono ?_
  rintro e w18 ⟨rfl, hB⟩
  have HL18 := Lib.hid (HL17.out.below hB)
  have HD18 := Lib.hid (HD17.out.below hB)
  have HB18 := Lib.hid (Below.steps HB17.out hB)
  clear hB HL17 HB17 HD17
  go_wp2_with fail
  refine (word_long _ _ _ _ _ HL18.out.tail.tail.tail.tail.tail.tail.head HNL.out).mono ?_
  rintro e w' ⟨rfl, rfl⟩
  go_wp2_with fail
  refine (Dg.bits_is kb _ _ _ _ _ HD18.out.tail.tail.tail.tail.tail.head HKB.out.symm (by omega)).mono ?_
  rintro e w19 ⟨rfl, hB⟩
  have HL19 := Lib.hid (HL18.out.below hB)
  have HD19 := Lib.hid (HD18.out.below hB)
  have HB19 := Lib.hid (Below.steps HB18.out hB)
  clear hB HL18 HB18 HD18
  go_wp2_with fail
  refine (known_any _).mono ?_
  rintro e w' ⟨rfl, hB⟩
  go_wp2_with fail
  go_ret
  exact ⟨rfl, Below.steps HB19.out hB⟩

theorem natShifts_any (a0 : Option Addr) (la ca : Nat) (xs : List Nat) (n u : Int) (w : World) (ha : Sl w a0 la ca xs) (hu0 : 0 ≤ u) (hu : u ≤ 18446744073709551615) :
    Calls Try.prog 4 #[.slice a0 la ca, .int .i64 n, .int .u64 u] w (True' w) := by
  obtain ⟨u, rfl⟩ := Int.eq_ofNat_of_zero_le hu0
  by_cases h : 40 < la
  · exact natShifts_long _ _ _ _ _ _ _ ha h
  · by_cases h1 : n < 0
    · exact natShifts_below _ _ _ _ _ _ _ ha (by omega) h1
    · by_cases h2 : 1048576 < n
      · exact natShifts_above _ _ _ _ _ _ _ ha (by omega) h2
      · by_cases h3 : 400 < n
        · exact natShifts_far _ _ _ _ _ _ _ ha (by omega) h3 (by omega)
        · obtain ⟨n, rfl⟩ := Int.eq_ofNat_of_zero_le (show 0 ≤ n by omega)
          have hu2 : Hid (u ≤ 18446744073709551615) := by rw [Hid]; omega
          by_cases hs : val xs < 18446744073709551616
          · exact natShifts_low _ _ _ _ _ _ _ ha (by omega) (by omega) hu2 hs
          · exact natShifts_high _ _ _ _ _ _ _ ha (by omega) (by omega) hu2 (by rw [Hid]; omega)

end Go.Proofs.Ytkopkmbijmofjaa

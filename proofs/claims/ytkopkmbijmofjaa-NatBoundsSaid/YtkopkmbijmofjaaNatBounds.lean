/-
  The walk of the law NatBounds.
-/
import Derived.Test.YtkopkmbijmofjaaGLaw
import Derived.Test.YtkopkmbijmofjaaGNatB
import Derived.Test.YtkopkmbijmofjaaKnown
import Derived.Test.YtkopkmbijmofjaaGNatA
namespace Go.Proofs.Ytkopkmbijmofjaa
open Go.RowKit

set_option maxHeartbeats 1000000 in
theorem natBounds_long (a0 : Option Addr) (la ca : Nat) (xs : List Nat) (u : Nat) (w : World) (ha : Sl w a0 la ca xs) (h : 200 < la) :
    Calls Try.prog 7 #[.slice a0 la ca, .int .u64 (u : Int)] w (True' w) := by
  have b1 := ha.big
  have l1 := ha.le
  go_enter Try.func7, Try.ntmps7
  go_wp2_with fail
  refine (known_any _).mono ?_
  rintro e w' ⟨rfl, hB⟩
  go_wp2_with fail
  go_ret
  exact ⟨rfl, hB⟩

set_option maxHeartbeats 2000000 in
set_option maxRecDepth 100000 in
theorem natBounds_zero (a0 : Option Addr) (la ca : Nat) (xs : List Nat) (u : Nat) (w : World) (ha : Sl w a0 la ca xs) (h1 : la ≤ 200) (hz : val xs = 0) :
    Calls Try.prog 7 #[.slice a0 la ca, .int .u64 (u : Int)] w (True' w) := by
  have HZ := Lib.hid hz
  have HS : Hid (nl xs ≤ 2) := nl_short (by omega)
  clear hz
  have d1 : decide (200 < la) = false := by simp; omega
  have HL0 := Lib.hid (All.cons ha (All.nil _))
  have HB0 := Lib.hid (Below.refl w.heap.size w)
  clear ha
  go_enter Try.func7, Try.ntmps7
  go_wp2_with fail
  refine (bits_is 0 _ _ _ _ _ HL0.out.head (by rw [HZ.out]; rfl)).mono ?_
  rintro e w' ⟨rfl, rfl⟩
  go_wp2_with fail
  refine (word_is 0 _ _ _ _ _ HL0.out.head HS.out HZ.out).mono ?_
  rintro e w' ⟨rfl, rfl⟩
  go_wp2_with fail
  refine (trim_new _ _ _ _ _ HL0.out.head).mono ?_
  rintro e w1 ⟨ta0, tan, tac, rfl, hX, hB⟩
  have htn : tan = 0 := by rw [← hX.len, HZ.out]; rfl
  subst htn
  have HL1 := Lib.hid (All.cons hX.sl (HL0.out.below hB))
  have HB1 := Lib.hid (Below.steps HB0.out hB)
  clear hX hB HL0 HB0
  go_wp2_with fail
  refine (known_any _).mono ?_
  rintro e w' ⟨rfl, hB⟩
  go_wp2_with fail
  go_ret
  exact ⟨rfl, Below.steps HB1.out hB⟩

set_option maxHeartbeats 2000000 in
set_option maxRecDepth 100000 in
theorem natBounds_low (a0 : Option Addr) (la ca : Nat) (xs : List Nat) (u : Nat) (w : World) (ha : Sl w a0 la ca xs) (hu : u ≤ 18446744073709551615) (h1 : la ≤ 200) (hz : val xs ≠ 0) (hs : val xs < 18446744073709551616) :
    Calls Try.prog 7 #[.slice a0 la ca, .int .u64 (u : Int)] w (True' w) := by
  obtain ⟨p, hp, hp1, hp2⟩ := nbits_pos hz
  have HV : Hid (val xs < 4294967296 ^ 200) := val_small 200 ha.wf ha.len h1
  have hpl : p + 1 ≤ 6400 := by rw [← hp]; exact nbits_le32 200 HV.out
  have HC1 : Hid (cmpN (val xs) (val (limbs (val [1] * 2 ^ p))) = if 2 ^ p = val xs then 0 else 1) := by
    show _ = _
    rw [val_limbs, show val [1] = 1 from rfl, Nat.one_mul]
    unfold cmpN
    rw [if_neg (by omega)]
    by_cases e : val xs = 2 ^ p
    · rw [if_pos e, if_pos e.symm]
    · rw [if_neg e, if_neg (fun h => e h.symm)]
  obtain ⟨cg, hcg⟩ : ∃ cg : Int, cg = if 2 ^ p = val xs then 0 else 1 := ⟨_, rfl⟩
  rw [← hcg] at HC1
  have hcg0 : 0 ≤ cg := by rw [hcg]; split <;> omega
  have HC2 : Hid (cmpN (val xs) (val (limbs (val [1] * 2 ^ (p + 1)))) = -1) := by
    show _ = _
    rw [val_limbs, show val [1] = 1 from rfl, Nat.one_mul]
    unfold cmpN
    rw [if_pos hp2]
  have HONE : Hid (val xs / 2 ^ p = 1) := div_one hp1 hp2
  have HNONE : Hid (val xs / 2 ^ (p + 1) = 0) := Nat.div_eq_of_lt hp2
  have HP := Lib.hid hp
  have HUB : Hid (nl (limbs u) ≤ 2) := nl_short (by rw [val_limbs]; omega)
  have HUB2 : Hid (nbits u ≤ 64) := nbits_short (by omega)
  obtain ⟨ub, hub⟩ : ∃ ub, ub = nbits u := ⟨_, rfl⟩
  rw [← hub] at HUB2
  have hubl : ub ≤ 64 := HUB2.out
  have HUBE := Lib.hid hub
  have HNL : Hid (nl xs ≤ 2) := nl_short hs
  have hp64 : p + 1 ≤ 64 := by rw [← hp]; exact nbits_short hs
  obtain ⟨A, hA⟩ : ∃ A, A = val xs := ⟨_, rfl⟩
  have hAl : A ≤ 18446744073709551615 := by omega
  have HA := Lib.hid hA
  have HAL := Lib.hid hAl
  clear hA hAl
  have HU := Lib.hid hu
  clear hp hp1 hp2 hz hs hcg hub HUB2 hu
  have d1 : decide (200 < la) = false := by simp; omega
  have e1 : (((p + 1 : Nat) : Int) == 0) = false := by simp; omega
  have e2 : (((p : Nat) : Int) + 1 == 0) = false := by simp; omega
  have HL0 := Lib.hid (All.cons ha (All.nil _))
  have HB0 := Lib.hid (Below.refl w.heap.size w)
  clear ha
  go_enter Try.func7, Try.ntmps7
  go_wp2_with fail
  refine (bits_is (p + 1) _ _ _ _ _ HL0.out.head HP.out).mono ?_
  rintro e w' ⟨rfl, rfl⟩
  go_wp2_with fail
  refine (shl_any _ _ _ [1] p _ (lit_sl _ _ 1 [1] rfl rfl _ rfl (wf1 (by omega)) (by simp)) (by omega) (by omega)).mono ?_
  rintro e w1 ⟨low0, lown, lowc, rfl, hX, hB⟩
  have HL1 := Lib.hid (All.cons hX.sl (HL0.out.below (step_alloc hB)))
  have HB1 := Lib.hid (Below.steps HB0.out (step_alloc hB))
  clear hX hB HL0 HB0
  go_wp2_with fail
  try rw [show ((p : Nat) : Int) + 1 = ((p + 1 : Nat) : Int) from by omega]
  refine (shl_any _ _ _ [1] (p + 1) _ (lit_sl _ _ 1 [1] rfl rfl _ rfl (wf1 (by omega)) (by simp)) (by omega) (by omega)).mono ?_
  rintro e w2 ⟨high0, highn, highc, rfl, hX, hB⟩
  have HL2 := Lib.hid (All.cons hX.sl (HL1.out.below (step_alloc hB)))
  have HB2 := Lib.hid (Below.steps HB1.out (step_alloc hB))
  clear hX hB HL1 HB1
  go_wp2_with fail
  refine (shr_any _ _ _ _ p _ HL2.out.tail.tail.head (by omega)).mono ?_
  rintro e w3 ⟨one0, onen, onec, rfl, hX, hB⟩
  rw [HONE.out, show limbs 1 = [1] from limbs_of 1 [1] (wf1 (by omega)) rfl rfl] at hX
  have HL3 := Lib.hid (All.cons hX.sl (HL2.out.below hB))
  have HB3 := Lib.hid (Below.steps HB2.out hB)
  clear hX hB HL2 HB2
  go_wp2_with fail
  try rw [show ((p : Nat) : Int) + 1 = ((p + 1 : Nat) : Int) from by omega]
  refine (shr_any _ _ _ _ (p + 1) _ HL3.out.tail.tail.tail.head (by omega)).mono ?_
  rintro e w4 ⟨no0, non, noc, rfl, hX, hB⟩
  rw [HNONE.out, limbs_zero] at hX
  have hnn : non = 0 := by rw [← hX.len]; rfl
  subst hnn
  have HL4 := Lib.hid (All.cons hX.sl (HL3.out.below hB))
  have HB4 := Lib.hid (Below.steps HB3.out hB)
  clear hX hB HL3 HB3
  go_wp2_with fail
  refine (cmp_b cg _ _ _ _ _ _ _ _ _ HL4.out.tail.tail.tail.tail.head HL4.out.tail.tail.tail.head HC1).mono ?_
  rintro e w5 ⟨rfl, hB⟩
  have HL5 := Lib.hid (HL4.out.below hB)
  have HB5 := Lib.hid (Below.steps HB4.out hB)
  clear hB HL4 HB4
  go_wp2_with fail
  refine (cmp_b (-1) _ _ _ _ _ _ _ _ _ HL5.out.tail.tail.tail.tail.head HL5.out.tail.tail.head HC2).mono ?_
  rintro e w6 ⟨rfl, hB⟩
  have HL6 := Lib.hid (HL5.out.below hB)
  have HB6 := Lib.hid (Below.steps HB5.out hB)
  clear hB HL5 HB5
  go_wp2_with fail
  refine (same_b _ _ _ _ _ _ _ _ _ (HL6.out.tail.head.alloc _) (lit_sl _ _ 1 [1] rfl rfl _ rfl (wf1 (by omega)) (by simp)) rfl).mono ?_
  rintro e w7 ⟨rfl, hB⟩
  have HL7 := Lib.hid (HL6.out.below (step_alloc hB))
  have HB7 := Lib.hid (Below.steps HB6.out (step_alloc hB))
  clear hB HL6 HB6
  go_wp2_with fail
  refine (word_is A _ _ _ _ _ HL7.out.tail.tail.tail.tail.head HNL.out HA.out.symm).mono ?_
  rintro e w' ⟨rfl, rfl⟩
  go_wp2_with fail
  refine (small_any u _ HU.out).mono ?_
  rintro e w8 ⟨su0, sun, suc, rfl, hX, hB⟩
  have HL8 := Lib.hid (All.cons hX.sl (HL7.out.below hB))
  have HB8 := Lib.hid (Below.steps HB7.out hB)
  clear hX hB HL7 HB7
  go_wp2_with fail
  refine (word_is u _ _ _ _ _ HL8.out.head HUB.out (val_limbs u)).mono ?_
  rintro e w' ⟨rfl, rfl⟩
  go_wp2_with fail
  refine (small_any A _ HAL.out).mono ?_
  rintro e w9 ⟨sx0, sxn, sxc, rfl, hX, hB⟩
  have HL9 := Lib.hid (All.cons hX.sl (HL8.out.below hB))
  have HB9 := Lib.hid (Below.steps HB8.out hB)
  clear hX hB HL8 HB8
  go_wp2_with fail
  refine (trim_new _ _ _ _ _ HL9.out.tail.tail.tail.tail.tail.tail.head).mono ?_
  rintro e w10 ⟨ta0, tan, tac, rfl, hX, hB⟩
  have HL10 := Lib.hid (All.cons hX.sl (HL9.out.below hB))
  have HB10 := Lib.hid (Below.steps HB9.out hB)
  clear hX hB HL9 HB9
  go_wp2_with fail
  refine (same_b _ _ _ _ _ _ _ _ _ HL10.out.tail.head HL10.out.head (by rw [HA.out])).mono ?_
  rintro e w11 ⟨rfl, hB⟩
  have HL11 := Lib.hid (HL10.out.below hB)
  have HB11 := Lib.hid (Below.steps HB10.out hB)
  clear hB HL10 HB10
  go_wp2_with fail
  refine (small_any u _ HU.out).mono ?_
  rintro e w12 ⟨su20, su2n, su2c, rfl, hX, hB⟩
  have HL12 := Lib.hid (All.cons hX.sl (HL11.out.below hB))
  have HB12 := Lib.hid (Below.steps HB11.out hB)
  clear hX hB HL11 HB11
  go_wp2_with fail
  refine (bits_is ub _ _ _ _ _ HL12.out.head (by rw [val_limbs]; exact HUBE.out.symm)).mono ?_
  rintro e w' ⟨rfl, rfl⟩
  go_wp2_with fail
  refine (known_any _).mono ?_
  rintro e w' ⟨rfl, hB⟩
  go_wp2_with fail
  go_ret
  exact ⟨rfl, Below.steps HB12.out hB⟩

set_option maxHeartbeats 2000000 in
set_option maxRecDepth 100000 in
theorem natBounds_high (a0 : Option Addr) (la ca : Nat) (xs : List Nat) (u : Nat) (w : World) (ha : Sl w a0 la ca xs) (hu : u ≤ 18446744073709551615) (h1 : la ≤ 200) (hz : val xs ≠ 0) (hs : 18446744073709551616 ≤ val xs) :
    Calls Try.prog 7 #[.slice a0 la ca, .int .u64 (u : Int)] w (True' w) := by
  obtain ⟨p, hp, hp1, hp2⟩ := nbits_pos hz
  have HV : Hid (val xs < 4294967296 ^ 200) := val_small 200 ha.wf ha.len h1
  have hpl : p + 1 ≤ 6400 := by rw [← hp]; exact nbits_le32 200 HV.out
  have HC1 : Hid (cmpN (val xs) (val (limbs (val [1] * 2 ^ p))) = if 2 ^ p = val xs then 0 else 1) := by
    show _ = _
    rw [val_limbs, show val [1] = 1 from rfl, Nat.one_mul]
    unfold cmpN
    rw [if_neg (by omega)]
    by_cases e : val xs = 2 ^ p
    · rw [if_pos e, if_pos e.symm]
    · rw [if_neg e, if_neg (fun h => e h.symm)]
  obtain ⟨cg, hcg⟩ : ∃ cg : Int, cg = if 2 ^ p = val xs then 0 else 1 := ⟨_, rfl⟩
  rw [← hcg] at HC1
  have hcg0 : 0 ≤ cg := by rw [hcg]; split <;> omega
  have HC2 : Hid (cmpN (val xs) (val (limbs (val [1] * 2 ^ (p + 1)))) = -1) := by
    show _ = _
    rw [val_limbs, show val [1] = 1 from rfl, Nat.one_mul]
    unfold cmpN
    rw [if_pos hp2]
  have HONE : Hid (val xs / 2 ^ p = 1) := div_one hp1 hp2
  have HNONE : Hid (val xs / 2 ^ (p + 1) = 0) := Nat.div_eq_of_lt hp2
  have HP := Lib.hid hp
  have HUB : Hid (nl (limbs u) ≤ 2) := nl_short (by rw [val_limbs]; omega)
  have HUB2 : Hid (nbits u ≤ 64) := nbits_short (by omega)
  obtain ⟨ub, hub⟩ : ∃ ub, ub = nbits u := ⟨_, rfl⟩
  rw [← hub] at HUB2
  have hubl : ub ≤ 64 := HUB2.out
  have HUBE := Lib.hid hub
  have HNL : Hid (2 < nl xs) := nl_long ha.wf hs
  have hp64 : 64 < p + 1 := by rw [← hp]; exact nbits_long hs
  have HU := Lib.hid hu
  clear hp hp1 hp2 hz hs hcg hub HUB2 hu
  have d1 : decide (200 < la) = false := by simp; omega
  have e1 : (((p + 1 : Nat) : Int) == 0) = false := by simp; omega
  have e2 : (((p : Nat) : Int) + 1 == 0) = false := by simp; omega
  have HL0 := Lib.hid (All.cons ha (All.nil _))
  have HB0 := Lib.hid (Below.refl w.heap.size w)
  clear ha
  go_enter Try.func7, Try.ntmps7
  go_wp2_with fail
  refine (bits_is (p + 1) _ _ _ _ _ HL0.out.head HP.out).mono ?_
  rintro e w' ⟨rfl, rfl⟩
  go_wp2_with fail
  refine (shl_any _ _ _ [1] p _ (lit_sl _ _ 1 [1] rfl rfl _ rfl (wf1 (by omega)) (by simp)) (by omega) (by omega)).mono ?_
  rintro e w1 ⟨low0, lown, lowc, rfl, hX, hB⟩
  have HL1 := Lib.hid (All.cons hX.sl (HL0.out.below (step_alloc hB)))
  have HB1 := Lib.hid (Below.steps HB0.out (step_alloc hB))
  clear hX hB HL0 HB0
  go_wp2_with fail
  try rw [show ((p : Nat) : Int) + 1 = ((p + 1 : Nat) : Int) from by omega]
  refine (shl_any _ _ _ [1] (p + 1) _ (lit_sl _ _ 1 [1] rfl rfl _ rfl (wf1 (by omega)) (by simp)) (by omega) (by omega)).mono ?_
  rintro e w2 ⟨high0, highn, highc, rfl, hX, hB⟩
  have HL2 := Lib.hid (All.cons hX.sl (HL1.out.below (step_alloc hB)))
  have HB2 := Lib.hid (Below.steps HB1.out (step_alloc hB))
  clear hX hB HL1 HB1
  go_wp2_with fail
  refine (shr_any _ _ _ _ p _ HL2.out.tail.tail.head (by omega)).mono ?_
  rintro e w3 ⟨one0, onen, onec, rfl, hX, hB⟩
  rw [HONE.out, show limbs 1 = [1] from limbs_of 1 [1] (wf1 (by omega)) rfl rfl] at hX
  have HL3 := Lib.hid (All.cons hX.sl (HL2.out.below hB))
  have HB3 := Lib.hid (Below.steps HB2.out hB)
  clear hX hB HL2 HB2
  go_wp2_with fail
  try rw [show ((p : Nat) : Int) + 1 = ((p + 1 : Nat) : Int) from by omega]
  refine (shr_any _ _ _ _ (p + 1) _ HL3.out.tail.tail.tail.head (by omega)).mono ?_
  rintro e w4 ⟨no0, non, noc, rfl, hX, hB⟩
  rw [HNONE.out, limbs_zero] at hX
  have hnn : non = 0 := by rw [← hX.len]; rfl
  subst hnn
  have HL4 := Lib.hid (All.cons hX.sl (HL3.out.below hB))
  have HB4 := Lib.hid (Below.steps HB3.out hB)
  clear hX hB HL3 HB3
  go_wp2_with fail
  refine (cmp_b cg _ _ _ _ _ _ _ _ _ HL4.out.tail.tail.tail.tail.head HL4.out.tail.tail.tail.head HC1).mono ?_
  rintro e w5 ⟨rfl, hB⟩
  have HL5 := Lib.hid (HL4.out.below hB)
  have HB5 := Lib.hid (Below.steps HB4.out hB)
  clear hB HL4 HB4
  go_wp2_with fail
  refine (cmp_b (-1) _ _ _ _ _ _ _ _ _ HL5.out.tail.tail.tail.tail.head HL5.out.tail.tail.head HC2).mono ?_
  rintro e w6 ⟨rfl, hB⟩
  have HL6 := Lib.hid (HL5.out.below hB)
  have HB6 := Lib.hid (Below.steps HB5.out hB)
  clear hB HL5 HB5
  go_wp2_with fail
  refine (same_b _ _ _ _ _ _ _ _ _ (HL6.out.tail.head.alloc _) (lit_sl _ _ 1 [1] rfl rfl _ rfl (wf1 (by omega)) (by simp)) rfl).mono ?_
  rintro e w7 ⟨rfl, hB⟩
  have HL7 := Lib.hid (HL6.out.below (step_alloc hB))
  have HB7 := Lib.hid (Below.steps HB6.out (step_alloc hB))
  clear hB HL6 HB6
  go_wp2_with fail
  refine (word_long _ _ _ _ _ HL7.out.tail.tail.tail.tail.head HNL.out).mono ?_
  rintro e w' ⟨rfl, rfl⟩
  go_wp2_with fail
  refine (small_any u _ HU.out).mono ?_
  rintro e w8 ⟨su0, sun, suc, rfl, hX, hB⟩
  have HL8 := Lib.hid (All.cons hX.sl (HL7.out.below hB))
  have HB8 := Lib.hid (Below.steps HB7.out hB)
  clear hX hB HL7 HB7
  go_wp2_with fail
  refine (word_is u _ _ _ _ _ HL8.out.head HUB.out (val_limbs u)).mono ?_
  rintro e w' ⟨rfl, rfl⟩
  go_wp2_with fail
  refine (small_any u _ HU.out).mono ?_
  rintro e w9 ⟨su20, su2n, su2c, rfl, hX, hB⟩
  have HL9 := Lib.hid (All.cons hX.sl (HL8.out.below hB))
  have HB9 := Lib.hid (Below.steps HB8.out hB)
  clear hX hB HL8 HB8
  go_wp2_with fail
  refine (bits_is ub _ _ _ _ _ HL9.out.head (by rw [val_limbs]; exact HUBE.out.symm)).mono ?_
  rintro e w' ⟨rfl, rfl⟩
  go_wp2_with fail
  refine (known_any _).mono ?_
  rintro e w' ⟨rfl, hB⟩
  go_wp2_with fail
  go_ret
  exact ⟨rfl, Below.steps HB9.out hB⟩

theorem natBounds_any (a0 : Option Addr) (la ca : Nat) (xs : List Nat) (u : Int) (w : World) (ha : Sl w a0 la ca xs) (hu0 : 0 ≤ u) (hu : u ≤ 18446744073709551615) :
    Calls Try.prog 7 #[.slice a0 la ca, .int .u64 u] w (True' w) := by
  obtain ⟨u, rfl⟩ := Int.eq_ofNat_of_zero_le hu0
  by_cases h : 200 < la
  · exact natBounds_long _ _ _ _ _ _ ha h
  · by_cases hz : val xs = 0
    · exact natBounds_zero _ _ _ _ _ _ ha (by omega) hz
    · by_cases hs : val xs < 18446744073709551616
      · exact natBounds_low _ _ _ _ _ _ ha (by omega) (by omega) hz hs
      · exact natBounds_high _ _ _ _ _ _ ha (by omega) (by omega) hz (by omega)

end Go.Proofs.Ytkopkmbijmofjaa

/-
  The walk of the law DivideBy.
-/
import Derived.Test.YtgdcbpapdiohfaaGDiv2
import Derived.Test.YtgdcbpapdiohfaaGLaw
import Derived.Test.YtgdcbpapdiohfaaGMem
import Derived.Test.YtgdcbpapdiohfaaGNatB
namespace Go.Proofs.Ytgdcbpapdiohfaa
open Go.RowKit

set_option maxHeartbeats 1000000 in
set_option maxRecDepth 100000 in
theorem divideBy_long (a0 b0 : Option Addr) (la ca lb cb : Nat) (xs ys : List Nat) (d : Nat) (w : World) (ha : Sl w a0 la ca xs) (hb : Sl w b0 lb cb ys) (_ : d < 4294967296) (h : 40 < la ∨ 40 < lb) :
    Calls Try.prog 3 #[.slice a0 la ca, .slice b0 lb cb, .int .u32 (d : Int)] w (True' w) := by
  have b_ha := ha.big
  have b_hb := hb.big
  by_cases h0 : 40 < la
  · go_enter Try.func3, Try.ntmps3
    go_wp2_with fail
    refine (dknown_any _).mono ?_
    rintro e w' ⟨rfl, hB⟩
    go_wp2_with fail
    go_ret
    exact ⟨rfl, hB⟩
  · skip
    have h1 : 40 < lb := by omega
    have d0 : decide (40 < la) = false := by simp; omega
    go_enter Try.func3, Try.ntmps3
    go_wp2_with fail
    refine (dknown_any _).mono ?_
    rintro e w' ⟨rfl, hB⟩
    go_wp2_with fail
    go_ret
    exact ⟨rfl, hB⟩

set_option maxHeartbeats 4000000 in
set_option maxRecDepth 100000 in
theorem divideBy_zz (a0 b0 : Option Addr) (la ca lb cb : Nat) (xs ys : List Nat)  (w : World) (ha : Sl w a0 la ca xs) (hb : Sl w b0 lb cb ys) (h1 : la ≤ 40) (h2 : lb ≤ 40) (h0 : val ys = 0) :
    Calls Try.prog 3 #[.slice a0 la ca, .slice b0 lb cb, .int .u32 0] w (True' w) := by
  obtain ⟨i0, hi, hz0, hz1, hz2⟩ := info_parts Try.info_u32
  have d1 : decide (40 < la) = false := by simp; omega
  have d2 : decide (40 < lb) = false := by simp; omega
  have H0 := Lib.hid h0
  clear h0
  have HL0 := Lib.hid (All.cons ha (All.cons hb (All.nil _)))
  have HB0 := Lib.hid (Below.refl w.heap.size w)
  clear ha hb
  go_enter Try.func3, Try.ntmps3
  go_wp2_with (first | (at_builtin; refine wpList_dup w w rfl (.tmp 28) (.tmp 29) 22 rfl w.heap.size i0 (.int .u32 0) Try.underlying22 hi hz0 hz1 hz2 rfl rfl _ _ _ _ rfl (HL0.out.head) (Below.refl _ _) (Nat.le_refl _) ?_; intro x0 xc w1 hX1 hB1 hb1) | (at_builtin; refine wpList_dup w1 w rfl (.tmp 31) (.tmp 32) 22 rfl w.heap.size i0 (.int .u32 0) Try.underlying22 hi hz0 hz1 hz2 rfl rfl _ _ _ _ rfl (HL0.out.tail.head.below hb1) hB1 (by exact hB1.size) ?_; intro y0 yc w2 hX2 hB2 hb2))
  have HL1 := Lib.hid (All.cons hX2.sl (All.cons (hX1.below hb2).sl ((HL0.out.below hb1).below hb2)))
  have HB1 := Lib.hid hB2
  clear hX1 hX2 hB1 hB2 hb1 hb2 HL0 HB0
  obtain ⟨w1, rfl⟩ : ∃ w1 : World, w1 = w2 := ⟨_, rfl⟩
  refine (ddiv_zero _ _ _ _ _ _ _ _ _ HL1.out.tail.head HL1.out.head H0.out).mono ?_
  rintro e w2 ⟨rfl, hB⟩
  have HL2 := Lib.hid (HL1.out.below hB)
  have HB2 := Lib.hid (Below.steps HB1.out hB)
  clear hB HL1 HB1
  go_wp2_with fail
  refine (exact_zero _ _ _ _ _ _ _ _ _ HL2.out.tail.head HL2.out.head H0.out).mono ?_
  rintro e w3 ⟨rfl, hB⟩
  have HL3 := Lib.hid (HL2.out.below hB)
  have HB3 := Lib.hid (Below.steps HB2.out hB)
  clear hB HL2 HB2
  go_wp2_with fail
  refine (dzero_any true _ _ _ _ _ HL3.out.tail.tail.tail.head (by omega) (by rw [H0.out]; rfl)).mono ?_
  rintro e w4 ⟨rfl, hB⟩
  have HL4 := Lib.hid (HL3.out.below hB)
  have HB4 := Lib.hid (Below.steps HB3.out hB)
  clear hB HL3 HB3
  go_wp2_with fail
  refine (dlimb_zero _ _ _ _).mono ?_
  rintro e w5 ⟨rfl, hB⟩
  have HL5 := Lib.hid (HL4.out.below hB)
  have HB5 := Lib.hid (Below.steps HB4.out hB)
  clear hB HL4 HB4
  go_wp2_with fail
  refine (same_b _ _ _ _ _ _ _ _ _ HL5.out.tail.head HL5.out.tail.tail.head rfl).mono ?_
  rintro e w6 ⟨rfl, hB⟩
  have HL6 := Lib.hid (HL5.out.below hB)
  have HB6 := Lib.hid (Below.steps HB5.out hB)
  clear hB HL5 HB5
  go_wp2_with fail
  refine (same_b _ _ _ _ _ _ _ _ _ HL6.out.head HL6.out.tail.tail.tail.head rfl).mono ?_
  rintro e w7 ⟨rfl, hB⟩
  have HL7 := Lib.hid (HL6.out.below hB)
  have HB7 := Lib.hid (Below.steps HB6.out hB)
  clear hB HL6 HB6
  go_wp2_with fail
  refine (dknown_any _).mono ?_
  rintro e w' ⟨rfl, hB⟩
  go_wp2_with fail
  go_ret
  exact ⟨rfl, Below.steps HB7.out hB⟩

set_option maxHeartbeats 4000000 in
set_option maxRecDepth 100000 in
theorem divideBy_zp (a0 b0 : Option Addr) (la ca lb cb : Nat) (xs ys : List Nat) (d : Nat) (w : World) (ha : Sl w a0 la ca xs) (hb : Sl w b0 lb cb ys) (hd : d < 4294967296) (h1 : la ≤ 40) (h2 : lb ≤ 40) (h0 : val ys = 0) (hd0 : 0 < d) :
    Calls Try.prog 3 #[.slice a0 la ca, .slice b0 lb cb, .int .u32 (d : Int)] w (True' w) := by
  obtain ⟨i0, hi, hz0, hz1, hz2⟩ := info_parts Try.info_u32
  have d1 : decide (40 < la) = false := by simp; omega
  have d2 : decide (40 < lb) = false := by simp; omega
  have H0 := Lib.hid h0
  clear h0
  have HL0 := Lib.hid (All.cons ha (All.cons hb (All.nil _)))
  have HB0 := Lib.hid (Below.refl w.heap.size w)
  clear ha hb
  go_enter Try.func3, Try.ntmps3
  go_wp2_with (first | (at_builtin; refine wpList_dup w w rfl (.tmp 28) (.tmp 29) 22 rfl w.heap.size i0 (.int .u32 0) Try.underlying22 hi hz0 hz1 hz2 rfl rfl _ _ _ _ rfl (HL0.out.head) (Below.refl _ _) (Nat.le_refl _) ?_; intro x0 xc w1 hX1 hB1 hb1) | (at_builtin; refine wpList_dup w1 w rfl (.tmp 31) (.tmp 32) 22 rfl w.heap.size i0 (.int .u32 0) Try.underlying22 hi hz0 hz1 hz2 rfl rfl _ _ _ _ rfl (HL0.out.tail.head.below hb1) hB1 (by exact hB1.size) ?_; intro y0 yc w2 hX2 hB2 hb2))
  have HL1 := Lib.hid (All.cons hX2.sl (All.cons (hX1.below hb2).sl ((HL0.out.below hb1).below hb2)))
  have HB1 := Lib.hid hB2
  clear hX1 hX2 hB1 hB2 hb1 hb2 HL0 HB0
  obtain ⟨w1, rfl⟩ : ∃ w1 : World, w1 = w2 := ⟨_, rfl⟩
  refine (ddiv_zero _ _ _ _ _ _ _ _ _ HL1.out.tail.head HL1.out.head H0.out).mono ?_
  rintro e w2 ⟨rfl, hB⟩
  have HL2 := Lib.hid (HL1.out.below hB)
  have HB2 := Lib.hid (Below.steps HB1.out hB)
  clear hB HL1 HB1
  go_wp2_with fail
  refine (exact_zero _ _ _ _ _ _ _ _ _ HL2.out.tail.head HL2.out.head H0.out).mono ?_
  rintro e w3 ⟨rfl, hB⟩
  have HL3 := Lib.hid (HL2.out.below hB)
  have HB3 := Lib.hid (Below.steps HB2.out hB)
  clear hB HL2 HB2
  go_wp2_with fail
  refine (dzero_any true _ _ _ _ _ HL3.out.tail.tail.tail.head (by omega) (by rw [H0.out]; rfl)).mono ?_
  rintro e w4 ⟨rfl, hB⟩
  have HL4 := Lib.hid (HL3.out.below hB)
  have HB4 := Lib.hid (Below.steps HB3.out hB)
  clear hB HL3 HB3
  have HLB := Lib.hid (dlimb_any _ _ _ _ d _ HL4.out.tail.head (by omega) hd)
  go_wp2_with fail
  refine HLB.out.mono ?_
  rintro e w5 ⟨l0, ln, lc, rfl, hX, hB⟩
  obtain ⟨rl, hrl⟩ : ∃ r, r = val xs % d := ⟨_, rfl⟩
  rw [← hrl]
  have hrb : rl < d := by rw [hrl]; exact Nat.mod_lt _ (by omega)
  have HRL := Lib.hid hrl
  clear hrl HLB
  have HL5 := Lib.hid (All.cons hX (HL4.out.below hB))
  have HB5 := Lib.hid (Below.steps HB4.out hB)
  clear hX hB HL4 HB4
  go_wp2_with fail
  refine (refdiv_any _ _ _ _ _ _ _ [d] _ (HL5.out.tail.tail.tail.head.alloc _) (lit_sl _ _ 1 _ rfl rfl _ rfl (wf1 hd) (by simp)) (by omega) (by omega) (by simp [val]; omega)).mono ?_
  rintro e w6 ⟨s20, s2n, s2c, t20, t2n, t2c, rfl, hX, hY, hB⟩
  rw [show val [d] = d from by simp [val]] at hX
  rw [show val [d] = d from by simp [val], ← HRL.out] at hY
  have HL6 := Lib.hid (All.cons hX (All.cons hY (HL5.out.below (step_alloc hB))))
  have HB6 := Lib.hid (Below.steps HB5.out (step_alloc hB))
  clear hX hY hB HL5 HB5
  go_wp2_with fail
  refine (same_b _ _ _ _ _ _ _ _ _ HL6.out.tail.tail.head HL6.out.head rfl).mono ?_
  rintro e w7 ⟨rfl, hB⟩
  have HL7 := Lib.hid (HL6.out.below hB)
  have HB7 := Lib.hid (Below.steps HB6.out hB)
  clear hB HL6 HB6
  go_wp2_with fail
  refine (small_any rl _ (by omega)).mono ?_
  rintro e w8 ⟨se0, sen, sec, rfl, hX, hB⟩
  have HL8 := Lib.hid (All.cons hX.sl (HL7.out.below hB))
  have HB8 := Lib.hid (Below.steps HB7.out hB)
  clear hX hB HL7 HB7
  go_wp2_with fail
  refine (same_b _ _ _ _ _ _ _ _ _ HL8.out.head HL8.out.tail.tail.head rfl).mono ?_
  rintro e w9 ⟨rfl, hB⟩
  have HL9 := Lib.hid (HL8.out.below hB)
  have HB9 := Lib.hid (Below.steps HB8.out hB)
  clear hB HL8 HB8
  go_wp2_with fail
  refine (same_b _ _ _ _ _ _ _ _ _ HL9.out.tail.tail.tail.tail.tail.head HL9.out.tail.tail.tail.tail.tail.tail.head rfl).mono ?_
  rintro e w10 ⟨rfl, hB⟩
  have HL10 := Lib.hid (HL9.out.below hB)
  have HB10 := Lib.hid (Below.steps HB9.out hB)
  clear hB HL9 HB9
  go_wp2_with fail
  refine (same_b _ _ _ _ _ _ _ _ _ HL10.out.tail.tail.tail.tail.head HL10.out.tail.tail.tail.tail.tail.tail.tail.head rfl).mono ?_
  rintro e w11 ⟨rfl, hB⟩
  have HL11 := Lib.hid (HL10.out.below hB)
  have HB11 := Lib.hid (Below.steps HB10.out hB)
  clear hB HL10 HB10
  go_wp2_with fail
  refine (dknown_any _).mono ?_
  rintro e w' ⟨rfl, hB⟩
  go_wp2_with fail
  go_ret
  exact ⟨rfl, Below.steps HB11.out hB⟩

set_option maxHeartbeats 4000000 in
set_option maxRecDepth 100000 in
theorem divideBy_ez (a0 b0 : Option Addr) (la ca lb cb : Nat) (xs ys : List Nat)  (w : World) (ha : Sl w a0 la ca xs) (hb : Sl w b0 lb cb ys) (h1 : la ≤ 40) (h2 : lb ≤ 40) (h0 : val ys ≠ 0) (hr : val xs % val ys = 0) :
    Calls Try.prog 3 #[.slice a0 la ca, .slice b0 lb cb, .int .u32 0] w (True' w) := by
  obtain ⟨i0, hi, hz0, hz1, hz2⟩ := info_parts Try.info_u32
  have d1 : decide (40 < la) = false := by simp; omega
  have d2 : decide (40 < lb) = false := by simp; omega
  have H0 := Lib.hid h0
  clear h0
  have HR := Lib.hid hr
  clear hr
  have HL0 := Lib.hid (All.cons ha (All.cons hb (All.nil _)))
  have HB0 := Lib.hid (Below.refl w.heap.size w)
  clear ha hb
  go_enter Try.func3, Try.ntmps3
  go_wp2_with (first | (at_builtin; refine wpList_dup w w rfl (.tmp 28) (.tmp 29) 22 rfl w.heap.size i0 (.int .u32 0) Try.underlying22 hi hz0 hz1 hz2 rfl rfl _ _ _ _ rfl (HL0.out.head) (Below.refl _ _) (Nat.le_refl _) ?_; intro x0 xc w1 hX1 hB1 hb1) | (at_builtin; refine wpList_dup w1 w rfl (.tmp 31) (.tmp 32) 22 rfl w.heap.size i0 (.int .u32 0) Try.underlying22 hi hz0 hz1 hz2 rfl rfl _ _ _ _ rfl (HL0.out.tail.head.below hb1) hB1 (by exact hB1.size) ?_; intro y0 yc w2 hX2 hB2 hb2))
  have HL1 := Lib.hid (All.cons hX2.sl (All.cons (hX1.below hb2).sl ((HL0.out.below hb1).below hb2)))
  have HB1 := Lib.hid hB2
  clear hX1 hX2 hB1 hB2 hb1 hb2 HL0 HB0
  obtain ⟨w1, rfl⟩ : ∃ w1 : World, w1 = w2 := ⟨_, rfl⟩
  refine (ddiv_any _ _ _ _ _ _ _ _ _ HL1.out.tail.head HL1.out.head H0.out (by omega)).mono ?_
  rintro e w2 ⟨q0, qn, qc, rr0, rrn, rrc, rfl, hX, hY, hB⟩
  have HL2 := Lib.hid (All.cons hX (All.cons hY (HL1.out.below hB)))
  have HB2 := Lib.hid (Below.steps HB1.out hB)
  clear hX hY hB HL1 HB1
  go_wp2_with fail
  refine (exact_any _ _ _ _ _ _ _ _ _ HL2.out.tail.tail.tail.head HL2.out.tail.tail.head H0.out (by omega) HR.out).mono ?_
  rintro e w3 ⟨p0, pn, pc, rfl, hX, hB⟩
  have HL3 := Lib.hid (All.cons hX (HL2.out.below hB))
  have HB3 := Lib.hid (Below.steps HB2.out hB)
  clear hX hB HL2 HB2
  go_wp2_with fail
  refine (dzero_any false _ _ _ _ _ HL3.out.tail.tail.tail.tail.tail.tail.head (by omega) (by simpa using H0.out)).mono ?_
  rintro e w4 ⟨rfl, hB⟩
  have HL4 := Lib.hid (HL3.out.below hB)
  have HB4 := Lib.hid (Below.steps HB3.out hB)
  clear hB HL3 HB3
  go_wp2_with fail
  refine (refdiv_any _ _ _ _ _ _ _ _ _ HL4.out.tail.tail.tail.tail.tail.head HL4.out.tail.tail.tail.tail.tail.tail.head (by omega) (by omega) H0.out).mono ?_
  rintro e w5 ⟨s0, sn, sc, t0, tn, tc, rfl, hX, hY, hB⟩
  obtain rfl : tn = 0 := sl_nil hY HR.out
  have HL5 := Lib.hid (All.cons hX (All.cons hY (HL4.out.below hB)))
  have HB5 := Lib.hid (Below.steps HB4.out hB)
  clear hX hY hB HL4 HB4
  go_wp2_with fail
  refine (same_b _ _ _ _ _ _ _ _ _ HL5.out.tail.tail.tail.head HL5.out.head rfl).mono ?_
  rintro e w6 ⟨rfl, hB⟩
  have HL6 := Lib.hid (HL5.out.below hB)
  have HB6 := Lib.hid (Below.steps HB5.out hB)
  clear hB HL5 HB5
  go_wp2_with fail
  refine (same_b _ _ _ _ _ _ _ _ _ HL6.out.tail.tail.tail.tail.head HL6.out.tail.head rfl).mono ?_
  rintro e w7 ⟨rfl, hB⟩
  have HL7 := Lib.hid (HL6.out.below hB)
  have HB7 := Lib.hid (Below.steps HB6.out hB)
  clear hB HL6 HB6
  go_wp2_with fail
  refine (same_b _ _ _ _ _ _ _ _ _ HL7.out.tail.tail.head HL7.out.head rfl).mono ?_
  rintro e w8 ⟨rfl, hB⟩
  have HL8 := Lib.hid (HL7.out.below hB)
  have HB8 := Lib.hid (Below.steps HB7.out hB)
  clear hB HL7 HB7
  go_wp2_with fail
  refine (dlimb_zero _ _ _ _).mono ?_
  rintro e w9 ⟨rfl, hB⟩
  have HL9 := Lib.hid (HL8.out.below hB)
  have HB9 := Lib.hid (Below.steps HB8.out hB)
  clear hB HL8 HB8
  go_wp2_with fail
  refine (same_b _ _ _ _ _ _ _ _ _ HL9.out.tail.tail.tail.tail.tail.tail.head HL9.out.tail.tail.tail.tail.tail.tail.tail.head rfl).mono ?_
  rintro e w10 ⟨rfl, hB⟩
  have HL10 := Lib.hid (HL9.out.below hB)
  have HB10 := Lib.hid (Below.steps HB9.out hB)
  clear hB HL9 HB9
  go_wp2_with fail
  refine (same_b _ _ _ _ _ _ _ _ _ HL10.out.tail.tail.tail.tail.tail.head HL10.out.tail.tail.tail.tail.tail.tail.tail.tail.head rfl).mono ?_
  rintro e w11 ⟨rfl, hB⟩
  have HL11 := Lib.hid (HL10.out.below hB)
  have HB11 := Lib.hid (Below.steps HB10.out hB)
  clear hB HL10 HB10
  go_wp2_with fail
  refine (dknown_any _).mono ?_
  rintro e w' ⟨rfl, hB⟩
  go_wp2_with fail
  go_ret
  exact ⟨rfl, Below.steps HB11.out hB⟩

set_option maxHeartbeats 4000000 in
set_option maxRecDepth 100000 in
theorem divideBy_ep (a0 b0 : Option Addr) (la ca lb cb : Nat) (xs ys : List Nat) (d : Nat) (w : World) (ha : Sl w a0 la ca xs) (hb : Sl w b0 lb cb ys) (hd : d < 4294967296) (h1 : la ≤ 40) (h2 : lb ≤ 40) (h0 : val ys ≠ 0) (hr : val xs % val ys = 0) (hd0 : 0 < d) :
    Calls Try.prog 3 #[.slice a0 la ca, .slice b0 lb cb, .int .u32 (d : Int)] w (True' w) := by
  obtain ⟨i0, hi, hz0, hz1, hz2⟩ := info_parts Try.info_u32
  have d1 : decide (40 < la) = false := by simp; omega
  have d2 : decide (40 < lb) = false := by simp; omega
  have H0 := Lib.hid h0
  clear h0
  have HR := Lib.hid hr
  clear hr
  have HL0 := Lib.hid (All.cons ha (All.cons hb (All.nil _)))
  have HB0 := Lib.hid (Below.refl w.heap.size w)
  clear ha hb
  go_enter Try.func3, Try.ntmps3
  go_wp2_with (first | (at_builtin; refine wpList_dup w w rfl (.tmp 28) (.tmp 29) 22 rfl w.heap.size i0 (.int .u32 0) Try.underlying22 hi hz0 hz1 hz2 rfl rfl _ _ _ _ rfl (HL0.out.head) (Below.refl _ _) (Nat.le_refl _) ?_; intro x0 xc w1 hX1 hB1 hb1) | (at_builtin; refine wpList_dup w1 w rfl (.tmp 31) (.tmp 32) 22 rfl w.heap.size i0 (.int .u32 0) Try.underlying22 hi hz0 hz1 hz2 rfl rfl _ _ _ _ rfl (HL0.out.tail.head.below hb1) hB1 (by exact hB1.size) ?_; intro y0 yc w2 hX2 hB2 hb2))
  have HL1 := Lib.hid (All.cons hX2.sl (All.cons (hX1.below hb2).sl ((HL0.out.below hb1).below hb2)))
  have HB1 := Lib.hid hB2
  clear hX1 hX2 hB1 hB2 hb1 hb2 HL0 HB0
  obtain ⟨w1, rfl⟩ : ∃ w1 : World, w1 = w2 := ⟨_, rfl⟩
  refine (ddiv_any _ _ _ _ _ _ _ _ _ HL1.out.tail.head HL1.out.head H0.out (by omega)).mono ?_
  rintro e w2 ⟨q0, qn, qc, rr0, rrn, rrc, rfl, hX, hY, hB⟩
  have HL2 := Lib.hid (All.cons hX (All.cons hY (HL1.out.below hB)))
  have HB2 := Lib.hid (Below.steps HB1.out hB)
  clear hX hY hB HL1 HB1
  go_wp2_with fail
  refine (exact_any _ _ _ _ _ _ _ _ _ HL2.out.tail.tail.tail.head HL2.out.tail.tail.head H0.out (by omega) HR.out).mono ?_
  rintro e w3 ⟨p0, pn, pc, rfl, hX, hB⟩
  have HL3 := Lib.hid (All.cons hX (HL2.out.below hB))
  have HB3 := Lib.hid (Below.steps HB2.out hB)
  clear hX hB HL2 HB2
  go_wp2_with fail
  refine (dzero_any false _ _ _ _ _ HL3.out.tail.tail.tail.tail.tail.tail.head (by omega) (by simpa using H0.out)).mono ?_
  rintro e w4 ⟨rfl, hB⟩
  have HL4 := Lib.hid (HL3.out.below hB)
  have HB4 := Lib.hid (Below.steps HB3.out hB)
  clear hB HL3 HB3
  go_wp2_with fail
  refine (refdiv_any _ _ _ _ _ _ _ _ _ HL4.out.tail.tail.tail.tail.tail.head HL4.out.tail.tail.tail.tail.tail.tail.head (by omega) (by omega) H0.out).mono ?_
  rintro e w5 ⟨s0, sn, sc, t0, tn, tc, rfl, hX, hY, hB⟩
  obtain rfl : tn = 0 := sl_nil hY HR.out
  have HL5 := Lib.hid (All.cons hX (All.cons hY (HL4.out.below hB)))
  have HB5 := Lib.hid (Below.steps HB4.out hB)
  clear hX hY hB HL4 HB4
  go_wp2_with fail
  refine (same_b _ _ _ _ _ _ _ _ _ HL5.out.tail.tail.tail.head HL5.out.head rfl).mono ?_
  rintro e w6 ⟨rfl, hB⟩
  have HL6 := Lib.hid (HL5.out.below hB)
  have HB6 := Lib.hid (Below.steps HB5.out hB)
  clear hB HL5 HB5
  go_wp2_with fail
  refine (same_b _ _ _ _ _ _ _ _ _ HL6.out.tail.tail.tail.tail.head HL6.out.tail.head rfl).mono ?_
  rintro e w7 ⟨rfl, hB⟩
  have HL7 := Lib.hid (HL6.out.below hB)
  have HB7 := Lib.hid (Below.steps HB6.out hB)
  clear hB HL6 HB6
  go_wp2_with fail
  refine (same_b _ _ _ _ _ _ _ _ _ HL7.out.tail.tail.head HL7.out.head rfl).mono ?_
  rintro e w8 ⟨rfl, hB⟩
  have HL8 := Lib.hid (HL7.out.below hB)
  have HB8 := Lib.hid (Below.steps HB7.out hB)
  clear hB HL7 HB7
  have HLB := Lib.hid (dlimb_any _ _ _ _ d _ HL8.out.tail.tail.tail.tail.tail.tail.head (by omega) hd)
  go_wp2_with fail
  refine HLB.out.mono ?_
  rintro e w9 ⟨l0, ln, lc, rfl, hX, hB⟩
  obtain ⟨rl, hrl⟩ : ∃ r, r = val xs % d := ⟨_, rfl⟩
  rw [← hrl]
  have hrb : rl < d := by rw [hrl]; exact Nat.mod_lt _ (by omega)
  have HRL := Lib.hid hrl
  clear hrl HLB
  have HL9 := Lib.hid (All.cons hX (HL8.out.below hB))
  have HB9 := Lib.hid (Below.steps HB8.out hB)
  clear hX hB HL8 HB8
  go_wp2_with fail
  refine (refdiv_any _ _ _ _ _ _ _ [d] _ (HL9.out.tail.tail.tail.tail.tail.tail.tail.tail.head.alloc _) (lit_sl _ _ 1 _ rfl rfl _ rfl (wf1 hd) (by simp)) (by omega) (by omega) (by simp [val]; omega)).mono ?_
  rintro e w10 ⟨s20, s2n, s2c, t20, t2n, t2c, rfl, hX, hY, hB⟩
  rw [show val [d] = d from by simp [val]] at hX
  rw [show val [d] = d from by simp [val], ← HRL.out] at hY
  have HL10 := Lib.hid (All.cons hX (All.cons hY (HL9.out.below (step_alloc hB))))
  have HB10 := Lib.hid (Below.steps HB9.out (step_alloc hB))
  clear hX hY hB HL9 HB9
  go_wp2_with fail
  refine (same_b _ _ _ _ _ _ _ _ _ HL10.out.tail.tail.head HL10.out.head rfl).mono ?_
  rintro e w11 ⟨rfl, hB⟩
  have HL11 := Lib.hid (HL10.out.below hB)
  have HB11 := Lib.hid (Below.steps HB10.out hB)
  clear hB HL10 HB10
  go_wp2_with fail
  refine (small_any rl _ (by omega)).mono ?_
  rintro e w12 ⟨se0, sen, sec, rfl, hX, hB⟩
  have HL12 := Lib.hid (All.cons hX.sl (HL11.out.below hB))
  have HB12 := Lib.hid (Below.steps HB11.out hB)
  clear hX hB HL11 HB11
  go_wp2_with fail
  refine (same_b _ _ _ _ _ _ _ _ _ HL12.out.head HL12.out.tail.tail.head rfl).mono ?_
  rintro e w13 ⟨rfl, hB⟩
  have HL13 := Lib.hid (HL12.out.below hB)
  have HB13 := Lib.hid (Below.steps HB12.out hB)
  clear hB HL12 HB12
  go_wp2_with fail
  refine (same_b _ _ _ _ _ _ _ _ _ HL13.out.tail.tail.tail.tail.tail.tail.tail.tail.tail.tail.head HL13.out.tail.tail.tail.tail.tail.tail.tail.tail.tail.tail.tail.head rfl).mono ?_
  rintro e w14 ⟨rfl, hB⟩
  have HL14 := Lib.hid (HL13.out.below hB)
  have HB14 := Lib.hid (Below.steps HB13.out hB)
  clear hB HL13 HB13
  go_wp2_with fail
  refine (same_b _ _ _ _ _ _ _ _ _ HL14.out.tail.tail.tail.tail.tail.tail.tail.tail.tail.head HL14.out.tail.tail.tail.tail.tail.tail.tail.tail.tail.tail.tail.tail.head rfl).mono ?_
  rintro e w15 ⟨rfl, hB⟩
  have HL15 := Lib.hid (HL14.out.below hB)
  have HB15 := Lib.hid (Below.steps HB14.out hB)
  clear hB HL14 HB14
  go_wp2_with fail
  refine (dknown_any _).mono ?_
  rintro e w' ⟨rfl, hB⟩
  go_wp2_with fail
  go_ret
  exact ⟨rfl, Below.steps HB15.out hB⟩

set_option maxHeartbeats 4000000 in
set_option maxRecDepth 100000 in
theorem divideBy_rz (a0 b0 : Option Addr) (la ca lb cb : Nat) (xs ys : List Nat)  (w : World) (ha : Sl w a0 la ca xs) (hb : Sl w b0 lb cb ys) (h1 : la ≤ 40) (h2 : lb ≤ 40) (h0 : val ys ≠ 0) (hr : val xs % val ys ≠ 0) :
    Calls Try.prog 3 #[.slice a0 la ca, .slice b0 lb cb, .int .u32 0] w (True' w) := by
  obtain ⟨i0, hi, hz0, hz1, hz2⟩ := info_parts Try.info_u32
  have d1 : decide (40 < la) = false := by simp; omega
  have d2 : decide (40 < lb) = false := by simp; omega
  have H0 := Lib.hid h0
  clear h0
  have HR := Lib.hid hr
  clear hr
  have HL0 := Lib.hid (All.cons ha (All.cons hb (All.nil _)))
  have HB0 := Lib.hid (Below.refl w.heap.size w)
  clear ha hb
  go_enter Try.func3, Try.ntmps3
  go_wp2_with (first | (at_builtin; refine wpList_dup w w rfl (.tmp 28) (.tmp 29) 22 rfl w.heap.size i0 (.int .u32 0) Try.underlying22 hi hz0 hz1 hz2 rfl rfl _ _ _ _ rfl (HL0.out.head) (Below.refl _ _) (Nat.le_refl _) ?_; intro x0 xc w1 hX1 hB1 hb1) | (at_builtin; refine wpList_dup w1 w rfl (.tmp 31) (.tmp 32) 22 rfl w.heap.size i0 (.int .u32 0) Try.underlying22 hi hz0 hz1 hz2 rfl rfl _ _ _ _ rfl (HL0.out.tail.head.below hb1) hB1 (by exact hB1.size) ?_; intro y0 yc w2 hX2 hB2 hb2))
  have HL1 := Lib.hid (All.cons hX2.sl (All.cons (hX1.below hb2).sl ((HL0.out.below hb1).below hb2)))
  have HB1 := Lib.hid hB2
  clear hX1 hX2 hB1 hB2 hb1 hb2 HL0 HB0
  obtain ⟨w1, rfl⟩ : ∃ w1 : World, w1 = w2 := ⟨_, rfl⟩
  refine (ddiv_any _ _ _ _ _ _ _ _ _ HL1.out.tail.head HL1.out.head H0.out (by omega)).mono ?_
  rintro e w2 ⟨q0, qn, qc, rr0, rrn, rrc, rfl, hX, hY, hB⟩
  have HL2 := Lib.hid (All.cons hX (All.cons hY (HL1.out.below hB)))
  have HB2 := Lib.hid (Below.steps HB1.out hB)
  clear hX hY hB HL1 HB1
  go_wp2_with fail
  refine (exact_rest _ _ _ _ _ _ _ _ _ HL2.out.tail.tail.tail.head HL2.out.tail.tail.head H0.out (by omega) HR.out).mono ?_
  rintro e w3 ⟨rfl, hB⟩
  have HL3 := Lib.hid (HL2.out.below hB)
  have HB3 := Lib.hid (Below.steps HB2.out hB)
  clear hB HL2 HB2
  go_wp2_with fail
  refine (dzero_any false _ _ _ _ _ HL3.out.tail.tail.tail.tail.tail.head (by omega) (by simpa using H0.out)).mono ?_
  rintro e w4 ⟨rfl, hB⟩
  have HL4 := Lib.hid (HL3.out.below hB)
  have HB4 := Lib.hid (Below.steps HB3.out hB)
  clear hB HL3 HB3
  go_wp2_with fail
  refine (refdiv_any _ _ _ _ _ _ _ _ _ HL4.out.tail.tail.tail.tail.head HL4.out.tail.tail.tail.tail.tail.head (by omega) (by omega) H0.out).mono ?_
  rintro e w5 ⟨s0, sn, sc, t0, tn, tc, rfl, hX, hY, hB⟩
  have htn := sl_pos hY HR.out
  have htb : (((tn : Nat) : Int) == 0) = false := by simp; omega
  have HL5 := Lib.hid (All.cons hX (All.cons hY (HL4.out.below hB)))
  have HB5 := Lib.hid (Below.steps HB4.out hB)
  clear hX hY hB HL4 HB4
  go_wp2_with fail
  refine (same_b _ _ _ _ _ _ _ _ _ HL5.out.tail.tail.head HL5.out.head rfl).mono ?_
  rintro e w6 ⟨rfl, hB⟩
  have HL6 := Lib.hid (HL5.out.below hB)
  have HB6 := Lib.hid (Below.steps HB5.out hB)
  clear hB HL5 HB5
  go_wp2_with fail
  refine (same_b _ _ _ _ _ _ _ _ _ HL6.out.tail.tail.tail.head HL6.out.tail.head rfl).mono ?_
  rintro e w7 ⟨rfl, hB⟩
  have HL7 := Lib.hid (HL6.out.below hB)
  have HB7 := Lib.hid (Below.steps HB6.out hB)
  clear hB HL6 HB6
  go_wp2_with fail
  refine (dlimb_zero _ _ _ _).mono ?_
  rintro e w8 ⟨rfl, hB⟩
  have HL8 := Lib.hid (HL7.out.below hB)
  have HB8 := Lib.hid (Below.steps HB7.out hB)
  clear hB HL7 HB7
  go_wp2_with fail
  refine (same_b _ _ _ _ _ _ _ _ _ HL8.out.tail.tail.tail.tail.tail.head HL8.out.tail.tail.tail.tail.tail.tail.head rfl).mono ?_
  rintro e w9 ⟨rfl, hB⟩
  have HL9 := Lib.hid (HL8.out.below hB)
  have HB9 := Lib.hid (Below.steps HB8.out hB)
  clear hB HL8 HB8
  go_wp2_with fail
  refine (same_b _ _ _ _ _ _ _ _ _ HL9.out.tail.tail.tail.tail.head HL9.out.tail.tail.tail.tail.tail.tail.tail.head rfl).mono ?_
  rintro e w10 ⟨rfl, hB⟩
  have HL10 := Lib.hid (HL9.out.below hB)
  have HB10 := Lib.hid (Below.steps HB9.out hB)
  clear hB HL9 HB9
  go_wp2_with fail
  refine (dknown_any _).mono ?_
  rintro e w' ⟨rfl, hB⟩
  go_wp2_with fail
  go_ret
  exact ⟨rfl, Below.steps HB10.out hB⟩

set_option maxHeartbeats 4000000 in
set_option maxRecDepth 100000 in
theorem divideBy_rp (a0 b0 : Option Addr) (la ca lb cb : Nat) (xs ys : List Nat) (d : Nat) (w : World) (ha : Sl w a0 la ca xs) (hb : Sl w b0 lb cb ys) (hd : d < 4294967296) (h1 : la ≤ 40) (h2 : lb ≤ 40) (h0 : val ys ≠ 0) (hr : val xs % val ys ≠ 0) (hd0 : 0 < d) :
    Calls Try.prog 3 #[.slice a0 la ca, .slice b0 lb cb, .int .u32 (d : Int)] w (True' w) := by
  obtain ⟨i0, hi, hz0, hz1, hz2⟩ := info_parts Try.info_u32
  have d1 : decide (40 < la) = false := by simp; omega
  have d2 : decide (40 < lb) = false := by simp; omega
  have H0 := Lib.hid h0
  clear h0
  have HR := Lib.hid hr
  clear hr
  have HL0 := Lib.hid (All.cons ha (All.cons hb (All.nil _)))
  have HB0 := Lib.hid (Below.refl w.heap.size w)
  clear ha hb
  go_enter Try.func3, Try.ntmps3
  go_wp2_with (first | (at_builtin; refine wpList_dup w w rfl (.tmp 28) (.tmp 29) 22 rfl w.heap.size i0 (.int .u32 0) Try.underlying22 hi hz0 hz1 hz2 rfl rfl _ _ _ _ rfl (HL0.out.head) (Below.refl _ _) (Nat.le_refl _) ?_; intro x0 xc w1 hX1 hB1 hb1) | (at_builtin; refine wpList_dup w1 w rfl (.tmp 31) (.tmp 32) 22 rfl w.heap.size i0 (.int .u32 0) Try.underlying22 hi hz0 hz1 hz2 rfl rfl _ _ _ _ rfl (HL0.out.tail.head.below hb1) hB1 (by exact hB1.size) ?_; intro y0 yc w2 hX2 hB2 hb2))
  have HL1 := Lib.hid (All.cons hX2.sl (All.cons (hX1.below hb2).sl ((HL0.out.below hb1).below hb2)))
  have HB1 := Lib.hid hB2
  clear hX1 hX2 hB1 hB2 hb1 hb2 HL0 HB0
  obtain ⟨w1, rfl⟩ : ∃ w1 : World, w1 = w2 := ⟨_, rfl⟩
  refine (ddiv_any _ _ _ _ _ _ _ _ _ HL1.out.tail.head HL1.out.head H0.out (by omega)).mono ?_
  rintro e w2 ⟨q0, qn, qc, rr0, rrn, rrc, rfl, hX, hY, hB⟩
  have HL2 := Lib.hid (All.cons hX (All.cons hY (HL1.out.below hB)))
  have HB2 := Lib.hid (Below.steps HB1.out hB)
  clear hX hY hB HL1 HB1
  go_wp2_with fail
  refine (exact_rest _ _ _ _ _ _ _ _ _ HL2.out.tail.tail.tail.head HL2.out.tail.tail.head H0.out (by omega) HR.out).mono ?_
  rintro e w3 ⟨rfl, hB⟩
  have HL3 := Lib.hid (HL2.out.below hB)
  have HB3 := Lib.hid (Below.steps HB2.out hB)
  clear hB HL2 HB2
  go_wp2_with fail
  refine (dzero_any false _ _ _ _ _ HL3.out.tail.tail.tail.tail.tail.head (by omega) (by simpa using H0.out)).mono ?_
  rintro e w4 ⟨rfl, hB⟩
  have HL4 := Lib.hid (HL3.out.below hB)
  have HB4 := Lib.hid (Below.steps HB3.out hB)
  clear hB HL3 HB3
  go_wp2_with fail
  refine (refdiv_any _ _ _ _ _ _ _ _ _ HL4.out.tail.tail.tail.tail.head HL4.out.tail.tail.tail.tail.tail.head (by omega) (by omega) H0.out).mono ?_
  rintro e w5 ⟨s0, sn, sc, t0, tn, tc, rfl, hX, hY, hB⟩
  have htn := sl_pos hY HR.out
  have htb : (((tn : Nat) : Int) == 0) = false := by simp; omega
  have HL5 := Lib.hid (All.cons hX (All.cons hY (HL4.out.below hB)))
  have HB5 := Lib.hid (Below.steps HB4.out hB)
  clear hX hY hB HL4 HB4
  go_wp2_with fail
  refine (same_b _ _ _ _ _ _ _ _ _ HL5.out.tail.tail.head HL5.out.head rfl).mono ?_
  rintro e w6 ⟨rfl, hB⟩
  have HL6 := Lib.hid (HL5.out.below hB)
  have HB6 := Lib.hid (Below.steps HB5.out hB)
  clear hB HL5 HB5
  go_wp2_with fail
  refine (same_b _ _ _ _ _ _ _ _ _ HL6.out.tail.tail.tail.head HL6.out.tail.head rfl).mono ?_
  rintro e w7 ⟨rfl, hB⟩
  have HL7 := Lib.hid (HL6.out.below hB)
  have HB7 := Lib.hid (Below.steps HB6.out hB)
  clear hB HL6 HB6
  have HLB := Lib.hid (dlimb_any _ _ _ _ d _ HL7.out.tail.tail.tail.tail.tail.head (by omega) hd)
  go_wp2_with fail
  refine HLB.out.mono ?_
  rintro e w8 ⟨l0, ln, lc, rfl, hX, hB⟩
  obtain ⟨rl, hrl⟩ : ∃ r, r = val xs % d := ⟨_, rfl⟩
  rw [← hrl]
  have hrb : rl < d := by rw [hrl]; exact Nat.mod_lt _ (by omega)
  have HRL := Lib.hid hrl
  clear hrl HLB
  have HL8 := Lib.hid (All.cons hX (HL7.out.below hB))
  have HB8 := Lib.hid (Below.steps HB7.out hB)
  clear hX hB HL7 HB7
  go_wp2_with fail
  refine (refdiv_any _ _ _ _ _ _ _ [d] _ (HL8.out.tail.tail.tail.tail.tail.tail.tail.head.alloc _) (lit_sl _ _ 1 _ rfl rfl _ rfl (wf1 hd) (by simp)) (by omega) (by omega) (by simp [val]; omega)).mono ?_
  rintro e w9 ⟨s20, s2n, s2c, t20, t2n, t2c, rfl, hX, hY, hB⟩
  rw [show val [d] = d from by simp [val]] at hX
  rw [show val [d] = d from by simp [val], ← HRL.out] at hY
  have HL9 := Lib.hid (All.cons hX (All.cons hY (HL8.out.below (step_alloc hB))))
  have HB9 := Lib.hid (Below.steps HB8.out (step_alloc hB))
  clear hX hY hB HL8 HB8
  go_wp2_with fail
  refine (same_b _ _ _ _ _ _ _ _ _ HL9.out.tail.tail.head HL9.out.head rfl).mono ?_
  rintro e w10 ⟨rfl, hB⟩
  have HL10 := Lib.hid (HL9.out.below hB)
  have HB10 := Lib.hid (Below.steps HB9.out hB)
  clear hB HL9 HB9
  go_wp2_with fail
  refine (small_any rl _ (by omega)).mono ?_
  rintro e w11 ⟨se0, sen, sec, rfl, hX, hB⟩
  have HL11 := Lib.hid (All.cons hX.sl (HL10.out.below hB))
  have HB11 := Lib.hid (Below.steps HB10.out hB)
  clear hX hB HL10 HB10
  go_wp2_with fail
  refine (same_b _ _ _ _ _ _ _ _ _ HL11.out.head HL11.out.tail.tail.head rfl).mono ?_
  rintro e w12 ⟨rfl, hB⟩
  have HL12 := Lib.hid (HL11.out.below hB)
  have HB12 := Lib.hid (Below.steps HB11.out hB)
  clear hB HL11 HB11
  go_wp2_with fail
  refine (same_b _ _ _ _ _ _ _ _ _ HL12.out.tail.tail.tail.tail.tail.tail.tail.tail.tail.head HL12.out.tail.tail.tail.tail.tail.tail.tail.tail.tail.tail.head rfl).mono ?_
  rintro e w13 ⟨rfl, hB⟩
  have HL13 := Lib.hid (HL12.out.below hB)
  have HB13 := Lib.hid (Below.steps HB12.out hB)
  clear hB HL12 HB12
  go_wp2_with fail
  refine (same_b _ _ _ _ _ _ _ _ _ HL13.out.tail.tail.tail.tail.tail.tail.tail.tail.head HL13.out.tail.tail.tail.tail.tail.tail.tail.tail.tail.tail.tail.head rfl).mono ?_
  rintro e w14 ⟨rfl, hB⟩
  have HL14 := Lib.hid (HL13.out.below hB)
  have HB14 := Lib.hid (Below.steps HB13.out hB)
  clear hB HL13 HB13
  go_wp2_with fail
  refine (dknown_any _).mono ?_
  rintro e w' ⟨rfl, hB⟩
  go_wp2_with fail
  go_ret
  exact ⟨rfl, Below.steps HB14.out hB⟩

theorem divideBy_any (a0 b0 : Option Addr) (la ca lb cb : Nat) (xs ys : List Nat) (d : Nat) (w : World) (ha : Sl w a0 la ca xs) (hb : Sl w b0 lb cb ys) (hd : d < 4294967296) :
    Calls Try.prog 3 #[.slice a0 la ca, .slice b0 lb cb, .int .u32 (d : Int)] w (True' w) := by
  by_cases h : 40 < la ∨ 40 < lb
  · exact divideBy_long _ _ _ _ _ _ _ _ _ _ ha hb hd h
  · rcases Nat.eq_zero_or_pos d with hd0 | hd0
    · subst hd0
      by_cases h0 : val ys = 0
      · exact divideBy_zz _ _ _ _ _ _ _ _ _ ha hb (by omega) (by omega) h0
      · by_cases hr : val xs % val ys = 0
        · exact divideBy_ez _ _ _ _ _ _ _ _ _ ha hb (by omega) (by omega) h0 hr
        · exact divideBy_rz _ _ _ _ _ _ _ _ _ ha hb (by omega) (by omega) h0 hr
    · by_cases h0 : val ys = 0
      · exact divideBy_zp _ _ _ _ _ _ _ _ _ _ ha hb hd (by omega) (by omega) h0 hd0
      · by_cases hr : val xs % val ys = 0
        · exact divideBy_ep _ _ _ _ _ _ _ _ _ _ ha hb hd (by omega) (by omega) h0 hr hd0
        · exact divideBy_rp _ _ _ _ _ _ _ _ _ _ ha hb hd (by omega) (by omega) h0 hr hd0

theorem divideBy_int (a0 b0 : Option Addr) (la ca lb cb : Nat) (xs ys : List Nat) (d : Int) (w : World) (ha : Sl w a0 la ca xs) (hb : Sl w b0 lb cb ys) (hd : 0 ≤ d ∧ d < 4294967296) :
    Calls Try.prog 3 #[.slice a0 la ca, .slice b0 lb cb, .int .u32 d] w (True' w) := by
  obtain ⟨d, rfl⟩ := Int.eq_ofNat_of_zero_le hd.1
  exact divideBy_any _ _ _ _ _ _ _ _ _ _ ha hb (by omega)

end Go.Proofs.Ytgdcbpapdiohfaa

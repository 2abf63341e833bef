/-
  The walk of the law TimesProduct.
-/
import Derived.Test.YtpkbijljmapnbaaTKnown
import Derived.Test.YtpkbijljmapnbaaGLaw
import Derived.Test.YtpkbijljmapnbaaGMem
import Derived.Test.YtpkbijljmapnbaaGRef
namespace Go.Proofs.Ytpkbijljmapnbaa
open Go.RowKit

set_option maxHeartbeats 1000000 in
theorem refmul_any (a0 b0 : Option Addr) (la ca lb cb : Nat) (xs ys : List Nat) (w : World) (ha : Sl w a0 la ca xs) (hb : Sl w b0 lb cb ys) (h1 : la ≤ 100000) (h2 : lb ≤ 100000) :
    Calls Try.prog 8 #[.slice a0 la ca, .slice b0 lb cb] w (NewSl w (limbs (val xs * val ys))) := by
  have HLA := Lib.hid (dig_len 100000 ha.wf ha.len h1)
  have HLB := Lib.hid (dig_len 100000 hb.wf hb.len h2)
  have HL0 := Lib.hid (All.cons ha (All.cons hb (All.nil _)))
  have HD0 := Lib.hid (Dg.All.nil w)
  have HB0 := Lib.hid (Below.refl w.heap.size w)
  clear ha hb
  go_enter Try.func8, Try.ntmps8
  go_wp2_with fail
  refine (Dg.of_any _ _ _ _ _ HL0.out.head (by omega)).mono ?_
  rintro e w1 ⟨d0, dn, dc, rfl, hX, hB⟩
  have hn_d : dn ≤ 1000000 := by rw [← hX.len]; exact HLA.out
  have HL1 := Lib.hid (HL0.out.below hB)
  have HD1 := Lib.hid (Dg.All.cons hX.sl (HD0.out.below hB))
  have HB1 := Lib.hid (Below.steps HB0.out hB)
  clear hX hB HL0 HB0 HD0
  go_wp2_with fail
  refine (Dg.of_any _ _ _ _ _ HL1.out.tail.head (by omega)).mono ?_
  rintro e w2 ⟨f0, fn, fc, rfl, hX, hB⟩
  have hn_f : fn ≤ 1000000 := by rw [← hX.len]; exact HLB.out
  have HL2 := Lib.hid (HL1.out.below hB)
  have HD2 := Lib.hid (Dg.All.cons hX.sl (HD1.out.below hB))
  have HB2 := Lib.hid (Below.steps HB1.out hB)
  clear hX hB HL1 HB1 HD1
  go_wp2_with fail
  refine (Dg.mul_any _ _ _ _ _ _ _ _ _ HD2.out.tail.head HD2.out.head (by omega) (by omega)).mono ?_
  rintro e w3 ⟨m0, mn, mc, rfl, hX, hB⟩
  rw [Dg.val_limbs, Dg.val_limbs] at hX
  have HL3 := Lib.hid (HL2.out.below hB)
  have HD3 := Lib.hid (Dg.All.cons hX.sl (HD2.out.below hB))
  have HB3 := Lib.hid (Below.steps HB2.out hB)
  clear hX hB HL2 HB2 HD2
  go_wp2_with fail
  refine (Dg.limbs_any _ _ _ _ _ HD3.out.head).mono ?_
  rintro e w4 ⟨q0, qn, qc, rfl, hX, hB⟩
  go_wp2_with fail
  go_ret
  exact ⟨_, _, _, rfl, hX.mono HB3.out.size, Below.steps HB3.out hB⟩

set_option maxHeartbeats 1000000 in
theorem timesProduct_long (a0 b0 : Option Addr) (la ca lb cb : Nat) (xs ys : List Nat) (n : Nat) (w : World) (ha : Sl w a0 la ca xs) (hb : Sl w b0 lb cb ys) (h : 60 < la ∨ 60 < lb) :
    Calls Try.prog 3 #[.slice a0 la ca, .slice b0 lb cb, .int .u32 (n : Int)] w (True' w) := by
  have b_ha := ha.big
  have b_hb := hb.big
  by_cases h0 : 60 < la
  · go_enter Try.func3, Try.ntmps3
    go_wp2_with fail
    refine (tknown_any _).mono ?_
    rintro e w' ⟨rfl, hB⟩
    go_wp2_with fail
    go_ret
    exact ⟨rfl, hB⟩
  · skip
    have h1 : 60 < lb := by omega
    have d0 : decide (60 < la) = false := by simp; omega
    go_enter Try.func3, Try.ntmps3
    go_wp2_with fail
    refine (tknown_any _).mono ?_
    rintro e w' ⟨rfl, hB⟩
    go_wp2_with fail
    go_ret
    exact ⟨rfl, hB⟩

/-- limbs of the law's own, that are changed one by one -/
def Bumped (wc : World) (p0 : Option Addr) (pn pc : Nat) (wr : World) : Prop := ∃ zs, Own wc.heap.size wr p0 pn pc zs ∧ Below wc.heap.size wc wr

set_option maxHeartbeats 4000000 in
set_option maxRecDepth 100000 in
theorem timesProduct_short (a0 b0 : Option Addr) (la ca lb cb : Nat) (xs ys : List Nat) (n : Nat) (w : World) (ha : Sl w a0 la ca xs) (hb : Sl w b0 lb cb ys) (hn : n < 4294967296) (h1 : la ≤ 60) (h2 : lb ≤ 60) :
    Calls Try.prog 3 #[.slice a0 la ca, .slice b0 lb cb, .int .u32 (n : Int)] w (True' w) := by
  obtain ⟨i0, hi, hz0, hz1, hz2⟩ := info_parts Try.info_u32
  have d1 : decide (60 < la) = false := by simp; omega
  have d2 : decide (60 < lb) = false := by simp; omega
  have HL0 := Lib.hid (All.cons ha (All.cons hb (All.nil _)))
  have HB0 := Lib.hid (Below.refl w.heap.size w)
  clear ha hb
  go_enter Try.func3, Try.ntmps3
  go_wp2_with (first | (at_builtin; refine wpList_dup w w rfl (.tmp 21) (.tmp 22) 22 rfl w.heap.size i0 (.int .u32 0) Try.underlying22 hi hz0 hz1 hz2 rfl rfl _ _ _ _ rfl (HL0.out.head) (Below.refl _ _) (Nat.le_refl _) ?_; intro x0 xc w1 hX1 hB1 hb1) | (at_builtin; refine wpList_dup w1 w rfl (.tmp 24) (.tmp 25) 22 rfl w.heap.size i0 (.int .u32 0) Try.underlying22 hi hz0 hz1 hz2 rfl rfl _ _ _ _ rfl (HL0.out.tail.head.below hb1) hB1 (by exact hB1.size) ?_; intro y0 yc w2 hX2 hB2 hb2))
  have HL1 := Lib.hid (All.cons hX2.sl (All.cons (hX1.below hb2).sl ((HL0.out.below hb1).below hb2)))
  have HB1 := Lib.hid hB2
  clear hX1 hX2 hB1 hB2 hb1 hb2 HL0 HB0
  obtain ⟨w1, rfl⟩ : ∃ w1 : World, w1 = w2 := ⟨_, rfl⟩
  refine (refmul_any _ _ _ _ _ _ _ _ _ HL1.out.tail.tail.head HL1.out.tail.tail.tail.head (by omega) (by omega)).mono ?_
  rintro e w2 ⟨wt0, wtn, wtc, rfl, hX, hB⟩
  have HL2 := Lib.hid (All.cons hX.sl (HL1.out.below hB))
  have HB2 := Lib.hid (Below.steps HB1.out hB)
  clear hX hB HL1 HB1
  go_wp2_with fail
  refine (rows_any _ _ _ _ _ _ _ _ _ HL2.out.tail.tail.head HL2.out.tail.head (by omega) (by omega)).mono ?_
  rintro e w3 ⟨p0, pn, pc, rfl, hX, hB⟩
  have HL3 := Lib.hid (All.cons hX.sl (HL2.out.below hB))
  have HB3 := Lib.hid (Below.steps HB2.out hB)
  clear hX hB HL2 HB2
  go_wp2_with fail
  refine (same_b _ _ _ _ _ _ _ _ _ HL3.out.head HL3.out.tail.head rfl).mono ?_
  rintro e w4 ⟨rfl, hB⟩
  have HL4 := Lib.hid (HL3.out.below hB)
  have HB4 := Lib.hid (Below.steps HB3.out hB)
  clear hB HL3 HB3
  go_wp2_with fail
  refine (split_any _ _ _ _ _ _ _ _ _ HL4.out.tail.tail.tail.head HL4.out.tail.tail.head (by omega) (by omega)).mono ?_
  rintro e w5 ⟨q0, qn, qc, rfl, hX, hB⟩
  have HL5 := Lib.hid (All.cons hX.sl (HL4.out.below hB))
  have HB5 := Lib.hid (Below.steps HB4.out hB)
  clear hX hB HL4 HB4
  go_wp2_with fail
  refine (same_b _ _ _ _ _ _ _ _ _ HL5.out.head HL5.out.tail.tail.head rfl).mono ?_
  rintro e w6 ⟨rfl, hB⟩
  have HL6 := Lib.hid (HL5.out.below hB)
  have HB6 := Lib.hid (Below.steps HB5.out hB)
  clear hB HL5 HB5
  go_wp2_with fail
  refine (mul_any _ _ _ _ _ _ _ _ _ HL6.out.tail.tail.tail.tail.head HL6.out.tail.tail.tail.head (by omega) (by omega)).mono ?_
  rintro e w7 ⟨m0, mn, mc, rfl, hX, hB⟩
  have HL7 := Lib.hid (All.cons hX.sl (HL6.out.below hB))
  have HB7 := Lib.hid (Below.steps HB6.out hB)
  clear hX hB HL6 HB6
  go_wp2_with fail
  refine (same_b _ _ _ _ _ _ _ _ _ HL7.out.head HL7.out.tail.tail.tail.head rfl).mono ?_
  rintro e w8 ⟨rfl, hB⟩
  have HL8 := Lib.hid (HL7.out.below hB)
  have HB8 := Lib.hid (Below.steps HB7.out hB)
  clear hB HL7 HB7
  go_wp2_with fail
  refine (limb_any _ _ _ _ n _ HL8.out.tail.tail.tail.tail.tail.head (by omega) hn).mono ?_
  rintro e w9 ⟨l0, ln, lc, rfl, hX, hB⟩
  have HL9 := Lib.hid (All.cons hX.sl (HL8.out.below hB))
  have HB9 := Lib.hid (Below.steps HB8.out hB)
  clear hX hB HL8 HB8
  go_wp2_with fail
  refine (refmul_any _ _ _ _ _ _ _ [n] _ (HL9.out.tail.tail.tail.tail.tail.tail.tail.head.alloc _) (lit_sl _ _ 1 _ rfl rfl _ rfl (wf1 hn) (by simp)) (by omega) (by omega)).mono ?_
  rintro e w10 ⟨k0, kn, kc, rfl, hX, hB⟩
  rw [show val [n] = n from by simp [val]] at hX
  have HL10 := Lib.hid (All.cons hX.sl (HL9.out.below (step_alloc hB)))
  have HB10 := Lib.hid (Below.steps HB9.out (step_alloc hB))
  clear hX hB HL9 HB9
  go_wp2_with fail
  refine (same_b _ _ _ _ _ _ _ _ _ HL10.out.tail.head HL10.out.head rfl).mono ?_
  rintro e w11 ⟨rfl, hB⟩
  have HL11 := Lib.hid (HL10.out.below hB)
  have HB11 := Lib.hid (Below.steps HB10.out hB)
  clear hB HL10 HB10
  go_wp2_with fail
  refine (mul_any _ _ _ _ _ _ _ _ _ HL11.out.tail.tail.tail.tail.tail.tail.tail.head HL11.out.tail.tail.tail.tail.tail.tail.head (by omega) (by omega)).mono ?_
  rintro e wp ⟨p0, pn, pc, rfl, hX, hB⟩
  have HT : Hid (Bumped w11 p0 pn pc wp) := ⟨_, hX, hB⟩
  have hbig := hX.big
  clear hX hB
  go_wp2_with fail
  go_loopw [11, 68] (fun _ i wr => ∃ k : Nat, k ≤ pn ∧ i = .int .i64 ((k : Nat) : Int) ∧ Bumped w11 p0 pn pc wr) (fun _ i _ => pn - (intOf i).toNat)
  case atStart => exact ⟨0, Nat.zero_le _, rfl, HT.out⟩
  case round =>
    clear HT
    obtain ⟨k, hk, rfl, zs, hO, hBl⟩ := hrel
    by_cases hkn : k < pn
    · rcases hO.parts with ⟨rfl, h0, _⟩ | ⟨g, rfl, hg, _⟩
      · omega
      have hzc := hO.cell k hkn
      have hzf := hO.frozen k
      have hzl := hO.getD_lt k
      obtain ⟨z, hz⟩ : ∃ z, z = zs.getD k 0 := ⟨_, rfl⟩
      rw [← hz] at hzc hzl
      have HT2 : Hid (Bumped w11 (some ⟨g, 0, none⟩) pn pc (wr.setCell ⟨g, k, none⟩ (.int .u32 ((((z + 1) % 4294967296 : Nat)) : Int)))) := ⟨_, hO.set k ((z + 1) % 4294967296) (Nat.mod_lt _ (by omega)), hBl.setCell hg _⟩
      clear hz hO hBl
      go_wp2_with fail
      go_roundw
      case rel =>
        refine ⟨k + 1, by omega, by go_num, ?_⟩
        first
          | exact HT2.out
          | (have e : (((z : Nat) : Int) + 1) % 4294967296 = (((z + 1) % 4294967296 : Nat) : Int) := by omega
             rw [e]
             exact HT2.out)
      case measure => simp [intOf]; omega
    · have HL12 := Lib.hid (HL11.out.below hBl)
      have HB12 := Lib.hid (Below.steps HB11.out hBl)
      clear hO hBl HL11 HB11
      go_wp2_with fail
      refine (same_b _ _ _ _ _ _ _ _ _ HL12.out.tail.tail.tail.tail.tail.tail.tail.head HL12.out.tail.tail.tail.tail.tail.tail.tail.tail.head rfl).mono ?_
      rintro e w13 ⟨rfl, hB⟩
      have HL13 := Lib.hid (HL12.out.below hB)
      have HB13 := Lib.hid (Below.steps HB12.out hB)
      clear hB HL12 HB12
      go_wp2_with fail
      refine (same_b _ _ _ _ _ _ _ _ _ HL13.out.tail.tail.tail.tail.tail.tail.head HL13.out.tail.tail.tail.tail.tail.tail.tail.tail.tail.head rfl).mono ?_
      rintro e w14 ⟨rfl, hB⟩
      have HL14 := Lib.hid (HL13.out.below hB)
      have HB14 := Lib.hid (Below.steps HB13.out hB)
      clear hB HL13 HB13
      go_wp2_with fail
      refine (tknown_any _).mono ?_
      rintro e w' ⟨rfl, hB⟩
      go_wp2_with fail
      go_ret
      exact ⟨rfl, Below.steps HB14.out hB⟩

theorem timesProduct_any (a0 b0 : Option Addr) (la ca lb cb : Nat) (xs ys : List Nat) (n : Nat) (w : World) (ha : Sl w a0 la ca xs) (hb : Sl w b0 lb cb ys) (hn : n < 4294967296) :
    Calls Try.prog 3 #[.slice a0 la ca, .slice b0 lb cb, .int .u32 (n : Int)] w (True' w) := by
  by_cases h : 60 < la ∨ 60 < lb
  · exact timesProduct_long _ _ _ _ _ _ _ _ _ _ ha hb h
  · exact timesProduct_short _ _ _ _ _ _ _ _ _ _ ha hb hn (by omega) (by omega)

theorem timesProduct_int (a0 b0 : Option Addr) (la ca lb cb : Nat) (xs ys : List Nat) (n : Int) (w : World) (ha : Sl w a0 la ca xs) (hb : Sl w b0 lb cb ys) (h0 : 0 ≤ n) (hn : n < 4294967296) :
    Calls Try.prog 3 #[.slice a0 la ca, .slice b0 lb cb, .int .u32 n] w (True' w) := by
  obtain ⟨n, rfl⟩ := Int.eq_ofNat_of_zero_le h0
  exact timesProduct_any _ _ _ _ _ _ _ _ _ _ ha hb (by omega)

end Go.Proofs.Ytpkbijljmapnbaa

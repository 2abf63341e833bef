/-
  In one: DRef, DKnown.
-/
import Derived.Test.YtgdcbpapdiohfaaGRef
import Derived.Test.YtgdcbpapdiohfaaGLaw
import Derived.Test.YtgdcbpapdiohfaaGDiv
/- The contracts of porismref03.Zero and porismref03.DivMod. -/
namespace Go.Proofs.Ytgdcbpapdiohfaa
open Go.RowKit

theorem dg_limbs_nil {V : Nat} : (Dg.limbs V).length = 0 ↔ V = 0 := by
  constructor
  · intro h
    have h2 : Dg.limbs V = [] := List.eq_nil_of_length_eq_zero h
    have h3 := Dg.val_limbs V
    rw [h2] at h3
    exact h3.symm
  · intro h; rw [h]; rfl

set_option maxHeartbeats 400000 in
theorem dzero_any (r : Bool) (a0 : Option Addr) (la ca : Nat) (xs : List Nat) (w : World) (ha : Sl w a0 la ca xs) (h1 : la ≤ 100000) (hr : decide (val xs = 0) = r) :
    Calls Try.prog 11 #[.slice a0 la ca] w (RetB (.bool r) w) := by
  have HR := Lib.hid hr
  clear hr
  go_enter Try.func11, Try.ntmps11
  go_wp2_with fail
  refine (Dg.of_any _ _ _ _ _ ha (by omega)).mono ?_
  rintro e w1 ⟨d0, dn, dc, rfl, hX, hB⟩
  have hl := hX.len
  by_cases hv : val xs = 0
  · obtain rfl : dn = 0 := by rw [← hl]; exact dg_limbs_nil.2 hv
    have HT : Hid (r = true) := by rw [Hid, ← HR.out]; simpa using hv
    clear hl
    go_wp2_with fail
    go_ret
    exact ⟨by rw [HT.out]; rfl, hB⟩
  · have hd : dn ≠ 0 := by rw [← hl]; exact fun h => hv (dg_limbs_nil.1 h)
    have hb0 : (((dn : Nat) : Int) == 0) = false := by simp; omega
    have HT : Hid (r = false) := by rw [Hid, ← HR.out]; simpa using hv
    clear hl hv
    go_wp2_with fail
    go_ret
    exact ⟨by rw [HT.out]; rfl, hB⟩

/-- What the reference's division leaves. -/
def NewRefDM (w : World) (q r : Nat) (e : Ending) (w' : World) : Prop :=
  ∃ a0 la ca b0 lb cb, e = .returned (.tuple #[.slice a0 la ca, .slice b0 lb cb]) ∧ Sl w' a0 la ca (limbs q) ∧ Sl w' b0 lb cb (limbs r) ∧ Below w.heap.size w w'

set_option maxHeartbeats 1000000 in
theorem refdiv_any (a0 b0 : Option Addr) (la ca lb cb : Nat) (xs ys : List Nat) (w : World) (ha : Sl w a0 la ca xs) (hb : Sl w b0 lb cb ys) (h1 : la ≤ 100000) (h2 : lb ≤ 100000) (h0 : val ys ≠ 0) :
    Calls Try.prog 12 #[.slice a0 la ca, .slice b0 lb cb] w (NewRefDM w (val xs / val ys) (val xs % val ys)) := by
  have HLA := Lib.hid (dig_len 100000 ha.wf ha.len h1)
  have HLB := Lib.hid (dig_len 100000 hb.wf hb.len h2)
  have HL0 := Lib.hid (All.cons ha (All.cons hb (All.nil _)))
  have HB0 := Lib.hid (Below.refl w.heap.size w)
  have H0 := Lib.hid h0
  clear ha hb h0
  go_enter Try.func12, Try.ntmps12
  go_wp2_with fail
  refine (Dg.of_any _ _ _ _ _ HL0.out.head (by omega)).mono ?_
  rintro e w1 ⟨d0, dn, dc, rfl, hX, hB⟩
  have hdn : dn ≤ 1000000 := by rw [← hX.len]; exact HLA.out
  have HL1 := Lib.hid (HL0.out.below hB)
  have HD1 := Lib.hid (Dg.All.cons hX.sl (Dg.All.nil _))
  have HB1 := Lib.hid (Below.steps HB0.out hB)
  clear hX hB HL0 HB0
  go_wp2_with fail
  refine (Dg.of_any _ _ _ _ _ HL1.out.tail.head (by omega)).mono ?_
  rintro e w2 ⟨f0, fn, fc, rfl, hX, hB⟩
  have hfn : fn ≤ 1000000 := by rw [← hX.len]; exact HLB.out
  have HD2 := Lib.hid (Dg.All.cons hX.sl (HD1.out.below hB))
  have HB2 := Lib.hid (Below.steps HB1.out hB)
  clear hX hB HL1 HB1 HD1
  go_wp2_with fail
  refine (Dg.divmod_any _ _ _ _ _ _ _ _ _ HD2.out.tail.head HD2.out.head (by have := H0.out; omega) (by omega) (by omega)).mono ?_
  rintro e w3 ⟨q0, qn, qc, r0, rn, rc, rfl, hQ, hR, hB⟩
  rw [Dg.val_limbs] at hQ hR
  have HQ3 := Lib.hid hQ
  have HR3 := Lib.hid hR
  have HB3 := Lib.hid (Below.steps HB2.out hB)
  clear hQ hR hB HB2 HD2
  go_wp2_with fail
  refine (Dg.limbs_any _ _ _ _ _ HQ3.out).mono ?_
  rintro e w4 ⟨p0, pn, pc, rfl, hX, hB⟩
  have HP4 := Lib.hid hX.sl
  have HR4 := Lib.hid (HR3.out.below hB)
  have HB4 := Lib.hid (Below.steps HB3.out hB)
  clear hX hB HB3 HQ3 HR3
  go_wp2_with fail
  refine (Dg.limbs_any _ _ _ _ _ HR4.out).mono ?_
  rintro e w5 ⟨s0, sn, sc, rfl, hX, hB⟩
  have HP5 := Lib.hid (HP4.out.below hB)
  have HB5 := Lib.hid (Below.steps HB4.out hB)
  have HS5 := Lib.hid hX.sl
  clear hX hB HB4 HP4 HR4
  go_wp2_with fail
  go_ret2
  exact ⟨_, _, _, _, _, _, rfl, HP5.out, HS5.out, HB5.out⟩

end Go.Proofs.Ytgdcbpapdiohfaa

/- The contract of porismlaw03.known: true. -/
namespace Go.Proofs.Ytgdcbpapdiohfaa
open Go.RowKit

set_option maxHeartbeats 2000000 in
theorem dknown_any (w : World) : Calls Try.prog 8 #[] w fun e w' => e = .returned (.bool true) ∧ Below w.heap.size w w' := by
  have HB0 := Lib.hid (Below.refl w.heap.size w)
  go_enter Try.func8, Try.ntmps8
  go_wp2_with fail
  refine (ddiv_any _ _ _ _ _ _ [0, 0, 1] [4294967295] _ ((lit_sl w _ 3 _ rfl rfl _ rfl (by intro y hy; simp at hy; omega) (by simp)).alloc _) (lit_sl _ _ 1 _ (by simp) rfl _ rfl (wf1 (by omega)) (by simp)) (by decide) (by omega)).mono ?_
  rintro e w1 ⟨q0, qn, qc, r0, rn, rc, rfl, hQ, hR, hB⟩
  rw [limbs_of _ [1, 1] (wf2 (by omega) (by omega)) (by decide) (by decide)] at hQ
  rw [limbs_of _ [1] (wf1 (by omega)) (by decide) (by decide)] at hR
  have HL1 := Lib.hid (All.cons hQ (All.cons hR (All.nil _)))
  have HB1 := Lib.hid (Below.steps HB0.out (step_alloc (step_alloc hB)))
  clear hQ hR hB HB0
  go_wp2_with fail
  refine (dlimb_any _ _ _ [0, 1] 10 _ (lit_sl w1 _ 2 _ rfl rfl _ rfl (wf2 (by omega) (by omega)) (by simp)) (by omega) (by omega)).mono ?_
  rintro e w2 ⟨p0, pn, pc, rfl, hP, hB⟩
  rw [limbs_of _ [429496729] (wf1 (by omega)) (by decide) (by decide)] at hP
  rw [show val [0, 1] % 10 = 6 from by decide]
  have HL2 := Lib.hid (All.cons hP (HL1.out.below (step_alloc hB)))
  have HB2 := Lib.hid (Below.steps HB1.out (step_alloc hB))
  clear hP hB HB1 HL1
  go_wp2_with fail
  refine (exact_rest _ _ _ _ _ _ [6] [4] _ ((lit_sl w2 _ 1 _ rfl rfl _ rfl (wf1 (by omega)) (by simp)).alloc _) (lit_sl _ _ 1 _ (by simp) rfl _ rfl (wf1 (by omega)) (by simp)) (by decide) (by omega) (by decide)).mono ?_
  rintro e w3 ⟨rfl, hB⟩
  have HL3 := Lib.hid (HL2.out.below (step_alloc (step_alloc hB)))
  have HB3 := Lib.hid (Below.steps HB2.out (step_alloc (step_alloc hB)))
  clear hB HB2 HL2
  go_wp2_with fail
  refine (same_b _ _ _ _ _ _ [1, 1] [1, 1] _ (HL3.out.tail.head.alloc _) (lit_sl w3 _ 2 _ rfl rfl _ rfl (wf2 (by omega) (by omega)) (by simp)) rfl).mono ?_
  rintro e w4 ⟨rfl, hB⟩
  have HL4 := Lib.hid (HL3.out.below (step_alloc hB))
  have HB4 := Lib.hid (Below.steps HB3.out (step_alloc hB))
  clear hB HB3 HL3
  go_wp2_with fail
  refine (same_b _ _ _ _ _ _ [1] [1] _ (HL4.out.tail.tail.head.alloc _) (lit_sl w4 _ 1 _ rfl rfl _ rfl (wf1 (by omega)) (by simp)) rfl).mono ?_
  rintro e w5 ⟨rfl, hB⟩
  have HL5 := Lib.hid (HL4.out.below (step_alloc hB))
  have HB5 := Lib.hid (Below.steps HB4.out (step_alloc hB))
  clear hB HB4 HL4
  go_wp2_with fail
  refine (same_b _ _ _ _ _ _ [429496729] [429496729] _ (HL5.out.head.alloc _) (lit_sl w5 _ 1 _ rfl rfl _ rfl (wf1 (by omega)) (by simp)) rfl).mono ?_
  rintro e w6 ⟨rfl, hB⟩
  have HB6 := Lib.hid (Below.steps HB5.out (step_alloc hB))
  clear hB HB5 HL5
  go_wp2_with fail
  go_ret
  exact ⟨rfl, HB6.out⟩

end Go.Proofs.Ytgdcbpapdiohfaa


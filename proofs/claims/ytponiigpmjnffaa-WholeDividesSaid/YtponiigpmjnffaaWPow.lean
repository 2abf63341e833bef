/-
  The contracts of whole.power and whole.Pow.
-/
import Derived.Test.YtponiigpmjnffaaWSign
import Derived.Test.YtponiigpmjnffaaGTimes
import Derived.Test.YtponiigpmjnffaaGNatB
import Derived.Test.YtponiigpmjnffaaWDiv
import Derived.Deep.Cut
import Derived.Deep.LoopGhost
import Derived.WalkMore
set_option maxRecDepth 8192
namespace Go.Proofs.Ytponiigpmjnffaa
open Go.RowKit

theorem val_pow_len {w : World} {ao : Option Addr} {n cap V B la : Nat} (h : Sl w ao n cap (limbs (V ^ B))) (hV : V < 4294967296 ^ la) : n ≤ la * B + 1 := by
  rw [← h.len]
  refine limbs_len ?_
  rcases Nat.eq_zero_or_pos B with h0 | h0
  · subst h0
    rw [Nat.pow_zero]
    exact Nat.one_lt_pow (by omega) (by omega)
  · refine Nat.lt_of_lt_of_le (Nat.pow_lt_pow_left hV (by omega)) ?_
    rw [← Nat.pow_mul]
    exact Nat.pow_le_pow_right (by omega) (by omega)

/-- What the loop of whole.power holds. -/
structure PowInv (V N : Nat) (w : World) (ao : Option Addr) (n cap : Nat) (po : Option Addr) (pn pc B P r : Nat) (zs : List Nat) (wr : World) : Prop where
  base : Sl wr ao n cap zs
  val : val zs = V ^ B
  prod : Own w.heap.size wr po pn pc (limbs (V ^ P))
  sum : P + B * r = N
  below : Below w.heap.size w wr

theorem PowInv.small {V N : Nat} {w : World} {ao : Option Addr} {n cap : Nat} {po : Option Addr} {pn pc B P r : Nat} {zs : List Nat} {wr : World} (h : PowInv V N w ao n cap po pn pc B P r zs wr) (hN : N ≤ 1000) (hr : 0 < r) : P + B ≤ 1000 := by
  have h1 := h.sum
  have h2 : B ≤ B * r := Nat.le_mul_of_pos_right _ hr
  omega

theorem PowInv.small2 {V N : Nat} {w : World} {ao : Option Addr} {n cap : Nat} {po : Option Addr} {pn pc B P r : Nat} {zs : List Nat} {wr : World} (h : PowInv V N w ao n cap po pn pc B P r zs wr) (hN : N ≤ 1000) (hr : 2 ≤ r) : B + B ≤ 1000 := by
  have h1 := h.sum
  have h2 : B * 2 ≤ B * r := Nat.mul_le_mul_left _ hr
  omega

theorem half_sum {P B r N : Nat} (h : P + B * r = N) (h2 : r % 2 = 0) : P + (B + B) * (r / 2) = N := by
  have e : B * r = (B + B) * (r / 2) := by
    have e1 : r = 2 * (r / 2) := by omega
    have e2 : B + B = B * 2 := by omega
    rw [e2, Nat.mul_assoc, ← e1]
  rw [← e]; exact h

theorem odd_sum {P B r N : Nat} (h : P + B * r = N) (h2 : 0 < r) : (P + B) + B * (r - 1) = N := by
  obtain ⟨j, rfl⟩ : ∃ j, r = j + 1 := ⟨r - 1, by omega⟩
  rw [Nat.mul_add] at h
  simp
  omega

set_option maxHeartbeats 4000000 in
theorem power_any (a0 : Option Addr) (la ca : Nat) (xs : List Nat) (N : Nat) (w : World) (ha : Sl w a0 la ca xs) (h1 : la ≤ 1000000) (hN : N ≤ 1000) :
    Calls Try.prog 60 #[.slice a0 la ca, .int .i64 (N : Int)] w (NewSl w (limbs (val xs ^ N))) := by
  have HVL : Hid (val xs < 4294967296 ^ la) := val_small la ha.wf ha.len (Nat.le_refl _)
  have HA0 := Lib.hid ha
  clear ha
  go_enter Try.func60, Try.ntmps60
  go_wp2
  go_step3
  go_wp2_with fail
  refine (small_any 1 _ (by omega)).mono ?_
  rintro e w1 ⟨p0, pn, pc, rfl, hP, hB⟩
  have HI0 : Hid (PowInv (val xs) N w a0 la ca p0 pn pc 1 0 N xs w1) := ⟨HA0.out.below hB, by rw [Nat.pow_one], by rw [Nat.pow_zero]; exact hP, by omega, hB⟩
  have hpn : pn ≤ 1000000001 := by rw [← hP.len]; exact Nat.le_trans (limbs_len (k := 1) (by omega)) (by omega)
  clear hP hB HA0
  go_wp2
  go_step3
  go_wp2
  go_loopg [0, 1, 5] N (fun g x nn y wr => ∃ (ao : Option Addr) (n cap : Nat) (po : Option Addr) (pn pc B P r : Nat) (zs : List Nat), x = .slice ao n cap ∧ nn = .int .i64 ((r : Nat) : Int) ∧ y = .slice po pn pc ∧ n ≤ 1000000001 ∧ pn ≤ 1000000001 ∧ r ≤ 1000 ∧ Hid (r = g) ∧ Hid (PowInv (val xs) N w ao n cap po pn pc B P r zs wr))
  case atStart => exact ⟨_, _, _, _, _, _, 1, 0, N, xs, rfl, rfl, rfl, by omega, hpn, hN, rfl, HI0⟩
  case round =>
    clear HI0 hpn
    obtain ⟨ao, n, cap, po, pn, pc, B, P, r, zs, rfl, rfl, rfl, hn, hpn, hr, HR, HI⟩ := hrel
    obtain ⟨wo, rfl⟩ : ∃ wo : World, wo = wr := ⟨_, rfl⟩
    by_cases h0 : r = 0
    · subst h0
      have HE : Hid (P = N) := by have := HI.out.sum; rw [Hid]; omega
      go_wp2_with fail
      rw [Exit.noGoto_ret]
      go_ret
      exact ⟨_, _, _, rfl, by rw [← HE.out]; exact HI.out.prod, HI.out.below⟩
    · have hz : (((r : Nat) : Int) == 0) = false := by simp; omega
      have hr0 : 0 < r := by omega
      by_cases h2 : r % 2 = 0
      · have hm : (((r : Nat) : Int) % 2 == 0) = true := by simp; omega
        have hs2 := HI.out.small2 hN (by omega)
        have H2 := Lib.hid h2
        clear h2
        go_wp2_with fail
        refine (mul_any _ _ _ _ _ _ _ _ _ HI.out.base HI.out.base (by omega) (by omega)).mono ?_
        rintro e w2 ⟨q0, qn, qc, rfl, hQ, hB⟩
        rw [HI.out.val, ← Nat.pow_add] at hQ
        have hqn : qn ≤ 1000000001 := by
          have h3 := val_pow_len hQ.sl HVL.out
          have h4 := Nat.mul_le_mul h1 hs2
          omega
        have HJ : Hid (PowInv (val xs) N w q0 qn qc po pn pc (B + B) P (r / 2) (limbs (val xs ^ (B + B))) w2) := ⟨hQ.sl, val_limbs _, HI.out.prod.below hB, half_sum HI.out.sum H2.out, Below.steps HI.out.below hB⟩
        clear hQ hB
        go_wp2_with fail
        go_roundg (r / 2)
        case measure => have := HR.out; omega
        case rel => exact ⟨_, _, _, _, _, _, _, _, r / 2, _, rfl, by go_num, rfl, hqn, hpn, by omega, rfl, HJ⟩
      · have hm : (((r : Nat) : Int) % 2 == 0) = false := by simp; omega
        have hs2 := HI.out.small hN hr0
        clear h2
        go_wp2_with fail
        refine (mul_any _ _ _ _ _ _ _ _ _ HI.out.prod.sl HI.out.base (by omega) (by omega)).mono ?_
        rintro e w2 ⟨q0, qn, qc, rfl, hQ, hB⟩
        rw [HI.out.val, val_limbs, ← Nat.pow_add] at hQ
        have hqn : qn ≤ 1000000001 := by
          have h3 := val_pow_len hQ.sl HVL.out
          have h4 := Nat.mul_le_mul h1 hs2
          omega
        have HJ : Hid (PowInv (val xs) N w ao n cap q0 qn qc B (P + B) (r - 1) zs w2) := ⟨HI.out.base.below hB, HI.out.val, hQ.mono HI.out.below.size, odd_sum HI.out.sum hr0, Below.steps HI.out.below hB⟩
        clear hQ hB
        go_wp2_with fail
        go_roundg (r - 1)
        case measure => have := HR.out; omega
        case rel => exact ⟨_, _, _, _, _, _, _, _, r - 1, _, rfl, by go_num, rfl, hn, hqn, by omega, rfl, HJ⟩

theorem zOf_pow (m : Bool) (v N : Nat) : zOf (m && decide (N % 2 = 1)) (v ^ N) = zOf m v ^ N := by
  cases m
  · simp [zOf]
  · simp only [zOf, Bool.true_and, if_true]
    induction N with
    | zero => simp
    | succ N ih =>
      rw [Int.pow_succ, ← ih, Nat.pow_succ]
      by_cases h : N % 2 = 1
      · have h2 : ¬ ((N + 1) % 2 = 1) := by omega
        simp [h, h2, Int.mul_neg, Int.neg_mul]
      · have h2 : (N + 1) % 2 = 1 := by omega
        simp [h, h2, Int.mul_neg]

set_option maxHeartbeats 4000000 in
theorem wpow_n (N : Int) {m : Bool} {ao : Option Addr} {n cap : Nat} {x : Int} {w : World} (hx : Nx w m ao n cap x) (h : N < 0) :
    Calls Try.prog 35 #[.agg #[.bool m, .slice ao n cap], .int .i64 N] w (RetB (.tuple #[.agg #[.bool false, .slice none 0 0], .int .i64 2]) w) := by
  obtain ⟨⟨xs, hs, hz⟩, hle⟩ := hx
  have d1 : decide (N < 0) = true := by simpa using h
  go_enter Try.func35, Try.ntmps35
  go_upto_region 1 with (fail)
  refine wp_world (fun W hW => ?_)
  have HB0 : Hid (Below w.heap.size w W) := by rw [hW]; exact step_alloc (below_alloc _ _)
  have hbx_bx : Box W (w.heap.size) m ao n cap := by rw [hW]; exact (Box.new _ _ _ _ _ _ _ (by simp)).below (below_alloc _ _)
  have hbx_br : Box W (w.heap.size + 1) false none 0 0 := by rw [hW]; exact Box.new _ _ _ _ _ _ _ (by simp)
  have HK0 := Lib.hid (Live.add_sl (hs.below HB0.out) (Live.add_box hbx_bx (Live.add_box hbx_br (Live.nil W))))
  clear hW hbx_bx hbx_br
  have bx_c0 := HK0.out.tail.box.c0
  have bx_c1 := HK0.out.tail.box.c1
  have bx_f0 := HK0.out.tail.box.f0
  have bx_f1 := HK0.out.tail.box.f1
  have br_c0 := HK0.out.tail.tail.box.c0
  have br_c1 := HK0.out.tail.tail.box.c1
  have br_f0 := HK0.out.tail.tail.box.f0
  have br_f1 := HK0.out.tail.tail.box.f1
  go_wp2_with fail
  refine bodyPost_ret (v := .tuple #[.agg #[.bool false, .slice none 0 0], .int .i64 2]) (by simp [results, Try.results35, go_sem, br_c0, br_c1]) rfl ?_
  exact ⟨rfl, below_set2 HB0.out (by omega) _ _⟩

set_option maxHeartbeats 4000000 in
theorem wpow_g (N : Int) {m : Bool} {ao : Option Addr} {n cap : Nat} {x : Int} {w : World} (hx : Nx w m ao n cap x) (h : 1000 < N) :
    Calls Try.prog 35 #[.agg #[.bool m, .slice ao n cap], .int .i64 N] w (RetB (.tuple #[.agg #[.bool false, .slice none 0 0], .int .i64 2]) w) := by
  obtain ⟨⟨xs, hs, hz⟩, hle⟩ := hx
  have d1 : decide (N < 0) = false := by simp; omega
  have d2 : decide (1000 < N) = true := by simpa using h
  go_enter Try.func35, Try.ntmps35
  go_upto_region 1 with (fail)
  refine wp_world (fun W hW => ?_)
  have HB0 : Hid (Below w.heap.size w W) := by rw [hW]; exact step_alloc (below_alloc _ _)
  have hbx_bx : Box W (w.heap.size) m ao n cap := by rw [hW]; exact (Box.new _ _ _ _ _ _ _ (by simp)).below (below_alloc _ _)
  have hbx_br : Box W (w.heap.size + 1) false none 0 0 := by rw [hW]; exact Box.new _ _ _ _ _ _ _ (by simp)
  have HK0 := Lib.hid (Live.add_sl (hs.below HB0.out) (Live.add_box hbx_bx (Live.add_box hbx_br (Live.nil W))))
  clear hW hbx_bx hbx_br
  have bx_c0 := HK0.out.tail.box.c0
  have bx_c1 := HK0.out.tail.box.c1
  have bx_f0 := HK0.out.tail.box.f0
  have bx_f1 := HK0.out.tail.box.f1
  have br_c0 := HK0.out.tail.tail.box.c0
  have br_c1 := HK0.out.tail.tail.box.c1
  have br_f0 := HK0.out.tail.tail.box.f0
  have br_f1 := HK0.out.tail.tail.box.f1
  go_wp2_with fail
  refine bodyPost_ret (v := .tuple #[.agg #[.bool false, .slice none 0 0], .int .i64 2]) (by simp [results, Try.results35, go_sem, br_c0, br_c1]) rfl ?_
  exact ⟨rfl, below_set2 HB0.out (by omega) _ _⟩

theorem wpow_bad (N : Int) {m : Bool} {ao : Option Addr} {n cap : Nat} {x : Int} {w : World} (hx : Nx w m ao n cap x) (h : N < 0 ∨ 1000 < N) :
    Calls Try.prog 35 #[.agg #[.bool m, .slice ao n cap], .int .i64 N] w (RetB (.tuple #[.agg #[.bool false, .slice none 0 0], .int .i64 2]) w) := by
  rcases h with h | h
  · exact wpow_n N hx h
  · exact wpow_g N hx h

set_option maxHeartbeats 4000000 in
theorem wpow_true (N : Nat) {ao : Option Addr} {n cap : Nat} {x : Int} {w : World} (hx : Nx w true ao n cap x) (hN : N ≤ 1000) :
    Calls Try.prog 35 #[.agg #[.bool true, .slice ao n cap], .int .i64 (N : Int)] w (NewIE w (x ^ N) 0) := by
  obtain ⟨⟨xs, hs, hz⟩, hle⟩ := hx
  obtain ⟨s, hs1⟩ : ∃ s, s = decide (N % 2 = 1) := ⟨_, rfl⟩
  have hs2 : (((N : Nat) : Int) % 2 == 1) = s := by rw [hs1, Bool.eq_iff_iff]; simp; omega
  have d1 : decide (((N : Nat) : Int) < 0) = false := by simp
  have d2 : decide (1000 < ((N : Nat) : Int)) = false := by simp; omega
  have e1 : ((N : Nat) : Int).tmod 2 = ((N : Nat) : Int) % 2 := Int.tmod_eq_emod_of_nonneg (by omega)
  have e2 : IntKind.i64.wrap (((N : Nat) : Int) % 2) = ((N : Nat) : Int) % 2 := by rw [show ((N : Nat) : Int) % 2 = ((N % 2 : Nat) : Int) from by omega]; exact wrap_i64 _ (by omega)
  have HZ : Hid (zOf (true && s) (val xs ^ N) = x ^ N) := by rw [Hid, hs1, zOf_pow, hz]
  clear hs1 hz
  go_enter Try.func35, Try.ntmps35
  go_upto_region 1 with (fail)
  refine wp_world (fun W hW => ?_)
  have HB0 : Hid (Below w.heap.size w W) := by rw [hW]; exact step_alloc (below_alloc _ _)
  have hbx_bx : Box W (w.heap.size) true ao n cap := by rw [hW]; exact (Box.new _ _ _ _ _ _ _ (by simp)).below (below_alloc _ _)
  have hbx_br : Box W (w.heap.size + 1) false none 0 0 := by rw [hW]; exact Box.new _ _ _ _ _ _ _ (by simp)
  have HK0 := Lib.hid (Live.add_sl (hs.below HB0.out) (Live.add_box hbx_bx (Live.add_box hbx_br (Live.nil W))))
  clear hW hbx_bx hbx_br
  have bx_c0 := HK0.out.tail.box.c0
  have bx_c1 := HK0.out.tail.box.c1
  have bx_f0 := HK0.out.tail.box.f0
  have bx_f1 := HK0.out.tail.box.f1
  have br_c0 := HK0.out.tail.tail.box.c0
  have br_c1 := HK0.out.tail.tail.box.c1
  have br_f0 := HK0.out.tail.tail.box.f0
  have br_f1 := HK0.out.tail.tail.box.f1
  go_wp2_with fail
  have HK0d := Lib.hid (HK0.out.below ((Below.refl _ _).drew))
  have HB0d := Lib.hid HB0.out.drew
  clear bx_c0 bx_c1 bx_f0 bx_f1 br_c0 br_c1 br_f0 br_f1
  clear HK0 HB0
  have HK0 := Lib.hid HK0d.out
  have HB0 := Lib.hid HB0d.out
  clear HK0d HB0d
  have bx_c0 := HK0.out.tail.box.c0
  have bx_c1 := HK0.out.tail.box.c1
  have bx_f0 := HK0.out.tail.box.f0
  have bx_f1 := HK0.out.tail.box.f1
  have br_c0 := HK0.out.tail.tail.box.c0
  have br_c1 := HK0.out.tail.tail.box.c1
  have br_f0 := HK0.out.tail.tail.box.f0
  have br_f1 := HK0.out.tail.tail.box.f1
  have tok0 : True := trivial
  have KS0 := Lib.hid (And.intro HK0.out.tail.box.c0 (HK0.out.tail.box.c1))
  go_region_held3 (fun w' => w'.cell? ⟨w.heap.size, 0, none⟩ = some (.bool true) ∧ w'.cell? ⟨w.heap.size, 1, none⟩ = some (.slice ao n cap))
    (first | exact KS3.out | exact KS2.out | exact KS1.out | exact KS0.out | exact (And.intro ((cell_set2 (fun e => by have e2 : w.heap.size = w.heap.size + 1 := e; omega) _ _).trans bx_c0) ((cell_set2 (fun e => by have e2 : w.heap.size = w.heap.size + 1 := e; omega) _ _).trans bx_c1)) | go_keep)
    (first
      | (have _t := tok0; clear _t tok0; go_at_call 41; go_must (with_reducible refine (signed_any _ _).mono ?_); rintro e w1 ⟨b_fn, rfl, hb1, hb2, hbc, hB⟩; have HK1 := Lib.hid (Live.add_fn hb2 hbc (HK0.out.below hB)); have HB1 := Lib.hid (Below.steps HB0.out hB); clear bx_c0 bx_c1 bx_f0 bx_f1 br_c0 br_c1 br_f0 br_f1; clear HK0 HB0 hb1 hbc hB; have bx_c0 := HK1.out.tail.tail.box.c0; have bx_c1 := HK1.out.tail.tail.box.c1; have bx_f0 := HK1.out.tail.tail.box.f0; have bx_f1 := HK1.out.tail.tail.box.f1; have br_c0 := HK1.out.tail.tail.tail.box.c0; have br_c1 := HK1.out.tail.tail.tail.box.c1; have br_f0 := HK1.out.tail.tail.tail.box.f0; have br_f1 := HK1.out.tail.tail.tail.box.f1; have KS1 := Lib.hid (And.intro HK1.out.tail.tail.box.c0 (HK1.out.tail.tail.box.c1)); have tok1 : True := trivial)
      | (have _t := tok1; clear _t tok1; go_at_call 60; go_must (with_reducible refine (power_any _ _ _ _ N _ HK1.out.tail.sl (by omega) (by omega)).mono ?_); rintro e w2 ⟨t0, tn, tc, rfl, hT, hB⟩; have HK2 := Lib.hid (Live.add_sl hT.sl (HK1.out.below hB)); have HB2 := Lib.hid (Below.steps HB1.out hB); clear bx_c0 bx_c1 bx_f0 bx_f1 br_c0 br_c1 br_f0 br_f1; clear HK1 HB1 hT hB; have bx_c0 := HK2.out.tail.tail.tail.box.c0; have bx_c1 := HK2.out.tail.tail.tail.box.c1; have bx_f0 := HK2.out.tail.tail.tail.box.f0; have bx_f1 := HK2.out.tail.tail.tail.box.f1; have br_c0 := HK2.out.tail.tail.tail.tail.box.c0; have br_c1 := HK2.out.tail.tail.tail.tail.box.c1; have br_f0 := HK2.out.tail.tail.tail.tail.box.f0; have br_f1 := HK2.out.tail.tail.tail.tail.box.f1; have KS2 := Lib.hid (And.intro HK2.out.tail.tail.tail.box.c0 (HK2.out.tail.tail.tail.box.c1)); have tok2 : True := trivial)
      | (have _t := tok2; clear _t tok2; go_at_call 63; go_must (with_reducible refine (close_any _ _ _ _ _ _ _ HK2.out.tail.fn HK2.out.sl).mono ?_); rintro e w3 ⟨rm, r0, rn, rc, rfl, hX, hB⟩; have HK3 := Lib.hid (HK2.out.below hB); have HB3 := Lib.hid (Below.steps HB2.out hB); clear bx_c0 bx_c1 bx_f0 bx_f1 br_c0 br_c1 br_f0 br_f1; clear HK2 HB2 hB; have bx_c0 := HK3.out.tail.tail.tail.box.c0; have bx_c1 := HK3.out.tail.tail.tail.box.c1; have bx_f0 := HK3.out.tail.tail.tail.box.f0; have bx_f1 := HK3.out.tail.tail.tail.box.f1; have br_c0 := HK3.out.tail.tail.tail.tail.box.c0; have br_c1 := HK3.out.tail.tail.tail.tail.box.c1; have br_f0 := HK3.out.tail.tail.tail.tail.box.f0; have br_f1 := HK3.out.tail.tail.tail.tail.box.f1; have KS3 := Lib.hid (And.intro HK3.out.tail.tail.tail.box.c0 (HK3.out.tail.tail.tail.box.c1)); have tok3 : True := trivial))
  clear KS0 KS1 KS2 KS3
  go_wp2_with fail
  refine bodyPost_ret (v := .tuple #[.agg #[.bool rm, .slice r0 rn rc], .int .i64 0]) (by simp [results, Try.results35, go_sem, br_c0, br_c1]) rfl ?_
  exact ⟨_, _, _, _, rfl, (show zOf s (val xs ^ N) = x ^ N from by simpa using HZ.out) ▸ hX.set2 HK3.out.tail.tail.tail.tail.box _ _, below_set2 HB3.out (by omega) _ _⟩

set_option maxHeartbeats 4000000 in
theorem wpow_false (N : Nat) {ao : Option Addr} {n cap : Nat} {x : Int} {w : World} (hx : Nx w false ao n cap x) (hN : N ≤ 1000) :
    Calls Try.prog 35 #[.agg #[.bool false, .slice ao n cap], .int .i64 (N : Int)] w (NewIE w (x ^ N) 0) := by
  obtain ⟨⟨xs, hs, hz⟩, hle⟩ := hx
  obtain ⟨s, hs1⟩ : ∃ s, s = decide (N % 2 = 1) := ⟨_, rfl⟩
  have hs2 : (((N : Nat) : Int) % 2 == 1) = s := by rw [hs1, Bool.eq_iff_iff]; simp; omega
  have d1 : decide (((N : Nat) : Int) < 0) = false := by simp
  have d2 : decide (1000 < ((N : Nat) : Int)) = false := by simp; omega
  have e1 : ((N : Nat) : Int).tmod 2 = ((N : Nat) : Int) % 2 := Int.tmod_eq_emod_of_nonneg (by omega)
  have e2 : IntKind.i64.wrap (((N : Nat) : Int) % 2) = ((N : Nat) : Int) % 2 := by rw [show ((N : Nat) : Int) % 2 = ((N % 2 : Nat) : Int) from by omega]; exact wrap_i64 _ (by omega)
  have HZ : Hid (zOf (false && s) (val xs ^ N) = x ^ N) := by rw [Hid, hs1, zOf_pow, hz]
  clear hs1 hz
  go_enter Try.func35, Try.ntmps35
  go_upto_region 1 with (fail)
  refine wp_world (fun W hW => ?_)
  have HB0 : Hid (Below w.heap.size w W) := by rw [hW]; exact step_alloc (below_alloc _ _)
  have hbx_bx : Box W (w.heap.size) false ao n cap := by rw [hW]; exact (Box.new _ _ _ _ _ _ _ (by simp)).below (below_alloc _ _)
  have hbx_br : Box W (w.heap.size + 1) false none 0 0 := by rw [hW]; exact Box.new _ _ _ _ _ _ _ (by simp)
  have HK0 := Lib.hid (Live.add_sl (hs.below HB0.out) (Live.add_box hbx_bx (Live.add_box hbx_br (Live.nil W))))
  clear hW hbx_bx hbx_br
  have bx_c0 := HK0.out.tail.box.c0
  have bx_c1 := HK0.out.tail.box.c1
  have bx_f0 := HK0.out.tail.box.f0
  have bx_f1 := HK0.out.tail.box.f1
  have br_c0 := HK0.out.tail.tail.box.c0
  have br_c1 := HK0.out.tail.tail.box.c1
  have br_f0 := HK0.out.tail.tail.box.f0
  have br_f1 := HK0.out.tail.tail.box.f1
  go_wp2_with fail
  have HK0d := Lib.hid (HK0.out.below ((Below.refl _ _).drew))
  have HB0d := Lib.hid HB0.out.drew
  clear bx_c0 bx_c1 bx_f0 bx_f1 br_c0 br_c1 br_f0 br_f1
  clear HK0 HB0
  have HK0 := Lib.hid HK0d.out
  have HB0 := Lib.hid HB0d.out
  clear HK0d HB0d
  have bx_c0 := HK0.out.tail.box.c0
  have bx_c1 := HK0.out.tail.box.c1
  have bx_f0 := HK0.out.tail.box.f0
  have bx_f1 := HK0.out.tail.box.f1
  have br_c0 := HK0.out.tail.tail.box.c0
  have br_c1 := HK0.out.tail.tail.box.c1
  have br_f0 := HK0.out.tail.tail.box.f0
  have br_f1 := HK0.out.tail.tail.box.f1
  have tok0 : True := trivial
  have KS0 := Lib.hid (And.intro HK0.out.tail.box.c0 (HK0.out.tail.box.c1))
  first
    | (go_region_held (fun w' => w'.cell? ⟨w.heap.size, 0, none⟩ = some (.bool false) ∧ w'.cell? ⟨w.heap.size, 1, none⟩ = some (.slice ao n cap))
        (first | exact KS3.out | exact KS2.out | exact KS1.out | exact KS0.out | exact (And.intro ((cell_set2 (fun e => by have e2 : w.heap.size = w.heap.size + 1 := e; omega) _ _).trans bx_c0) ((cell_set2 (fun e => by have e2 : w.heap.size = w.heap.size + 1 := e; omega) _ _).trans bx_c1)) | go_keep)
        (first
          | (have _t := tok0; clear _t tok0; go_at_call 41; go_must (with_reducible refine (signed_any _ _).mono ?_); rintro e w1 ⟨b_fn, rfl, hb1, hb2, hbc, hB⟩; have HK1 := Lib.hid (Live.add_fn hb2 hbc (HK0.out.below hB)); have HB1 := Lib.hid (Below.steps HB0.out hB); clear bx_c0 bx_c1 bx_f0 bx_f1 br_c0 br_c1 br_f0 br_f1; clear HK0 HB0 hb1 hbc hB; have bx_c0 := HK1.out.tail.tail.box.c0; have bx_c1 := HK1.out.tail.tail.box.c1; have bx_f0 := HK1.out.tail.tail.box.f0; have bx_f1 := HK1.out.tail.tail.box.f1; have br_c0 := HK1.out.tail.tail.tail.box.c0; have br_c1 := HK1.out.tail.tail.tail.box.c1; have br_f0 := HK1.out.tail.tail.tail.box.f0; have br_f1 := HK1.out.tail.tail.tail.box.f1; have KS1 := Lib.hid (And.intro HK1.out.tail.tail.box.c0 (HK1.out.tail.tail.box.c1)); have tok1 : True := trivial)
          | (have _t := tok1; clear _t tok1; go_at_call 60; go_must (with_reducible refine (power_any _ _ _ _ N _ HK1.out.tail.sl (by omega) (by omega)).mono ?_); rintro e w2 ⟨t0, tn, tc, rfl, hT, hB⟩; have HK2 := Lib.hid (Live.add_sl hT.sl (HK1.out.below hB)); have HB2 := Lib.hid (Below.steps HB1.out hB); clear bx_c0 bx_c1 bx_f0 bx_f1 br_c0 br_c1 br_f0 br_f1; clear HK1 HB1 hT hB; have bx_c0 := HK2.out.tail.tail.tail.box.c0; have bx_c1 := HK2.out.tail.tail.tail.box.c1; have bx_f0 := HK2.out.tail.tail.tail.box.f0; have bx_f1 := HK2.out.tail.tail.tail.box.f1; have br_c0 := HK2.out.tail.tail.tail.tail.box.c0; have br_c1 := HK2.out.tail.tail.tail.tail.box.c1; have br_f0 := HK2.out.tail.tail.tail.tail.box.f0; have br_f1 := HK2.out.tail.tail.tail.tail.box.f1; have KS2 := Lib.hid (And.intro HK2.out.tail.tail.tail.box.c0 (HK2.out.tail.tail.tail.box.c1)); have tok2 : True := trivial)
          | (have _t := tok2; clear _t tok2; go_at_call 63; go_must (with_reducible refine (close_any _ _ _ _ _ _ _ HK2.out.tail.fn HK2.out.sl).mono ?_); rintro e w3 ⟨rm, r0, rn, rc, rfl, hX, hB⟩; have HK3 := Lib.hid (HK2.out.below hB); have HB3 := Lib.hid (Below.steps HB2.out hB); clear bx_c0 bx_c1 bx_f0 bx_f1 br_c0 br_c1 br_f0 br_f1; clear HK2 HB2 hB; have bx_c0 := HK3.out.tail.tail.tail.box.c0; have bx_c1 := HK3.out.tail.tail.tail.box.c1; have bx_f0 := HK3.out.tail.tail.tail.box.f0; have bx_f1 := HK3.out.tail.tail.tail.box.f1; have br_c0 := HK3.out.tail.tail.tail.tail.box.c0; have br_c1 := HK3.out.tail.tail.tail.tail.box.c1; have br_f0 := HK3.out.tail.tail.tail.tail.box.f0; have br_f1 := HK3.out.tail.tail.tail.tail.box.f1; have KS3 := Lib.hid (And.intro HK3.out.tail.tail.tail.box.c0 (HK3.out.tail.tail.tail.box.c1)); have tok3 : True := trivial)))
    | fail
  clear KS0 KS1 KS2 KS3
  go_wp2_with fail
  refine bodyPost_ret (v := .tuple #[.agg #[.bool rm, .slice r0 rn rc], .int .i64 0]) (by simp [results, Try.results35, go_sem, br_c0, br_c1]) rfl ?_
  exact ⟨_, _, _, _, rfl, (show zOf false (val xs ^ N) = x ^ N from by simpa using HZ.out) ▸ hX.set2 HK3.out.tail.tail.tail.tail.box _ _, below_set2 HB3.out (by omega) _ _⟩

theorem wpow_any (N : Nat) {m : Bool} {ao : Option Addr} {n cap : Nat} {x : Int} {w : World} (hx : Nx w m ao n cap x) (hN : N ≤ 1000) :
    Calls Try.prog 35 #[.agg #[.bool m, .slice ao n cap], .int .i64 (N : Int)] w (NewIE w (x ^ N) 0) := by
  cases m
  · exact wpow_false N hx hN
  · exact wpow_true N hx hN

end Go.Proofs.Ytponiigpmjnffaa

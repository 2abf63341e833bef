/-
  The contract of whole.Cmp.
-/
import Derived.Test.YtponiigpmjnffaaWSign
import Derived.Test.YtponiigpmjnffaaGNatA
import Derived.Deep.Cut
set_option maxRecDepth 8192
namespace Go.Proofs.Ytponiigpmjnffaa
open Go.RowKit

theorem isnan_any (a : Int) (w : World) : Calls Try.prog 73 #[.int .i64 a] w fun e w' => e = .returned (.bool false) ∧ w = w' := by
  go_enter Try.func73, Try.ntmps73
  go_wp2_with fail
  go_ret
  exact ⟨rfl, rfl⟩

theorem compare_lt (a b : Int) (w : World) (h : a < b) : Calls Try.prog 53 #[.int .i64 a, .int .i64 b] w fun e w' => e = .returned (.int .i64 (-1)) ∧ w = w' := by
  have d1 : decide (a < b) = true := by simpa using h
  go_enter Try.func53, Try.ntmps53
  go_wp2_with (go_at_call 73; refine (isnan_any _ _).mono ?_; rintro e w' ⟨rfl, rfl⟩)
  go_ret
  exact ⟨rfl, rfl⟩

theorem compare_gt (a b : Int) (w : World) (h : b < a) : Calls Try.prog 53 #[.int .i64 a, .int .i64 b] w fun e w' => e = .returned (.int .i64 1) ∧ w = w' := by
  have d1 : decide (a < b) = false := by simp; omega
  have d2 : decide (b < a) = true := by simpa using h
  go_enter Try.func53, Try.ntmps53
  go_wp2_with (go_at_call 73; refine (isnan_any _ _).mono ?_; rintro e w' ⟨rfl, rfl⟩)
  go_ret
  exact ⟨rfl, rfl⟩

theorem sign_cases (x : Int) : x.sign = -1 ∧ x < 0 ∨ x.sign = 0 ∧ x = 0 ∨ x.sign = 1 ∧ 0 < x := by
  rcases Int.lt_trichotomy x 0 with h | h | h
  · exact .inl ⟨Int.sign_eq_neg_one_of_neg h, h⟩
  · exact .inr (.inl ⟨by rw [h]; rfl, h⟩)
  · exact .inr (.inr ⟨Int.sign_eq_one_of_pos h, h⟩)

/-- which of two is greater -/
def cmpZ (x y : Int) : Int := (x - y).sign

theorem cmpZ_lt {x y : Int} (h : x < y) : cmpZ x y = -1 := Int.sign_eq_neg_one_of_neg (by omega)
theorem cmpZ_gt {x y : Int} (h : y < x) : cmpZ x y = 1 := Int.sign_eq_one_of_pos (by omega)
theorem cmpZ_eq {x y : Int} (h : x = y) : cmpZ x y = 0 := by unfold cmpZ; rw [h, Int.sub_self]; rfl

set_option maxHeartbeats 4000000 in
theorem wcmp_lt {m k : Bool} {ao bo : Option Addr} {n cap l cb : Nat} {x y : Int} {w : World} (hx : Nx w m ao n cap x) (hy : Nx w k bo l cb y) (h : x.sign < y.sign) :
    Calls Try.prog 25 #[.agg #[.bool m, .slice ao n cap], .agg #[.bool k, .slice bo l cb]] w (RetB (.int .i64 (cmpZ x y)) w) := by
  obtain ⟨s, hs⟩ : ∃ s, x.sign = s := ⟨_, rfl⟩
  obtain ⟨t, ht⟩ : ∃ t, y.sign = t := ⟨_, rfl⟩
  have hd : (s != t) = true := by rw [← hs, ← ht]; simp; omega
  have HST : Hid (s < t) := by rw [Hid, ← hs, ← ht]; exact h
  have HS := Lib.hid hs
  have HT := Lib.hid ht
  clear hs ht h
  go_enter Try.func25, Try.ntmps25
  go_upto_region 1 with (fail)
  refine wp_world (fun W hW => ?_)
  have HB0 : Hid (Below w.heap.size w W) := by rw [hW]; exact step_alloc (below_alloc _ _)
  have hbx_bx : Box W (w.heap.size) m ao n cap := by rw [hW]; exact (Box.new _ _ _ _ _ _ _ (by simp)).below (below_alloc _ _)
  have hbx_by : Box W (w.heap.size + 1) k bo l cb := by rw [hW]; exact Box.new _ _ _ _ _ _ _ (by simp)
  have HK0 := Lib.hid (Live.add_num (hx.below HB0.out) (Live.add_num (hy.below HB0.out) (Live.add_box hbx_bx (Live.add_box hbx_by (Live.nil W)))))
  clear hW hbx_bx hbx_by
  have bx_c0 := HK0.out.tail.tail.box.c0
  have bx_c1 := HK0.out.tail.tail.box.c1
  have bx_f0 := HK0.out.tail.tail.box.f0
  have bx_f1 := HK0.out.tail.tail.box.f1
  have by_c0 := HK0.out.tail.tail.tail.box.c0
  have by_c1 := HK0.out.tail.tail.tail.box.c1
  have by_f0 := HK0.out.tail.tail.tail.box.f0
  have by_f1 := HK0.out.tail.tail.tail.box.f1
  go_wp2_with fail
  refine (wsign_is (s) HK0.out.num HS.out).mono ?_
  rintro e w1 ⟨rfl, hB⟩
  have HK1 := Lib.hid (HK0.out.below hB)
  have HB1 := Lib.hid (Below.steps HB0.out hB)
  clear bx_c0 bx_c1 bx_f0 bx_f1 by_c0 by_c1 by_f0 by_f1
  clear HK0 HB0 hB
  have bx_c0 := HK1.out.tail.tail.box.c0
  have bx_c1 := HK1.out.tail.tail.box.c1
  have bx_f0 := HK1.out.tail.tail.box.f0
  have bx_f1 := HK1.out.tail.tail.box.f1
  have by_c0 := HK1.out.tail.tail.tail.box.c0
  have by_c1 := HK1.out.tail.tail.tail.box.c1
  have by_f0 := HK1.out.tail.tail.tail.box.f0
  have by_f1 := HK1.out.tail.tail.tail.box.f1
  go_wp2_with fail
  refine (wsign_is (t) HK1.out.tail.num HT.out).mono ?_
  rintro e w2 ⟨rfl, hB⟩
  have HK2 := Lib.hid (HK1.out.below hB)
  have HB2 := Lib.hid (Below.steps HB1.out hB)
  clear bx_c0 bx_c1 bx_f0 bx_f1 by_c0 by_c1 by_f0 by_f1
  clear HK1 HB1 hB
  have bx_c0 := HK2.out.tail.tail.box.c0
  have bx_c1 := HK2.out.tail.tail.box.c1
  have bx_f0 := HK2.out.tail.tail.box.f0
  have bx_f1 := HK2.out.tail.tail.box.f1
  have by_c0 := HK2.out.tail.tail.tail.box.c0
  have by_c1 := HK2.out.tail.tail.tail.box.c1
  have by_f0 := HK2.out.tail.tail.tail.box.f0
  have by_f1 := HK2.out.tail.tail.tail.box.f1
  go_wp2_with fail
  refine (compare_lt _ _ _ HST.out).mono ?_
  rintro e w' ⟨rfl, rfl⟩
  go_wp2_with fail
  go_ret
  exact ⟨by rw [cmpZ_lt (by have h1 := HS.out; have h2 := HT.out; have h3 := HST.out; have g1 := sign_cases x; have g2 := sign_cases y; omega)]; rfl, HB2.out⟩

set_option maxHeartbeats 4000000 in
theorem wcmp_gt {m k : Bool} {ao bo : Option Addr} {n cap l cb : Nat} {x y : Int} {w : World} (hx : Nx w m ao n cap x) (hy : Nx w k bo l cb y) (h : y.sign < x.sign) :
    Calls Try.prog 25 #[.agg #[.bool m, .slice ao n cap], .agg #[.bool k, .slice bo l cb]] w (RetB (.int .i64 (cmpZ x y)) w) := by
  obtain ⟨s, hs⟩ : ∃ s, x.sign = s := ⟨_, rfl⟩
  obtain ⟨t, ht⟩ : ∃ t, y.sign = t := ⟨_, rfl⟩
  have hd : (s != t) = true := by rw [← hs, ← ht]; simp; omega
  have HST : Hid (t < s) := by rw [Hid, ← hs, ← ht]; exact h
  have HS := Lib.hid hs
  have HT := Lib.hid ht
  clear hs ht h
  go_enter Try.func25, Try.ntmps25
  go_upto_region 1 with (fail)
  refine wp_world (fun W hW => ?_)
  have HB0 : Hid (Below w.heap.size w W) := by rw [hW]; exact step_alloc (below_alloc _ _)
  have hbx_bx : Box W (w.heap.size) m ao n cap := by rw [hW]; exact (Box.new _ _ _ _ _ _ _ (by simp)).below (below_alloc _ _)
  have hbx_by : Box W (w.heap.size + 1) k bo l cb := by rw [hW]; exact Box.new _ _ _ _ _ _ _ (by simp)
  have HK0 := Lib.hid (Live.add_num (hx.below HB0.out) (Live.add_num (hy.below HB0.out) (Live.add_box hbx_bx (Live.add_box hbx_by (Live.nil W)))))
  clear hW hbx_bx hbx_by
  have bx_c0 := HK0.out.tail.tail.box.c0
  have bx_c1 := HK0.out.tail.tail.box.c1
  have bx_f0 := HK0.out.tail.tail.box.f0
  have bx_f1 := HK0.out.tail.tail.box.f1
  have by_c0 := HK0.out.tail.tail.tail.box.c0
  have by_c1 := HK0.out.tail.tail.tail.box.c1
  have by_f0 := HK0.out.tail.tail.tail.box.f0
  have by_f1 := HK0.out.tail.tail.tail.box.f1
  go_wp2_with fail
  refine (wsign_is (s) HK0.out.num HS.out).mono ?_
  rintro e w1 ⟨rfl, hB⟩
  have HK1 := Lib.hid (HK0.out.below hB)
  have HB1 := Lib.hid (Below.steps HB0.out hB)
  clear bx_c0 bx_c1 bx_f0 bx_f1 by_c0 by_c1 by_f0 by_f1
  clear HK0 HB0 hB
  have bx_c0 := HK1.out.tail.tail.box.c0
  have bx_c1 := HK1.out.tail.tail.box.c1
  have bx_f0 := HK1.out.tail.tail.box.f0
  have bx_f1 := HK1.out.tail.tail.box.f1
  have by_c0 := HK1.out.tail.tail.tail.box.c0
  have by_c1 := HK1.out.tail.tail.tail.box.c1
  have by_f0 := HK1.out.tail.tail.tail.box.f0
  have by_f1 := HK1.out.tail.tail.tail.box.f1
  go_wp2_with fail
  refine (wsign_is (t) HK1.out.tail.num HT.out).mono ?_
  rintro e w2 ⟨rfl, hB⟩
  have HK2 := Lib.hid (HK1.out.below hB)
  have HB2 := Lib.hid (Below.steps HB1.out hB)
  clear bx_c0 bx_c1 bx_f0 bx_f1 by_c0 by_c1 by_f0 by_f1
  clear HK1 HB1 hB
  have bx_c0 := HK2.out.tail.tail.box.c0
  have bx_c1 := HK2.out.tail.tail.box.c1
  have bx_f0 := HK2.out.tail.tail.box.f0
  have bx_f1 := HK2.out.tail.tail.box.f1
  have by_c0 := HK2.out.tail.tail.tail.box.c0
  have by_c1 := HK2.out.tail.tail.tail.box.c1
  have by_f0 := HK2.out.tail.tail.tail.box.f0
  have by_f1 := HK2.out.tail.tail.tail.box.f1
  go_wp2_with fail
  refine (compare_gt _ _ _ HST.out).mono ?_
  rintro e w' ⟨rfl, rfl⟩
  go_wp2_with fail
  go_ret
  exact ⟨by rw [cmpZ_gt (by have h1 := HS.out; have h2 := HT.out; have h3 := HST.out; have g1 := sign_cases x; have g2 := sign_cases y; omega)]; rfl, HB2.out⟩

set_option maxHeartbeats 4000000 in
theorem wcmp_n {m k : Bool} {ao bo : Option Addr} {n cap l cb : Nat} {x y : Int} {w : World} (hx : Nx w m ao n cap x) (hy : Nx w k bo l cb y) (h1 : x.sign = -1) (h2 : y.sign = -1) :
    Calls Try.prog 25 #[.agg #[.bool m, .slice ao n cap], .agg #[.bool k, .slice bo l cb]] w (RetB (.int .i64 (cmpZ x y)) w) := by
  have HS : Hid (x.sign = -1) := h1
  have HT : Hid (y.sign = -1) := h2
  clear h1 h2
  have hax := zOf_abs m
  clear hax
  obtain ⟨⟨xs, hs, hz⟩, hle⟩ := id hx
  obtain ⟨⟨ys, ht, hz2⟩, hle2⟩ := id hy
  obtain ⟨c, hc⟩ : ∃ c, c = cmpN (val xs) (val ys) := ⟨_, rfl⟩
  have hc1 : -1 ≤ c := by rw [hc]; unfold cmpN; split; · omega
                          · split <;> omega
  have hc2 : c ≤ 1 := by rw [hc]; unfold cmpN; split; · omega
                         · split <;> omega
  have HZ : Hid (-c = cmpZ x y) := by
    have hvx := zOf_abs m (val xs)
    have hvy := zOf_abs k (val ys)
    rw [hz] at hvx
    rw [hz2] at hvy
    have h1 := HS.out
    have h2 := HT.out
    have g1 := sign_cases x
    have g2 := sign_cases y
    have g3 := sign_cases (x - y)
    rw [Hid, hc]
    unfold cmpZ
    unfold cmpN
    split
    · omega
    · split <;> omega
  have HC := Lib.hid hc.symm
  clear hc hz hz2
  go_enter Try.func25, Try.ntmps25
  go_upto_region 1 with (fail)
  refine wp_world (fun W hW => ?_)
  have HB0 : Hid (Below w.heap.size w W) := by rw [hW]; exact step_alloc (below_alloc _ _)
  have hbx_bx : Box W (w.heap.size) m ao n cap := by rw [hW]; exact (Box.new _ _ _ _ _ _ _ (by simp)).below (below_alloc _ _)
  have hbx_by : Box W (w.heap.size + 1) k bo l cb := by rw [hW]; exact Box.new _ _ _ _ _ _ _ (by simp)
  have HK0 := Lib.hid (Live.add_num (hx.below HB0.out) (Live.add_num (hy.below HB0.out) (Live.add_sl (hs.below HB0.out) (Live.add_sl (ht.below HB0.out) (Live.add_box hbx_bx (Live.add_box hbx_by (Live.nil W)))))))
  clear hW hbx_bx hbx_by
  have bx_c0 := HK0.out.tail.tail.tail.tail.box.c0
  have bx_c1 := HK0.out.tail.tail.tail.tail.box.c1
  have bx_f0 := HK0.out.tail.tail.tail.tail.box.f0
  have bx_f1 := HK0.out.tail.tail.tail.tail.box.f1
  have by_c0 := HK0.out.tail.tail.tail.tail.tail.box.c0
  have by_c1 := HK0.out.tail.tail.tail.tail.tail.box.c1
  have by_f0 := HK0.out.tail.tail.tail.tail.tail.box.f0
  have by_f1 := HK0.out.tail.tail.tail.tail.tail.box.f1
  go_wp2_with fail
  refine (wsign_is (-1) HK0.out.num HS.out).mono ?_
  rintro e w1 ⟨rfl, hB⟩
  have HK1 := Lib.hid (HK0.out.below hB)
  have HB1 := Lib.hid (Below.steps HB0.out hB)
  clear bx_c0 bx_c1 bx_f0 bx_f1 by_c0 by_c1 by_f0 by_f1
  clear HK0 HB0 hB
  have bx_c0 := HK1.out.tail.tail.tail.tail.box.c0
  have bx_c1 := HK1.out.tail.tail.tail.tail.box.c1
  have bx_f0 := HK1.out.tail.tail.tail.tail.box.f0
  have bx_f1 := HK1.out.tail.tail.tail.tail.box.f1
  have by_c0 := HK1.out.tail.tail.tail.tail.tail.box.c0
  have by_c1 := HK1.out.tail.tail.tail.tail.tail.box.c1
  have by_f0 := HK1.out.tail.tail.tail.tail.tail.box.f0
  have by_f1 := HK1.out.tail.tail.tail.tail.tail.box.f1
  go_wp2_with fail
  refine (wsign_is (-1) HK1.out.tail.num HT.out).mono ?_
  rintro e w2 ⟨rfl, hB⟩
  have HK2 := Lib.hid (HK1.out.below hB)
  have HB2 := Lib.hid (Below.steps HB1.out hB)
  clear bx_c0 bx_c1 bx_f0 bx_f1 by_c0 by_c1 by_f0 by_f1
  clear HK1 HB1 hB
  have bx_c0 := HK2.out.tail.tail.tail.tail.box.c0
  have bx_c1 := HK2.out.tail.tail.tail.tail.box.c1
  have bx_f0 := HK2.out.tail.tail.tail.tail.box.f0
  have bx_f1 := HK2.out.tail.tail.tail.tail.box.f1
  have by_c0 := HK2.out.tail.tail.tail.tail.tail.box.c0
  have by_c1 := HK2.out.tail.tail.tail.tail.tail.box.c1
  have by_f0 := HK2.out.tail.tail.tail.tail.tail.box.f0
  have by_f1 := HK2.out.tail.tail.tail.tail.tail.box.f1
  go_wp2_with fail
  refine (cmp_b c _ _ _ _ _ _ _ _ _ HK2.out.tail.tail.sl HK2.out.tail.tail.tail.sl HC).mono ?_
  rintro e w3 ⟨rfl, hB⟩
  have HK3 := Lib.hid (HK2.out.below hB)
  have HB3 := Lib.hid (Below.steps HB2.out hB)
  clear bx_c0 bx_c1 bx_f0 bx_f1 by_c0 by_c1 by_f0 by_f1
  clear HK2 HB2 hB
  have bx_c0 := HK3.out.tail.tail.tail.tail.box.c0
  have bx_c1 := HK3.out.tail.tail.tail.tail.box.c1
  have bx_f0 := HK3.out.tail.tail.tail.tail.box.f0
  have bx_f1 := HK3.out.tail.tail.tail.tail.box.f1
  have by_c0 := HK3.out.tail.tail.tail.tail.tail.box.c0
  have by_c1 := HK3.out.tail.tail.tail.tail.tail.box.c1
  have by_f0 := HK3.out.tail.tail.tail.tail.tail.box.f0
  have by_f1 := HK3.out.tail.tail.tail.tail.tail.box.f1
  go_wp2_with fail
  go_ret
  exact ⟨by rw [← HZ.out]; rfl, HB3.out⟩

set_option maxHeartbeats 4000000 in
theorem wcmp_z {m k : Bool} {ao bo : Option Addr} {n cap l cb : Nat} {x y : Int} {w : World} (hx : Nx w m ao n cap x) (hy : Nx w k bo l cb y) (h1 : x.sign = 0) (h2 : y.sign = 0) :
    Calls Try.prog 25 #[.agg #[.bool m, .slice ao n cap], .agg #[.bool k, .slice bo l cb]] w (RetB (.int .i64 (cmpZ x y)) w) := by
  have HS : Hid (x.sign = 0) := h1
  have HT : Hid (y.sign = 0) := h2
  clear h1 h2
  have hax := zOf_abs m
  clear hax
  obtain ⟨⟨xs, hs, hz⟩, hle⟩ := id hx
  obtain ⟨⟨ys, ht, hz2⟩, hle2⟩ := id hy
  obtain ⟨c, hc⟩ : ∃ c, c = cmpN (val xs) (val ys) := ⟨_, rfl⟩
  have hc1 : -1 ≤ c := by rw [hc]; unfold cmpN; split; · omega
                          · split <;> omega
  have hc2 : c ≤ 1 := by rw [hc]; unfold cmpN; split; · omega
                         · split <;> omega
  have HZ : Hid ((0 : Int) = cmpZ x y) := by
    have h1 := HS.out
    have h2 := HT.out
    have g1 := sign_cases x
    have g2 := sign_cases y
    exact (cmpZ_eq (by omega)).symm
  have HC := Lib.hid hc.symm
  clear hc hz hz2
  go_enter Try.func25, Try.ntmps25
  go_upto_region 1 with (fail)
  refine wp_world (fun W hW => ?_)
  have HB0 : Hid (Below w.heap.size w W) := by rw [hW]; exact step_alloc (below_alloc _ _)
  have hbx_bx : Box W (w.heap.size) m ao n cap := by rw [hW]; exact (Box.new _ _ _ _ _ _ _ (by simp)).below (below_alloc _ _)
  have hbx_by : Box W (w.heap.size + 1) k bo l cb := by rw [hW]; exact Box.new _ _ _ _ _ _ _ (by simp)
  have HK0 := Lib.hid (Live.add_num (hx.below HB0.out) (Live.add_num (hy.below HB0.out) (Live.add_sl (hs.below HB0.out) (Live.add_sl (ht.below HB0.out) (Live.add_box hbx_bx (Live.add_box hbx_by (Live.nil W)))))))
  clear hW hbx_bx hbx_by
  have bx_c0 := HK0.out.tail.tail.tail.tail.box.c0
  have bx_c1 := HK0.out.tail.tail.tail.tail.box.c1
  have bx_f0 := HK0.out.tail.tail.tail.tail.box.f0
  have bx_f1 := HK0.out.tail.tail.tail.tail.box.f1
  have by_c0 := HK0.out.tail.tail.tail.tail.tail.box.c0
  have by_c1 := HK0.out.tail.tail.tail.tail.tail.box.c1
  have by_f0 := HK0.out.tail.tail.tail.tail.tail.box.f0
  have by_f1 := HK0.out.tail.tail.tail.tail.tail.box.f1
  go_wp2_with fail
  refine (wsign_is (0) HK0.out.num HS.out).mono ?_
  rintro e w1 ⟨rfl, hB⟩
  have HK1 := Lib.hid (HK0.out.below hB)
  have HB1 := Lib.hid (Below.steps HB0.out hB)
  clear bx_c0 bx_c1 bx_f0 bx_f1 by_c0 by_c1 by_f0 by_f1
  clear HK0 HB0 hB
  have bx_c0 := HK1.out.tail.tail.tail.tail.box.c0
  have bx_c1 := HK1.out.tail.tail.tail.tail.box.c1
  have bx_f0 := HK1.out.tail.tail.tail.tail.box.f0
  have bx_f1 := HK1.out.tail.tail.tail.tail.box.f1
  have by_c0 := HK1.out.tail.tail.tail.tail.tail.box.c0
  have by_c1 := HK1.out.tail.tail.tail.tail.tail.box.c1
  have by_f0 := HK1.out.tail.tail.tail.tail.tail.box.f0
  have by_f1 := HK1.out.tail.tail.tail.tail.tail.box.f1
  go_wp2_with fail
  refine (wsign_is (0) HK1.out.tail.num HT.out).mono ?_
  rintro e w2 ⟨rfl, hB⟩
  have HK2 := Lib.hid (HK1.out.below hB)
  have HB2 := Lib.hid (Below.steps HB1.out hB)
  clear bx_c0 bx_c1 bx_f0 bx_f1 by_c0 by_c1 by_f0 by_f1
  clear HK1 HB1 hB
  have bx_c0 := HK2.out.tail.tail.tail.tail.box.c0
  have bx_c1 := HK2.out.tail.tail.tail.tail.box.c1
  have bx_f0 := HK2.out.tail.tail.tail.tail.box.f0
  have bx_f1 := HK2.out.tail.tail.tail.tail.box.f1
  have by_c0 := HK2.out.tail.tail.tail.tail.tail.box.c0
  have by_c1 := HK2.out.tail.tail.tail.tail.tail.box.c1
  have by_f0 := HK2.out.tail.tail.tail.tail.tail.box.f0
  have by_f1 := HK2.out.tail.tail.tail.tail.tail.box.f1
  go_wp2_with fail
  refine (cmp_b c _ _ _ _ _ _ _ _ _ HK2.out.tail.tail.sl HK2.out.tail.tail.tail.sl HC).mono ?_
  rintro e w3 ⟨rfl, hB⟩
  have HK3 := Lib.hid (HK2.out.below hB)
  have HB3 := Lib.hid (Below.steps HB2.out hB)
  clear bx_c0 bx_c1 bx_f0 bx_f1 by_c0 by_c1 by_f0 by_f1
  clear HK2 HB2 hB
  have bx_c0 := HK3.out.tail.tail.tail.tail.box.c0
  have bx_c1 := HK3.out.tail.tail.tail.tail.box.c1
  have bx_f0 := HK3.out.tail.tail.tail.tail.box.f0
  have bx_f1 := HK3.out.tail.tail.tail.tail.box.f1
  have by_c0 := HK3.out.tail.tail.tail.tail.tail.box.c0
  have by_c1 := HK3.out.tail.tail.tail.tail.tail.box.c1
  have by_f0 := HK3.out.tail.tail.tail.tail.tail.box.f0
  have by_f1 := HK3.out.tail.tail.tail.tail.tail.box.f1
  go_wp2_with fail
  go_ret
  exact ⟨by rw [← HZ.out]; rfl, HB3.out⟩

set_option maxHeartbeats 4000000 in
theorem wcmp_p {m k : Bool} {ao bo : Option Addr} {n cap l cb : Nat} {x y : Int} {w : World} (hx : Nx w m ao n cap x) (hy : Nx w k bo l cb y) (h1 : x.sign = 1) (h2 : y.sign = 1) :
    Calls Try.prog 25 #[.agg #[.bool m, .slice ao n cap], .agg #[.bool k, .slice bo l cb]] w (RetB (.int .i64 (cmpZ x y)) w) := by
  have HS : Hid (x.sign = 1) := h1
  have HT : Hid (y.sign = 1) := h2
  clear h1 h2
  have hax := zOf_abs m
  clear hax
  obtain ⟨⟨xs, hs, hz⟩, hle⟩ := id hx
  obtain ⟨⟨ys, ht, hz2⟩, hle2⟩ := id hy
  obtain ⟨c, hc⟩ : ∃ c, c = cmpN (val xs) (val ys) := ⟨_, rfl⟩
  have hc1 : -1 ≤ c := by rw [hc]; unfold cmpN; split; · omega
                          · split <;> omega
  have hc2 : c ≤ 1 := by rw [hc]; unfold cmpN; split; · omega
                         · split <;> omega
  have HZ : Hid (c = cmpZ x y) := by
    have hvx := zOf_abs m (val xs)
    have hvy := zOf_abs k (val ys)
    rw [hz] at hvx
    rw [hz2] at hvy
    have h1 := HS.out
    have h2 := HT.out
    have g1 := sign_cases x
    have g2 := sign_cases y
    have g3 := sign_cases (x - y)
    rw [Hid, hc]
    unfold cmpZ
    unfold cmpN
    split
    · omega
    · split <;> omega
  have HC := Lib.hid hc.symm
  clear hc hz hz2
  go_enter Try.func25, Try.ntmps25
  go_upto_region 1 with (fail)
  refine wp_world (fun W hW => ?_)
  have HB0 : Hid (Below w.heap.size w W) := by rw [hW]; exact step_alloc (below_alloc _ _)
  have hbx_bx : Box W (w.heap.size) m ao n cap := by rw [hW]; exact (Box.new _ _ _ _ _ _ _ (by simp)).below (below_alloc _ _)
  have hbx_by : Box W (w.heap.size + 1) k bo l cb := by rw [hW]; exact Box.new _ _ _ _ _ _ _ (by simp)
  have HK0 := Lib.hid (Live.add_num (hx.below HB0.out) (Live.add_num (hy.below HB0.out) (Live.add_sl (hs.below HB0.out) (Live.add_sl (ht.below HB0.out) (Live.add_box hbx_bx (Live.add_box hbx_by (Live.nil W)))))))
  clear hW hbx_bx hbx_by
  have bx_c0 := HK0.out.tail.tail.tail.tail.box.c0
  have bx_c1 := HK0.out.tail.tail.tail.tail.box.c1
  have bx_f0 := HK0.out.tail.tail.tail.tail.box.f0
  have bx_f1 := HK0.out.tail.tail.tail.tail.box.f1
  have by_c0 := HK0.out.tail.tail.tail.tail.tail.box.c0
  have by_c1 := HK0.out.tail.tail.tail.tail.tail.box.c1
  have by_f0 := HK0.out.tail.tail.tail.tail.tail.box.f0
  have by_f1 := HK0.out.tail.tail.tail.tail.tail.box.f1
  go_wp2_with fail
  refine (wsign_is (1) HK0.out.num HS.out).mono ?_
  rintro e w1 ⟨rfl, hB⟩
  have HK1 := Lib.hid (HK0.out.below hB)
  have HB1 := Lib.hid (Below.steps HB0.out hB)
  clear bx_c0 bx_c1 bx_f0 bx_f1 by_c0 by_c1 by_f0 by_f1
  clear HK0 HB0 hB
  have bx_c0 := HK1.out.tail.tail.tail.tail.box.c0
  have bx_c1 := HK1.out.tail.tail.tail.tail.box.c1
  have bx_f0 := HK1.out.tail.tail.tail.tail.box.f0
  have bx_f1 := HK1.out.tail.tail.tail.tail.box.f1
  have by_c0 := HK1.out.tail.tail.tail.tail.tail.box.c0
  have by_c1 := HK1.out.tail.tail.tail.tail.tail.box.c1
  have by_f0 := HK1.out.tail.tail.tail.tail.tail.box.f0
  have by_f1 := HK1.out.tail.tail.tail.tail.tail.box.f1
  go_wp2_with fail
  refine (wsign_is (1) HK1.out.tail.num HT.out).mono ?_
  rintro e w2 ⟨rfl, hB⟩
  have HK2 := Lib.hid (HK1.out.below hB)
  have HB2 := Lib.hid (Below.steps HB1.out hB)
  clear bx_c0 bx_c1 bx_f0 bx_f1 by_c0 by_c1 by_f0 by_f1
  clear HK1 HB1 hB
  have bx_c0 := HK2.out.tail.tail.tail.tail.box.c0
  have bx_c1 := HK2.out.tail.tail.tail.tail.box.c1
  have bx_f0 := HK2.out.tail.tail.tail.tail.box.f0
  have bx_f1 := HK2.out.tail.tail.tail.tail.box.f1
  have by_c0 := HK2.out.tail.tail.tail.tail.tail.box.c0
  have by_c1 := HK2.out.tail.tail.tail.tail.tail.box.c1
  have by_f0 := HK2.out.tail.tail.tail.tail.tail.box.f0
  have by_f1 := HK2.out.tail.tail.tail.tail.tail.box.f1
  go_wp2_with fail
  refine (cmp_b c _ _ _ _ _ _ _ _ _ HK2.out.tail.tail.sl HK2.out.tail.tail.tail.sl HC).mono ?_
  rintro e w3 ⟨rfl, hB⟩
  have HK3 := Lib.hid (HK2.out.below hB)
  have HB3 := Lib.hid (Below.steps HB2.out hB)
  clear bx_c0 bx_c1 bx_f0 bx_f1 by_c0 by_c1 by_f0 by_f1
  clear HK2 HB2 hB
  have bx_c0 := HK3.out.tail.tail.tail.tail.box.c0
  have bx_c1 := HK3.out.tail.tail.tail.tail.box.c1
  have bx_f0 := HK3.out.tail.tail.tail.tail.box.f0
  have bx_f1 := HK3.out.tail.tail.tail.tail.box.f1
  have by_c0 := HK3.out.tail.tail.tail.tail.tail.box.c0
  have by_c1 := HK3.out.tail.tail.tail.tail.tail.box.c1
  have by_f0 := HK3.out.tail.tail.tail.tail.tail.box.f0
  have by_f1 := HK3.out.tail.tail.tail.tail.tail.box.f1
  go_wp2_with fail
  go_ret
  exact ⟨by rw [← HZ.out]; rfl, HB3.out⟩

theorem wcmp_is (c : Int) {m k : Bool} {ao bo : Option Addr} {n cap l cb : Nat} {x y : Int} {w : World} (hx : Nx w m ao n cap x) (hy : Nx w k bo l cb y) (h : cmpZ x y = c) :
    Calls Try.prog 25 #[.agg #[.bool m, .slice ao n cap], .agg #[.bool k, .slice bo l cb]] w (RetB (.int .i64 c) w) := by
  rw [← h]
  rcases Int.lt_trichotomy x.sign y.sign with h1 | h1 | h1
  · exact wcmp_lt hx hy h1
  · rcases sign_cases x with ⟨h2, _⟩ | ⟨h2, _⟩ | ⟨h2, _⟩
    · exact wcmp_n hx hy h2 (by rw [← h1, h2])
    · exact wcmp_z hx hy h2 (by rw [← h1, h2])
    · exact wcmp_p hx hy h2 (by rw [← h1, h2])
  · exact wcmp_gt hx hy h1

end Go.Proofs.Ytponiigpmjnffaa

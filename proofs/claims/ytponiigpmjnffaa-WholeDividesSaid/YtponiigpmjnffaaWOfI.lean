/-
  The contract of whole.Of.
-/
import Derived.Test.YtponiigpmjnffaaWSign
import Derived.Test.YtponiigpmjnffaaGNatB
import Derived.Deep.Cut
set_option maxRecDepth 8192
namespace Go.Proofs.Ytponiigpmjnffaa
open Go.RowKit

set_option maxHeartbeats 1000000 in
theorem wof_p (a : Nat) (w : World) (h : a ≤ 9223372036854775807) :
    Calls Try.prog 31 #[.int .i64 ((a : Int))] w (NewI w (zOf false a)) := by
  go_enter Try.func31, Try.ntmps31
  go_upto_region 1 with (fail)
  refine wp_world (fun W hW => ?_)
  have HB0 : Hid (Below w.heap.size w W) := by rw [hW]; exact below_alloc _ _
  have hbx_br : Box W (w.heap.size) false none 0 0 := by rw [hW]; exact Box.new _ _ _ _ _ _ _ (by simp)
  have HK0 := Lib.hid (Live.add_box hbx_br (Live.nil W))
  clear hW hbx_br
  have br_c0 := HK0.out.box.c0
  have br_c1 := HK0.out.box.c1
  have br_f0 := HK0.out.box.f0
  have br_f1 := HK0.out.box.f1
  go_wp2_with fail
  refine (signed_any _ _).mono ?_
  rintro e w1 ⟨b, rfl, hb1, hb2, hbc, hB⟩
  have HK1 := Lib.hid (Live.add_fn hb2 hbc (HK0.out.below hB))
  have HB1 := Lib.hid (Below.steps HB0.out hB)
  clear br_c0 br_c1 br_f0 br_f1
  clear HK0 HB0 hb1 hbc hB
  have br_c0 := HK1.out.tail.box.c0
  have br_c1 := HK1.out.tail.box.c1
  have br_f0 := HK1.out.tail.box.f0
  have br_f1 := HK1.out.tail.box.f1
  go_wp2_with fail
  refine (small_any a _ (by omega)).mono ?_
  rintro e w2 ⟨t0, tn, tc, rfl, hT, hB⟩
  have HK2 := Lib.hid (Live.add_sl hT.sl (HK1.out.below hB))
  have HB2 := Lib.hid (Below.steps HB1.out hB)
  clear br_c0 br_c1 br_f0 br_f1
  clear HK1 HB1 hT hB
  have br_c0 := HK2.out.tail.tail.box.c0
  have br_c1 := HK2.out.tail.tail.box.c1
  have br_f0 := HK2.out.tail.tail.box.f0
  have br_f1 := HK2.out.tail.tail.box.f1
  go_wp2_with fail
  refine (close_any _ _ _ _ _ _ _ HK2.out.tail.fn HK2.out.sl).mono ?_
  rintro e w3 ⟨rm, r0, rn, rc, rfl, hX, hB⟩
  have HK3 := Lib.hid (HK2.out.below hB)
  have HB3 := Lib.hid (Below.steps HB2.out hB)
  clear br_c0 br_c1 br_f0 br_f1
  clear HK2 HB2 hB
  have br_c0 := HK3.out.tail.tail.box.c0
  have br_c1 := HK3.out.tail.tail.box.c1
  have br_f0 := HK3.out.tail.tail.box.f0
  have br_f1 := HK3.out.tail.tail.box.f1
  go_wp2_with fail
  refine bodyPost_ret (v := .agg #[.bool rm, .slice r0 rn rc]) (by simp [results, Try.results31, go_sem, br_c0, br_c1]) rfl ?_
  exact ⟨_, _, _, _, rfl, hX.set2 HK3.out.tail.tail.box _ _, below_set2 HB3.out (by omega) _ _⟩

set_option maxHeartbeats 1000000 in
theorem wof_n (a : Nat) (w : World) (h : 0 < a ∧ a ≤ 9223372036854775808) :
    Calls Try.prog 31 #[.int .i64 (-(a : Int))] w (NewI w (zOf true a)) := by
  have e1 : IntKind.u64.wrap (-((a : Nat) : Int)) = 18446744073709551616 - ((a : Nat) : Int) := by unfold IntKind.wrap; simp [IntKind.signed, IntKind.bits]; omega
  have e2 : IntKind.u64.wrap (-(18446744073709551616 - ((a : Nat) : Int))) = ((a : Nat) : Int) := by unfold IntKind.wrap; simp [IntKind.signed, IntKind.bits]; omega
  have d1 : decide (-((a : Nat) : Int) < 0) = true := by simp; omega
  have d2 : (0 : Int) < ((a : Nat) : Int) := by omega
  go_enter Try.func31, Try.ntmps31
  go_upto_region 1 with (fail)
  refine wp_world (fun W hW => ?_)
  have HB0 : Hid (Below w.heap.size w W) := by rw [hW]; exact below_alloc _ _
  have hbx_br : Box W (w.heap.size) false none 0 0 := by rw [hW]; exact Box.new _ _ _ _ _ _ _ (by simp)
  have HK0 := Lib.hid (Live.add_box hbx_br (Live.nil W))
  clear hW hbx_br
  have br_c0 := HK0.out.box.c0
  have br_c1 := HK0.out.box.c1
  have br_f0 := HK0.out.box.f0
  have br_f1 := HK0.out.box.f1
  go_wp2_with fail
  refine (signed_any _ _).mono ?_
  rintro e w1 ⟨b, rfl, hb1, hb2, hbc, hB⟩
  have HK1 := Lib.hid (Live.add_fn hb2 hbc (HK0.out.below hB))
  have HB1 := Lib.hid (Below.steps HB0.out hB)
  clear br_c0 br_c1 br_f0 br_f1
  clear HK0 HB0 hb1 hbc hB
  have br_c0 := HK1.out.tail.box.c0
  have br_c1 := HK1.out.tail.box.c1
  have br_f0 := HK1.out.tail.box.f0
  have br_f1 := HK1.out.tail.box.f1
  go_wp2_with fail
  refine (small_any a _ (by omega)).mono ?_
  rintro e w2 ⟨t0, tn, tc, rfl, hT, hB⟩
  have HK2 := Lib.hid (Live.add_sl hT.sl (HK1.out.below hB))
  have HB2 := Lib.hid (Below.steps HB1.out hB)
  clear br_c0 br_c1 br_f0 br_f1
  clear HK1 HB1 hT hB
  have br_c0 := HK2.out.tail.tail.box.c0
  have br_c1 := HK2.out.tail.tail.box.c1
  have br_f0 := HK2.out.tail.tail.box.f0
  have br_f1 := HK2.out.tail.tail.box.f1
  go_wp2_with fail
  refine (close_any _ _ _ _ _ _ _ HK2.out.tail.fn HK2.out.sl).mono ?_
  rintro e w3 ⟨rm, r0, rn, rc, rfl, hX, hB⟩
  have HK3 := Lib.hid (HK2.out.below hB)
  have HB3 := Lib.hid (Below.steps HB2.out hB)
  clear br_c0 br_c1 br_f0 br_f1
  clear HK2 HB2 hB
  have br_c0 := HK3.out.tail.tail.box.c0
  have br_c1 := HK3.out.tail.tail.box.c1
  have br_f0 := HK3.out.tail.tail.box.f0
  have br_f1 := HK3.out.tail.tail.box.f1
  go_wp2_with fail
  refine bodyPost_ret (v := .agg #[.bool rm, .slice r0 rn rc]) (by simp [results, Try.results31, go_sem, br_c0, br_c1]) rfl ?_
  exact ⟨_, _, _, _, rfl, hX.set2 HK3.out.tail.tail.box _ _, below_set2 HB3.out (by omega) _ _⟩

theorem wof_any (n : Int) (w : World) (h : -9223372036854775808 ≤ n ∧ n ≤ 9223372036854775807) :
    Calls Try.prog 31 #[.int .i64 n] w (NewI w n) := by
  by_cases h0 : n < 0
  · obtain ⟨a, rfl⟩ : ∃ a : Nat, n = -(a : Int) := ⟨n.natAbs, by omega⟩
    exact wof_n a w (by omega)
  · obtain ⟨a, rfl⟩ := Int.eq_ofNat_of_zero_le (Int.not_lt.1 h0)
    exact wof_p a w (by omega)

end Go.Proofs.Ytponiigpmjnffaa

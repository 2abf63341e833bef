/-
  The contracts of porismref04's Of, Neg, Sign, Small.
-/
import Derived.Test.YtponiigpmjnffaaWInt
import Derived.Test.YtponiigpmjnffaaGRef
import Derived.Deep.Cut
set_option maxRecDepth 8192
namespace Go.Proofs.Ytponiigpmjnffaa
open Go.RowKit

set_option maxHeartbeats 4000000 in
theorem zof_true {ao : Option Addr} {n cap : Nat} {x : Int} {w : World} (hx : Nx w true ao n cap x) :
    Calls Try.prog 12 #[.agg #[.bool true, .slice ao n cap]] w (NewZ w x) := by
  obtain ⟨⟨xs, hs, hz⟩, hle⟩ := hx
  have HZ := Lib.hid hz
  clear hz
  go_enter Try.func12, Try.ntmps12
  go_upto_region 1 with (fail)
  refine wp_world (fun W hW => ?_)
  have HB0 : Hid (Below w.heap.size w W) := by rw [hW]; exact step_alloc (below_alloc _ _)
  have hbx_bx : Box W (w.heap.size) true ao n cap := by rw [hW]; exact (Box.new _ _ _ _ _ _ _ (by simp)).below (below_alloc _ _)
  have hbx_br : Box W (w.heap.size + 1) false none 0 0 := by rw [hW]; exact Box.new _ _ _ _ _ _ _ (by simp)
  have HK0 := Lib.hid (Live.add_sl (hs.below HB0.out) (Live.add_box hbx_bx (Live.add_box hbx_br (Live.nil W))))
  clear hW hbx_bx hbx_br
  have bx_c0 := HK0.out.tail.box.c0
  have bx_c1 := HK0.out.tail.box.c1
  have bx_f0 := HK0.out.tail.box.f0
  have bx_f1 := HK0.out.tail.box.f1
  have br_c0 := HK0.out.tail.tail.box.c0
  have br_c1 := HK0.out.tail.tail.box.c1
  have br_f0 := HK0.out.tail.tail.box.f0
  have br_f1 := HK0.out.tail.tail.box.f1
  go_wp2_with fail
  refine (Dg.of_any _ _ _ _ _ HK0.out.sl (by omega)).mono ?_
  rintro e w1 ⟨d0, dn, dc, rfl, hT, hB⟩
  have HT := Lib.hid hT.sl
  have hdb := hT.big
  have HK1 := Lib.hid (HK0.out.below hB)
  have HB1 := Lib.hid (Below.steps HB0.out hB)
  clear bx_c0 bx_c1 bx_f0 bx_f1 br_c0 br_c1 br_f0 br_f1
  clear HK0 HB0 hT hB
  have bx_c0 := HK1.out.tail.box.c0
  have bx_c1 := HK1.out.tail.box.c1
  have bx_f0 := HK1.out.tail.box.f0
  have bx_f1 := HK1.out.tail.box.f1
  have br_c0 := HK1.out.tail.tail.box.c0
  have br_c1 := HK1.out.tail.tail.box.c1
  have br_f0 := HK1.out.tail.tail.box.f0
  have br_f1 := HK1.out.tail.tail.box.f1
  go_wp2_with fail
  have HC : Hid (Zd w1 (decide (0 < dn)) d0 dn dc (zOf true (val xs))) := Zd.of HT.out (by simp)
  refine bodyPost_ret (v := .agg #[.bool (decide (0 < dn)), .slice d0 dn dc]) (by simp [results, Try.results12, go_sem, br_c0, br_c1]) rfl ?_
  exact ⟨_, _, _, _, rfl, HZ.out ▸ HC.out.set2 HK1.out.tail.tail.box _ _, below_set2 HB1.out (by omega) _ _⟩

set_option maxHeartbeats 4000000 in
theorem zof_false {ao : Option Addr} {n cap : Nat} {x : Int} {w : World} (hx : Nx w false ao n cap x) :
    Calls Try.prog 12 #[.agg #[.bool false, .slice ao n cap]] w (NewZ w x) := by
  obtain ⟨⟨xs, hs, hz⟩, hle⟩ := hx
  have HZ := Lib.hid hz
  clear hz
  go_enter Try.func12, Try.ntmps12
  go_upto_region 1 with (fail)
  refine wp_world (fun W hW => ?_)
  have HB0 : Hid (Below w.heap.size w W) := by rw [hW]; exact step_alloc (below_alloc _ _)
  have hbx_bx : Box W (w.heap.size) false ao n cap := by rw [hW]; exact (Box.new _ _ _ _ _ _ _ (by simp)).below (below_alloc _ _)
  have hbx_br : Box W (w.heap.size + 1) false none 0 0 := by rw [hW]; exact Box.new _ _ _ _ _ _ _ (by simp)
  have HK0 := Lib.hid (Live.add_sl (hs.below HB0.out) (Live.add_box hbx_bx (Live.add_box hbx_br (Live.nil W))))
  clear hW hbx_bx hbx_br
  have bx_c0 := HK0.out.tail.box.c0
  have bx_c1 := HK0.out.tail.box.c1
  have bx_f0 := HK0.out.tail.box.f0
  have bx_f1 := HK0.out.tail.box.f1
  have br_c0 := HK0.out.tail.tail.box.c0
  have br_c1 := HK0.out.tail.tail.box.c1
  have br_f0 := HK0.out.tail.tail.box.f0
  have br_f1 := HK0.out.tail.tail.box.f1
  go_wp2_with fail
  refine (Dg.of_any _ _ _ _ _ HK0.out.sl (by omega)).mono ?_
  rintro e w1 ⟨d0, dn, dc, rfl, hT, hB⟩
  have HT := Lib.hid hT.sl
  have hdb := hT.big
  have HK1 := Lib.hid (HK0.out.below hB)
  have HB1 := Lib.hid (Below.steps HB0.out hB)
  clear bx_c0 bx_c1 bx_f0 bx_f1 br_c0 br_c1 br_f0 br_f1
  clear HK0 HB0 hT hB
  have bx_c0 := HK1.out.tail.box.c0
  have bx_c1 := HK1.out.tail.box.c1
  have bx_f0 := HK1.out.tail.box.f0
  have bx_f1 := HK1.out.tail.box.f1
  have br_c0 := HK1.out.tail.tail.box.c0
  have br_c1 := HK1.out.tail.tail.box.c1
  have br_f0 := HK1.out.tail.tail.box.f0
  have br_f1 := HK1.out.tail.tail.box.f1
  go_wp2_with fail
  have HC : Hid (Zd w1 (false) d0 dn dc (zOf false (val xs))) := Zd.of HT.out (by simp)
  refine bodyPost_ret (v := .agg #[.bool (false), .slice d0 dn dc]) (by simp [results, Try.results12, go_sem, br_c0, br_c1]) rfl ?_
  exact ⟨_, _, _, _, rfl, HZ.out ▸ HC.out.set2 HK1.out.tail.tail.box _ _, below_set2 HB1.out (by omega) _ _⟩

theorem zof_any {m : Bool} {ao : Option Addr} {n cap : Nat} {x : Int} {w : World} (hx : Nx w m ao n cap x) :
    Calls Try.prog 12 #[.agg #[.bool m, .slice ao n cap]] w (NewZ w x) := by
  cases m
  · exact zof_false hx
  · exact zof_true hx

set_option maxHeartbeats 4000000 in
theorem zneg_true {ao : Option Addr} {n cap : Nat} {x : Int} {w : World} (hx : Zx w true ao n cap x) :
    Calls Try.prog 22 #[.agg #[.bool true, .slice ao n cap]] w (NewZ w (-x)) := by
  have HV : Hid (zOf true x.natAbs = x) := hx.zd.val
  have hdb := hx.zd.sl.big
  go_enter Try.func22, Try.ntmps22
  go_upto_region 1 with (fail)
  refine wp_world (fun W hW => ?_)
  have HB0 : Hid (Below w.heap.size w W) := by rw [hW]; exact step_alloc (below_alloc _ _)
  have hbx_bx : Box W (w.heap.size) true ao n cap := by rw [hW]; exact (Box.new _ _ _ _ _ _ _ (by simp)).below (below_alloc _ _)
  have hbx_br : Box W (w.heap.size + 1) false none 0 0 := by rw [hW]; exact Box.new _ _ _ _ _ _ _ (by simp)
  have HK0 := Lib.hid (Live.add_zed (hx.below HB0.out) (Live.add_box hbx_bx (Live.add_box hbx_br (Live.nil W))))
  clear hW hbx_bx hbx_br
  have bx_c0 := HK0.out.tail.box.c0
  have bx_c1 := HK0.out.tail.box.c1
  have bx_f0 := HK0.out.tail.box.f0
  have bx_f1 := HK0.out.tail.box.f1
  have br_c0 := HK0.out.tail.tail.box.c0
  have br_c1 := HK0.out.tail.tail.box.c1
  have br_f0 := HK0.out.tail.tail.box.f0
  have br_f1 := HK0.out.tail.tail.box.f1
  go_wp2_with fail
  have HC : Hid (Zd W (false) ao n cap (zOf (!true) x.natAbs)) := Zd.of HK0.out.zed.zd.sl (by simp)
  refine bodyPost_ret (v := .agg #[.bool (false), .slice ao n cap]) (by simp [results, Try.results22, go_sem, br_c0, br_c1]) rfl ?_
  exact ⟨_, _, _, _, rfl, (show zOf (!true) x.natAbs = -x from by rw [zOf_not, HV.out]) ▸ HC.out.set2 HK0.out.tail.tail.box _ _, below_set2 HB0.out (by omega) _ _⟩

set_option maxHeartbeats 4000000 in
theorem zneg_false {ao : Option Addr} {n cap : Nat} {x : Int} {w : World} (hx : Zx w false ao n cap x) :
    Calls Try.prog 22 #[.agg #[.bool false, .slice ao n cap]] w (NewZ w (-x)) := by
  have HV : Hid (zOf false x.natAbs = x) := hx.zd.val
  have hdb := hx.zd.sl.big
  go_enter Try.func22, Try.ntmps22
  go_upto_region 1 with (fail)
  refine wp_world (fun W hW => ?_)
  have HB0 : Hid (Below w.heap.size w W) := by rw [hW]; exact step_alloc (below_alloc _ _)
  have hbx_bx : Box W (w.heap.size) false ao n cap := by rw [hW]; exact (Box.new _ _ _ _ _ _ _ (by simp)).below (below_alloc _ _)
  have hbx_br : Box W (w.heap.size + 1) false none 0 0 := by rw [hW]; exact Box.new _ _ _ _ _ _ _ (by simp)
  have HK0 := Lib.hid (Live.add_zed (hx.below HB0.out) (Live.add_box hbx_bx (Live.add_box hbx_br (Live.nil W))))
  clear hW hbx_bx hbx_br
  have bx_c0 := HK0.out.tail.box.c0
  have bx_c1 := HK0.out.tail.box.c1
  have bx_f0 := HK0.out.tail.box.f0
  have bx_f1 := HK0.out.tail.box.f1
  have br_c0 := HK0.out.tail.tail.box.c0
  have br_c1 := HK0.out.tail.tail.box.c1
  have br_f0 := HK0.out.tail.tail.box.f0
  have br_f1 := HK0.out.tail.tail.box.f1
  go_wp2_with fail
  have HC : Hid (Zd W (decide (0 < n)) ao n cap (zOf (!false) x.natAbs)) := Zd.of HK0.out.zed.zd.sl (by simp)
  refine bodyPost_ret (v := .agg #[.bool (decide (0 < n)), .slice ao n cap]) (by simp [results, Try.results22, go_sem, br_c0, br_c1]) rfl ?_
  exact ⟨_, _, _, _, rfl, (show zOf (!false) x.natAbs = -x from by rw [zOf_not, HV.out]) ▸ HC.out.set2 HK0.out.tail.tail.box _ _, below_set2 HB0.out (by omega) _ _⟩

theorem zneg_any {m : Bool} {ao : Option Addr} {n cap : Nat} {x : Int} {w : World} (hx : Zx w m ao n cap x) :
    Calls Try.prog 22 #[.agg #[.bool m, .slice ao n cap]] w (NewZ w (-x)) := by
  cases m
  · exact zneg_false hx
  · exact zneg_true hx

set_option maxHeartbeats 4000000 in
theorem zsign_z {m : Bool} {ao : Option Addr} {n cap : Nat} {x : Int} {w : World} (hx : Zx w m ao n cap x) (h0 : x = 0) :
    Calls Try.prog 24 #[.agg #[.bool m, .slice ao n cap]] w (RetB (.int .i64 0) w) := by
  have hdb := hx.zd.sl.big
  obtain rfl : n = 0 := hx.zd.zero.2 h0
  go_enter Try.func24, Try.ntmps24
  go_upto_region 1 with (fail)
  refine wp_world (fun W hW => ?_)
  have HB0 : Hid (Below w.heap.size w W) := by rw [hW]; exact below_alloc _ _
  have hbx_bx : Box W (w.heap.size) m ao 0 cap := by rw [hW]; exact Box.new _ _ _ _ _ _ _ (by simp)
  have HK0 := Lib.hid (Live.add_zed (hx.below HB0.out) (Live.add_box hbx_bx (Live.nil W)))
  clear hW hbx_bx
  have bx_c0 := HK0.out.tail.box.c0
  have bx_c1 := HK0.out.tail.box.c1
  have bx_f0 := HK0.out.tail.box.f0
  have bx_f1 := HK0.out.tail.box.f1
  go_wp2_with fail
  go_ret
  exact ⟨rfl, HB0.out⟩

set_option maxHeartbeats 4000000 in
theorem zsign_n {m : Bool} {ao : Option Addr} {n cap : Nat} {x : Int} {w : World} (hx : Zx w m ao n cap x) (h0 : x < 0) :
    Calls Try.prog 24 #[.agg #[.bool m, .slice ao n cap]] w (RetB (.int .i64 (-1)) w) := by
  have hdb := hx.zd.sl.big
  obtain rfl : m = true := by rw [hx.zd.neg]; simpa using h0
  have hq : (((n : Nat) : Int) == 0) = false := by have := hx.zd.pos; simp; omega
  go_enter Try.func24, Try.ntmps24
  go_upto_region 1 with (fail)
  refine wp_world (fun W hW => ?_)
  have HB0 : Hid (Below w.heap.size w W) := by rw [hW]; exact below_alloc _ _
  have hbx_bx : Box W (w.heap.size) true ao n cap := by rw [hW]; exact Box.new _ _ _ _ _ _ _ (by simp)
  have HK0 := Lib.hid (Live.add_zed (hx.below HB0.out) (Live.add_box hbx_bx (Live.nil W)))
  clear hW hbx_bx
  have bx_c0 := HK0.out.tail.box.c0
  have bx_c1 := HK0.out.tail.box.c1
  have bx_f0 := HK0.out.tail.box.f0
  have bx_f1 := HK0.out.tail.box.f1
  go_wp2_with fail
  go_ret
  exact ⟨rfl, HB0.out⟩

set_option maxHeartbeats 4000000 in
theorem zsign_p {m : Bool} {ao : Option Addr} {n cap : Nat} {x : Int} {w : World} (hx : Zx w m ao n cap x) (h0 : 0 < x) :
    Calls Try.prog 24 #[.agg #[.bool m, .slice ao n cap]] w (RetB (.int .i64 1) w) := by
  have hdb := hx.zd.sl.big
  obtain rfl : m = false := by rw [hx.zd.neg]; simp; omega
  have hq : (((n : Nat) : Int) == 0) = false := by have h9 : n ≠ 0 := (fun h => by have := hx.zd.zero.1 h; omega); simp; omega
  go_enter Try.func24, Try.ntmps24
  go_upto_region 1 with (fail)
  refine wp_world (fun W hW => ?_)
  have HB0 : Hid (Below w.heap.size w W) := by rw [hW]; exact below_alloc _ _
  have hbx_bx : Box W (w.heap.size) false ao n cap := by rw [hW]; exact Box.new _ _ _ _ _ _ _ (by simp)
  have HK0 := Lib.hid (Live.add_zed (hx.below HB0.out) (Live.add_box hbx_bx (Live.nil W)))
  clear hW hbx_bx
  have bx_c0 := HK0.out.tail.box.c0
  have bx_c1 := HK0.out.tail.box.c1
  have bx_f0 := HK0.out.tail.box.f0
  have bx_f1 := HK0.out.tail.box.f1
  go_wp2_with fail
  go_ret
  exact ⟨rfl, HB0.out⟩

theorem zsign_is (s : Int) {m : Bool} {ao : Option Addr} {n cap : Nat} {x : Int} {w : World} (hx : Zx w m ao n cap x) (h : x.sign = s) :
    Calls Try.prog 24 #[.agg #[.bool m, .slice ao n cap]] w (RetB (.int .i64 s) w) := by
  rcases Int.lt_trichotomy x 0 with h0 | h0 | h0
  · rw [Int.sign_eq_neg_one_of_neg h0] at h; rw [← h]; exact zsign_n hx h0
  · rw [h0, Int.sign_zero] at h; rw [← h]; exact zsign_z hx h0
  · rw [Int.sign_eq_one_of_pos h0] at h; rw [← h]; exact zsign_p hx h0

set_option maxHeartbeats 4000000 in
theorem zsmall_p (a : Nat) (w : World) (h : a ≤ 9223372036854775807) :
    Calls Try.prog 30 #[.int .i64 (a : Int)] w (NewZ w (zOf false a)) := by
  have HA : Hid (a ≤ 18446744073709551615) := by rw [Hid]; omega
  go_enter Try.func30, Try.ntmps30
  go_upto_region 1 with (fail)
  refine wp_world (fun W hW => ?_)
  have HB0 : Hid (Below w.heap.size w W) := by rw [hW]; exact below_alloc _ _
  have hbx_br : Box W (w.heap.size) false none 0 0 := by rw [hW]; exact Box.new _ _ _ _ _ _ _ (by simp)
  have HK0 := Lib.hid (Live.add_box hbx_br (Live.nil W))
  clear hW hbx_br
  have br_c0 := HK0.out.box.c0
  have br_c1 := HK0.out.box.c1
  have br_f0 := HK0.out.box.f0
  have br_f1 := HK0.out.box.f1
  go_wp2_with fail
  refine (Dg.small_any a _ HA).mono ?_
  rintro e w1 ⟨d0, dn, dc, rfl, hT, hB⟩
  have HT := Lib.hid hT.sl
  have HK1 := Lib.hid (HK0.out.below hB)
  have HB1 := Lib.hid (Below.steps HB0.out hB)
  clear br_c0 br_c1 br_f0 br_f1
  clear HK0 HB0 hT hB
  have br_c0 := HK1.out.box.c0
  have br_c1 := HK1.out.box.c1
  have br_f0 := HK1.out.box.f0
  have br_f1 := HK1.out.box.f1
  go_wp2_with fail
  have HC : Hid (Zd w1 false d0 dn dc (zOf false a)) := Zd.of HT.out (by simp)
  refine bodyPost_ret (v := .agg #[.bool false, .slice d0 dn dc]) (by simp [results, Try.results30, go_sem, br_c0, br_c1]) rfl ?_
  exact ⟨_, _, _, _, rfl, HC.out.set2 HK1.out.box _ _, below_set2 HB1.out (by omega) _ _⟩

set_option maxHeartbeats 4000000 in
theorem zsmall_n (a : Nat) (w : World) (h : a < 9223372036854775808) :
    Calls Try.prog 30 #[.int .i64 (-((a + 1 : Nat) : Int))] w (NewZ w (zOf true (a + 1))) := by
  have HA : Hid (a ≤ 18446744073709551615) := by rw [Hid]; omega
  have d1 : decide (0 ≤ -(((a + 1 : Nat)) : Int)) = false := by simp
  go_enter Try.func30, Try.ntmps30
  go_upto_region 1 with (fail)
  refine wp_world (fun W hW => ?_)
  have HB0 : Hid (Below w.heap.size w W) := by rw [hW]; exact below_alloc _ _
  have hbx_br : Box W (w.heap.size) false none 0 0 := by rw [hW]; exact Box.new _ _ _ _ _ _ _ (by simp)
  have HK0 := Lib.hid (Live.add_box hbx_br (Live.nil W))
  clear hW hbx_br
  have br_c0 := HK0.out.box.c0
  have br_c1 := HK0.out.box.c1
  have br_f0 := HK0.out.box.f0
  have br_f1 := HK0.out.box.f1
  go_wp2_with fail
  simp only [show -(-(((a : Nat) : Int) + 1) + 1) = ((a : Nat) : Int) from by omega]
  refine (Dg.small_any a _ HA).mono ?_
  rintro e w1 ⟨d0, dn, dc, rfl, hT, hB⟩
  have HT := Lib.hid hT.sl
  have HTL : Hid (dn ≤ 1000000) := (by rw [Hid, ← hT.len]; exact Nat.le_trans (Dg.limbs_len (k := 20) (by omega)) (by omega))
  have HK1 := Lib.hid (HK0.out.below hB)
  have HB1 := Lib.hid (Below.steps HB0.out hB)
  clear br_c0 br_c1 br_f0 br_f1
  clear HK0 HB0 hT hB
  have br_c0 := HK1.out.box.c0
  have br_c1 := HK1.out.box.c1
  have br_f0 := HK1.out.box.f0
  have br_f1 := HK1.out.box.f1
  go_wp2_with fail
  have hsz1 : Hid (Dg.Sl (w1.alloc (.cells #[.int .i64 1] 3)) (some ⟨w1.heap.size, 0, none⟩) 1 1 [1]) := (Dg.Own.lit w1 [1] (by simp) (by simp)).sl
  refine (Dg.add_any _ _ _ _ _ _ _ _ _ (HT.out.below (below_alloc _ _)) hsz1.out (by have := HTL.out; omega) (by omega)).mono ?_
  rintro e w2 ⟨f0, fn, fc, rfl, hU, hB⟩
  rw [Dg.val_limbs] at hU
  have HU := Lib.hid hU.sl
  have hfb := hU.len
  have HK2 := Lib.hid (HK1.out.below (step_alloc hB))
  have HB2 := Lib.hid (Below.steps HB1.out (step_alloc hB))
  clear br_c0 br_c1 br_f0 br_f1
  clear HK1 HB1 hU hB
  have br_c0 := HK2.out.box.c0
  have br_c1 := HK2.out.box.c1
  have br_f0 := HK2.out.box.f0
  have br_f1 := HK2.out.box.f1
  go_wp2_with fail
  clear hfb
  have HC : Hid (Zd w2 true f0 fn fc (zOf true (a + 1))) := by
    refine ⟨by rw [zOf_neg]; simp, ?_⟩
    rw [zOf_abs]
    have := HU.out
    simpa [Dg.val] using this
  refine bodyPost_ret (v := .agg #[.bool true, .slice f0 fn fc]) (by simp [results, Try.results30, go_sem, br_c0, br_c1]) rfl ?_
  exact ⟨_, _, _, _, rfl, HC.out.set2 HK2.out.box _ _, below_set2 HB2.out (by omega) _ _⟩

theorem zsmall_any (n : Int) (w : World) (h : -9223372036854775808 ≤ n ∧ n ≤ 9223372036854775807) :
    Calls Try.prog 30 #[.int .i64 n] w (NewZ w n) := by
  by_cases h0 : n < 0
  · obtain ⟨a, rfl⟩ : ∃ a : Nat, n = -((a + 1 : Nat) : Int) := ⟨n.natAbs - 1, by omega⟩
    exact zsmall_n a w (by omega)
  · obtain ⟨a, rfl⟩ := Int.eq_ofNat_of_zero_le (Int.not_lt.1 h0)
    exact zsmall_p a w (by omega)

end Go.Proofs.Ytponiigpmjnffaa

/- WZOf, WZInt, WZSame, WZMul -/
import Derived.Test.YtmmgipcacceakaaGreatGWInt
import Derived.Deep.Cut
set_option maxHeartbeats 40000000
set_option maxRecDepth 100000
namespace Go.Proofs.YtmmgipcacceakaaGreat
open Lib (hid)
open Go.RowKit
theorem zof_true [Ol] {ao : Option Addr} {n cap : Nat} {x : Int} {w : World} (hx : Nx w true ao n cap x) :
  Calls Tryz.prog 71 #[.agg #[.bool true, .slice ao n cap]] w (NewZ w x) := by
 obtain ⟨⟨xs, hs, hz⟩, hle⟩ := hx; have HZ := hid hz; clear hz
 go_enter Tryz.func71, Tryz.ntmps71
 go_upto_region 1 with (fail)
 refine wp_world (fun W hW => ?_)
 have HB0 : Hid (Below w.heap.size w W) := by rw [hW]; exact step_alloc (below_alloc _ _)
 have hbx_bx : Box W (w.heap.size) true ao n cap := by rw [hW]; exact (Box.new _ _ _ _ _ _ _ (by simp)).below (below_alloc _ _)
 have hbx_br : Box W (w.heap.size + 1) false none 0 0 := by rw [hW]; exact Box.new _ _ _ _ _ _ _ (by simp)
 have HK0 := hid (Live.add_sl (hs.below HB0.out) (Live.add_box hbx_bx (Live.add_box hbx_br (Live.nil W)))); clear hW hbx_bx hbx_br; have bx_c0 := HK0.out.tl.box.c0; have bx_c1 := HK0.out.tl.box.c1; have bx_f0 := HK0.out.tl.box.f0; have bx_f1 := HK0.out.tl.box.f1; have br_c0 := HK0.out.tl.tl.box.c0; have br_c1 := HK0.out.tl.tl.box.c1; have br_f0 := HK0.out.tl.tl.box.f0; have br_f1 := HK0.out.tl.tl.box.f1; go_wp2_with fail
 refine (Dg.of_any _ _ _ _ _ HK0.out.sl (by omega)).mono ?_
 rintro e w1 ⟨d0, dn, dc, rfl, hT, hB⟩; have HT := hid hT.sl; have hdb := hT.big; have HK1 := hid (HK0.out.below hB); have HB1 := hid (Below.steps HB0.out hB); clear bx_c0 bx_c1 bx_f0 bx_f1 br_c0 br_c1 br_f0 br_f1; clear HK0 HB0 hT hB; have bx_c0 := HK1.out.tl.box.c0; have bx_c1 := HK1.out.tl.box.c1; have bx_f0 := HK1.out.tl.box.f0; have bx_f1 := HK1.out.tl.box.f1; have br_c0 := HK1.out.tl.tl.box.c0; have br_c1 := HK1.out.tl.tl.box.c1; have br_f0 := HK1.out.tl.tl.box.f0; have br_f1 := HK1.out.tl.tl.box.f1
 go_wp2_with fail
 have HC : Hid (Zd w1 (decide (0 < dn)) d0 dn dc (zOf true (val xs))) := Zd.of HT.out (by simp)
 refine bodyPost_ret (v := .agg #[.bool (decide (0 < dn)), .slice d0 dn dc]) (by simp [results, Tryz.results71, go_sem, br_c0, br_c1]) rfl ?_
 exact ⟨_, _, _, _, rfl, HZ.out ▸ HC.out.set2 HK1.out.tl.tl.box _ _, below_set2 HB1.out (by omega) _ _⟩
theorem zof_false [Ol] {ao : Option Addr} {n cap : Nat} {x : Int} {w : World} (hx : Nx w false ao n cap x) :
  Calls Tryz.prog 71 #[.agg #[.bool false, .slice ao n cap]] w (NewZ w x) := by
 obtain ⟨⟨xs, hs, hz⟩, hle⟩ := hx; have HZ := hid hz; clear hz
 go_enter Tryz.func71, Tryz.ntmps71
 go_upto_region 1 with (fail)
 refine wp_world (fun W hW => ?_)
 have HB0 : Hid (Below w.heap.size w W) := by rw [hW]; exact step_alloc (below_alloc _ _)
 have hbx_bx : Box W (w.heap.size) false ao n cap := by rw [hW]; exact (Box.new _ _ _ _ _ _ _ (by simp)).below (below_alloc _ _)
 have hbx_br : Box W (w.heap.size + 1) false none 0 0 := by rw [hW]; exact Box.new _ _ _ _ _ _ _ (by simp)
 have HK0 := hid (Live.add_sl (hs.below HB0.out) (Live.add_box hbx_bx (Live.add_box hbx_br (Live.nil W)))); clear hW hbx_bx hbx_br; have bx_c0 := HK0.out.tl.box.c0; have bx_c1 := HK0.out.tl.box.c1; have bx_f0 := HK0.out.tl.box.f0; have bx_f1 := HK0.out.tl.box.f1; have br_c0 := HK0.out.tl.tl.box.c0; have br_c1 := HK0.out.tl.tl.box.c1; have br_f0 := HK0.out.tl.tl.box.f0; have br_f1 := HK0.out.tl.tl.box.f1; go_wp2_with fail
 refine (Dg.of_any _ _ _ _ _ HK0.out.sl (by omega)).mono ?_
 rintro e w1 ⟨d0, dn, dc, rfl, hT, hB⟩; have HT := hid hT.sl; have hdb := hT.big; have HK1 := hid (HK0.out.below hB); have HB1 := hid (Below.steps HB0.out hB); clear bx_c0 bx_c1 bx_f0 bx_f1 br_c0 br_c1 br_f0 br_f1; clear HK0 HB0 hT hB; have bx_c0 := HK1.out.tl.box.c0; have bx_c1 := HK1.out.tl.box.c1; have bx_f0 := HK1.out.tl.box.f0; have bx_f1 := HK1.out.tl.box.f1; have br_c0 := HK1.out.tl.tl.box.c0; have br_c1 := HK1.out.tl.tl.box.c1; have br_f0 := HK1.out.tl.tl.box.f0; have br_f1 := HK1.out.tl.tl.box.f1
 go_wp2_with fail
 have HC : Hid (Zd w1 (false) d0 dn dc (zOf false (val xs))) := Zd.of HT.out (by simp)
 refine bodyPost_ret (v := .agg #[.bool (false), .slice d0 dn dc]) (by simp [results, Tryz.results71, go_sem, br_c0, br_c1]) rfl ?_
 exact ⟨_, _, _, _, rfl, HZ.out ▸ HC.out.set2 HK1.out.tl.tl.box _ _, below_set2 HB1.out (by omega) _ _⟩
theorem zof_any [Ol] {m : Bool} {ao : Option Addr} {n cap : Nat} {x : Int} {w : World} (hx : Nx w m ao n cap x) :
  Calls Tryz.prog 71 #[.agg #[.bool m, .slice ao n cap]] w (NewZ w x) := by
 cases m
 ·exact zof_false hx
 ·exact zof_true hx
theorem zsign_z [Ol] {m : Bool} {ao : Option Addr} {n cap : Nat} {x : Int} {w : World} (hx : Zx w m ao n cap x) (h0 : x = 0) :
  Calls Tryz.prog 91 #[.agg #[.bool m, .slice ao n cap]] w (RetB (.int .i64 0) w) := by
 have hdb := hx.zd.sl.big; obtain rfl : n = 0 := hx.zd.zero.2 h0
 go_enter Tryz.func91, Tryz.ntmps91
 go_upto_region 1 with (fail)
 refine wp_world (fun W hW => ?_)
 have HB0 : Hid (Below w.heap.size w W) := by rw [hW]; exact below_alloc _ _
 have hbx_bx : Box W (w.heap.size) m ao 0 cap := by rw [hW]; exact Box.new _ _ _ _ _ _ _ (by simp)
 have HK0 := hid (Live.add_zed (hx.below HB0.out) (Live.add_box hbx_bx (Live.nil W))); clear hW hbx_bx; have bx_c0 := HK0.out.tl.box.c0; have bx_c1 := HK0.out.tl.box.c1; have bx_f0 := HK0.out.tl.box.f0; have bx_f1 := HK0.out.tl.box.f1; go_wp2_with fail
 go_ret
 exact ⟨rfl, HB0.out⟩
theorem zsign_n [Ol] {m : Bool} {ao : Option Addr} {n cap : Nat} {x : Int} {w : World} (hx : Zx w m ao n cap x) (h0 : x < 0) :
  Calls Tryz.prog 91 #[.agg #[.bool m, .slice ao n cap]] w (RetB (.int .i64 (-1)) w) := by
 have hdb := hx.zd.sl.big
 obtain rfl : m = true := by rw [hx.zd.neg]; simpa using h0
 have hq : (((n : Nat) : Int) == 0) = false := by have := hx.zd.pos; simp; omega
 go_enter Tryz.func91, Tryz.ntmps91
 go_upto_region 1 with (fail)
 refine wp_world (fun W hW => ?_)
 have HB0 : Hid (Below w.heap.size w W) := by rw [hW]; exact below_alloc _ _
 have hbx_bx : Box W (w.heap.size) true ao n cap := by rw [hW]; exact Box.new _ _ _ _ _ _ _ (by simp)
 have HK0 := hid (Live.add_zed (hx.below HB0.out) (Live.add_box hbx_bx (Live.nil W))); clear hW hbx_bx; have bx_c0 := HK0.out.tl.box.c0; have bx_c1 := HK0.out.tl.box.c1; have bx_f0 := HK0.out.tl.box.f0; have bx_f1 := HK0.out.tl.box.f1; go_wp2_with fail
 go_ret
 exact ⟨rfl, HB0.out⟩
theorem zsign_p [Ol] {m : Bool} {ao : Option Addr} {n cap : Nat} {x : Int} {w : World} (hx : Zx w m ao n cap x) (h0 : 0 < x) :
  Calls Tryz.prog 91 #[.agg #[.bool m, .slice ao n cap]] w (RetB (.int .i64 1) w) := by
 have hdb := hx.zd.sl.big
 obtain rfl : m = false := by rw [hx.zd.neg]; simp; omega
 have hq : (((n : Nat) : Int) == 0) = false := by have h9 : n ≠ 0 := (fun h => by have := hx.zd.zero.1 h; omega); simp; omega
 go_enter Tryz.func91, Tryz.ntmps91
 go_upto_region 1 with (fail)
 refine wp_world (fun W hW => ?_)
 have HB0 : Hid (Below w.heap.size w W) := by rw [hW]; exact below_alloc _ _
 have hbx_bx : Box W (w.heap.size) false ao n cap := by rw [hW]; exact Box.new _ _ _ _ _ _ _ (by simp)
 have HK0 := hid (Live.add_zed (hx.below HB0.out) (Live.add_box hbx_bx (Live.nil W))); clear hW hbx_bx; have bx_c0 := HK0.out.tl.box.c0; have bx_c1 := HK0.out.tl.box.c1; have bx_f0 := HK0.out.tl.box.f0; have bx_f1 := HK0.out.tl.box.f1; go_wp2_with fail
 go_ret
 exact ⟨rfl, HB0.out⟩
theorem zsign_is [Ol] (s : Int) {m : Bool} {ao : Option Addr} {n cap : Nat} {x : Int} {w : World} (hx : Zx w m ao n cap x) (h : x.sign = s) :
  Calls Tryz.prog 91 #[.agg #[.bool m, .slice ao n cap]] w (RetB (.int .i64 s) w) := by
 rcases Int.lt_trichotomy x 0 with h0 | h0 | h0
 ·rw [Int.sign_eq_neg_one_of_neg h0] at h; rw [← h]; exact zsign_n hx h0
 ·rw [h0, Int.sign_zero] at h; rw [← h]; exact zsign_z hx h0
 ·rw [Int.sign_eq_one_of_pos h0] at h; rw [← h]; exact zsign_p hx h0
theorem zsmall_p [Ol] (a : Nat) (w : World) (h : a ≤ 9223372036854775807) :
  Calls Tryz.prog 59 #[.int .i64 (a : Int)] w (NewZ w (zOf false a)) := by
 have HA : Hid (a ≤ 18446744073709551615) := by rw [Hid]; omega
 go_enter Tryz.func59, Tryz.ntmps59
 go_upto_region 1 with (fail)
 refine wp_world (fun W hW => ?_)
 have HB0 : Hid (Below w.heap.size w W) := by rw [hW]; exact below_alloc _ _
 have hbx_br : Box W (w.heap.size) false none 0 0 := by rw [hW]; exact Box.new _ _ _ _ _ _ _ (by simp)
 have HK0 := hid (Live.add_box hbx_br (Live.nil W)); clear hW hbx_br; have br_c0 := HK0.out.box.c0; have br_c1 := HK0.out.box.c1; have br_f0 := HK0.out.box.f0; have br_f1 := HK0.out.box.f1; go_wp2_with fail; refine (Dg.small_any a _ HA).mono ?_; rintro e w1 ⟨d0, dn, dc, rfl, hT, hB⟩; have HT := hid hT.sl; have HK1 := hid (HK0.out.below hB); have HB1 := hid (Below.steps HB0.out hB); clear br_c0 br_c1 br_f0 br_f1; clear HK0 HB0 hT hB; have br_c0 := HK1.out.box.c0; have br_c1 := HK1.out.box.c1; have br_f0 := HK1.out.box.f0
 have br_f1 := HK1.out.box.f1; go_wp2_with fail
 have HC : Hid (Zd w1 false d0 dn dc (zOf false a)) := Zd.of HT.out (by simp)
 refine bodyPost_ret (v := .agg #[.bool false, .slice d0 dn dc]) (by simp [results, Tryz.results59, go_sem, br_c0, br_c1]) rfl ?_
 exact ⟨_, _, _, _, rfl, HC.out.set2 HK1.out.box _ _, below_set2 HB1.out (by omega) _ _⟩
theorem zsmall_n [Ol] (a : Nat) (w : World) (h : a < 9223372036854775808) :
  Calls Tryz.prog 59 #[.int .i64 (-((a + 1 : Nat) : Int))] w (NewZ w (zOf true (a + 1))) := by
 have HA : Hid (a ≤ 18446744073709551615) := by rw [Hid]; omega
 have d1 : decide (0 ≤ -(((a + 1 : Nat)) : Int)) = false := by simp
 go_enter Tryz.func59, Tryz.ntmps59
 go_upto_region 1 with (fail)
 refine wp_world (fun W hW => ?_)
 have HB0 : Hid (Below w.heap.size w W) := by rw [hW]; exact below_alloc _ _
 have hbx_br : Box W (w.heap.size) false none 0 0 := by rw [hW]; exact Box.new _ _ _ _ _ _ _ (by simp)
 have HK0 := hid (Live.add_box hbx_br (Live.nil W)); clear hW hbx_br; have br_c0 := HK0.out.box.c0; have br_c1 := HK0.out.box.c1; have br_f0 := HK0.out.box.f0; have br_f1 := HK0.out.box.f1; go_wp2_with fail
 simp only [show -(-(((a : Nat) : Int) + 1) + 1) = ((a : Nat) : Int) from by omega]
 refine (Dg.small_any a _ HA).mono ?_; rintro e w1 ⟨d0, dn, dc, rfl, hT, hB⟩
 have HT := hid hT.sl
 have HTL : Hid (dn ≤ 1000000) := (by rw [Hid, ← hT.len]; exact Nat.le_trans (Dg.limbs_len (k := 20) (by omega)) (by omega))
 have HK1 := hid (HK0.out.below hB); have HB1 := hid (Below.steps HB0.out hB); clear br_c0 br_c1 br_f0 br_f1; clear HK0 HB0 hT hB; have br_c0 := HK1.out.box.c0; have br_c1 := HK1.out.box.c1; have br_f0 := HK1.out.box.f0; have br_f1 := HK1.out.box.f1; go_wp2_with fail
 have hsz1 : Hid (Dg.Sl (w1.alloc (.cells #[.int .i64 1] 3)) (some ⟨w1.heap.size, 0, none⟩) 1 1 [1]) := (Dg.Own.lit w1 [1] (by simp) (by simp)).sl
 refine (Dg.add_any _ _ _ _ _ _ _ _ _ (HT.out.below (below_alloc _ _)) hsz1.out (by have := HTL.out; omega) (by omega)).mono ?_
 rintro e w2 ⟨f0, fn, fc, rfl, hU, hB⟩; rw [Dg.val_limbs] at hU; have HU := hid hU.sl; have hfb := hU.len; have HK2 := hid (HK1.out.below (step_alloc hB)); have HB2 := hid (Below.steps HB1.out (step_alloc hB)); clear br_c0 br_c1 br_f0 br_f1; clear HK1 HB1 hU hB; have br_c0 := HK2.out.box.c0; have br_c1 := HK2.out.box.c1; have br_f0 := HK2.out.box.f0; have br_f1 := HK2.out.box.f1; go_wp2_with fail; clear hfb
 have HC : Hid (Zd w2 true f0 fn fc (zOf true (a + 1))) := by
  refine ⟨by rw [zOf_neg]; simp, ?_⟩
  rw [zOf_abs]
  have := HU.out
  simpa [Dg.val] using this
 refine bodyPost_ret (v := .agg #[.bool true, .slice f0 fn fc]) (by simp [results, Tryz.results59, go_sem, br_c0, br_c1]) rfl ?_
 exact ⟨_, _, _, _, rfl, HC.out.set2 HK2.out.box _ _, below_set2 HB2.out (by omega) _ _⟩
theorem zsmall_any [Ol] (n : Int) (w : World) (h : -9223372036854775808 ≤ n ∧ n ≤ 9223372036854775807) :
  Calls Tryz.prog 59 #[.int .i64 n] w (NewZ w n) := by
 by_cases h0 : n < 0
 ·obtain ⟨a, rfl⟩ : ∃ a : Nat, n = -((a + 1 : Nat) : Int) := ⟨n.natAbs - 1, by omega⟩
  exact zsmall_n a w (by omega)
 ·obtain ⟨a, rfl⟩ := Int.eq_ofNat_of_zero_le (Int.not_lt.1 h0)
  exact zsmall_p a w (by omega)
open Lib (hid)
theorem zint_true [Ol] {ao : Option Addr} {n cap : Nat} {x : Int} {w : World} (hx : Zx w true ao n cap x) :
  Calls Tryz.prog 41 #[.agg #[.bool true, .slice ao n cap]] w (NewI w x) := by
 have HV : Hid (zOf true x.natAbs = x) := hx.zd.val
 have hle := hx.le; have hn := hx.zd.pos
 go_enter Tryz.func41, Tryz.ntmps41
 go_upto_region 1 with (fail)
 refine wp_world (fun W hW => ?_)
 have HB0 : Hid (Below w.heap.size w W) := by rw [hW]; exact step_alloc (below_alloc _ _)
 have hbx_bx : Box W (w.heap.size) true ao n cap := by rw [hW]; exact (Box.new _ _ _ _ _ _ _ (by simp)).below (below_alloc _ _)
 have hbx_br : Box W (w.heap.size + 1) false none 0 0 := by rw [hW]; exact Box.new _ _ _ _ _ _ _ (by simp)
 have HK0 := hid (Live.add_zed (hx.below HB0.out) (Live.add_box hbx_bx (Live.add_box hbx_br (Live.nil W)))); clear hW hbx_bx hbx_br; have bx_c0 := HK0.out.tl.box.c0; have bx_c1 := HK0.out.tl.box.c1; have bx_f0 := HK0.out.tl.box.f0; have bx_f1 := HK0.out.tl.box.f1; have br_c0 := HK0.out.tl.tl.box.c0; have br_c1 := HK0.out.tl.tl.box.c1; have br_f0 := HK0.out.tl.tl.box.f0; have br_f1 := HK0.out.tl.tl.box.f1; have HK0d := hid (HK0.out.below ((Below.refl _ _).drew)); have HB0d := hid HB0.out.drew; clear bx_c0 bx_c1 bx_f0 bx_f1 br_c0 br_c1 br_f0 br_f1
 clear HK0 HB0; have HK0 := hid HK0d.out; have HB0 := hid HB0d.out; clear HK0d HB0d; have bx_c0 := HK0.out.tl.box.c0; have bx_c1 := HK0.out.tl.box.c1; have bx_f0 := HK0.out.tl.box.f0; have bx_f1 := HK0.out.tl.box.f1; have br_c0 := HK0.out.tl.tl.box.c0; have br_c1 := HK0.out.tl.tl.box.c1; have br_f0 := HK0.out.tl.tl.box.f0; have br_f1 := HK0.out.tl.tl.box.f1
 refine wp_region_held_drew (S := fun w' => w'.cell? ⟨w.heap.size, 0, none⟩ = some (.bool true) ∧ w'.cell? ⟨w.heap.size, 1, none⟩ = some (.slice ao n cap)) (by kernel_rfl) (And.intro HK0.out.tl.box.c0 (HK0.out.tl.box.c1)) (fun hHeld => ?_)
 refine step_on 0 rfl (by kernel_rfl) (fun _ _ _ h => h) (by rfl) hHeld (by intro w hSw; first | (go_simp; done) | (go_simp; with_reducible rfl)) ?_
 try simp only [Act.put, List.setIfInBounds_toArray, List.set_cons_zero, List.set_cons_succ]
 refine step_on 1 rfl (by kernel_rfl) (fun _ _ _ h => h) (by rfl) hHeld (by intro w hSw; first | (go_simp; done) | (go_simp; with_reducible rfl)) ?_
 try simp only [Act.put, List.setIfInBounds_toArray, List.set_cons_zero, List.set_cons_succ]
 refine step_on 2 rfl (by kernel_rfl) (fun _ _ _ h => h) (by rfl) hHeld (by intro w hSw; first | (go_simp; done) | (go_simp; with_reducible rfl)) ?_
 try simp only [Act.put, List.setIfInBounds_toArray, List.set_cons_zero, List.set_cons_succ]
 refine step_on 3 rfl (by kernel_rfl) (fun _ _ _ h => h) (by rfl) hHeld (by intro w hSw; first | (go_simp; done) | (go_simp; with_reducible rfl)) ?_
 try simp only [Act.put, List.setIfInBounds_toArray, List.set_cons_zero, List.set_cons_succ]
 refine step_on 4 rfl (by kernel_rfl) (fun _ _ _ h => h) (by rfl) hHeld (by intro w hSw; first | (go_simp; done) | (go_simp; with_reducible rfl)) ?_
 try simp only [Act.put, List.setIfInBounds_toArray, List.set_cons_zero, List.set_cons_succ]
 refine step_on 5 rfl (by kernel_rfl) (fun _ _ _ h => h) (by rfl) hHeld (by intro w hSw; first | (go_simp; done) | (go_simp; with_reducible rfl)) ?_
 try simp only [Act.put, List.setIfInBounds_toArray, List.set_cons_zero, List.set_cons_succ]
 refine step_on 6 rfl (by kernel_rfl) (fun _ _ _ h => h) (by rfl) hHeld (by intro w hSw; first | (go_simp; done) | (go_simp; with_reducible rfl)) ?_
 try simp only [Act.put, List.setIfInBounds_toArray, List.set_cons_zero, List.set_cons_succ]
 refine step_on 7 rfl (by kernel_rfl) (fun _ _ _ h => h) (by rfl) hHeld (by intro w hSw; first | (go_simp; done) | (go_simp; with_reducible rfl)) ?_
 try simp only [Act.put, List.setIfInBounds_toArray, List.set_cons_zero, List.set_cons_succ]
 refine step_on 8 rfl (by kernel_rfl) (fun _ _ _ h => h) (by rfl) hHeld (by intro w hSw; first | (go_simp; done) | (go_simp; with_reducible rfl)) ?_
 try simp only [Act.put, List.setIfInBounds_toArray, List.set_cons_zero, List.set_cons_succ]
 refine step_on 9 rfl (by kernel_rfl) (fun _ _ _ h => h) (by rfl) hHeld (by intro w hSw; first | (go_simp; done) | (go_simp; with_reducible rfl)) ?_
 try simp only [Act.put, List.setIfInBounds_toArray, List.set_cons_zero, List.set_cons_succ]
 refine step_one 10 rfl (by kernel_rfl) (fun K hK => ?_)
 go_simp; refine (Dg.limbs_any _ _ _ _ _ HK0.out.zed.zd.sl).mono ?_
 rintro e w1 ⟨t0, tn, tc, rfl, hT, hB⟩; have HK1 := hid (Live.add_sl hT.sl (HK0.out.below hB)); have HB1 := hid (Below.steps HB0.out hB); clear bx_c0 bx_c1 bx_f0 bx_f1 br_c0 br_c1 br_f0 br_f1; clear HK0 HB0 hT hB; have bx_c0 := HK1.out.tl.tl.box.c0; have bx_c1 := HK1.out.tl.tl.box.c1; have bx_f0 := HK1.out.tl.tl.box.f0; have bx_f1 := HK1.out.tl.tl.box.f1; have br_c0 := HK1.out.tl.tl.tl.box.c0; have br_c1 := HK1.out.tl.tl.tl.box.c1; have br_f0 := HK1.out.tl.tl.tl.box.f0; have br_f1 := HK1.out.tl.tl.tl.box.f1
 go_wp2_with fail
 refine hK.out _ _ (And.intro HK1.out.tl.tl.box.c0 (HK1.out.tl.tl.box.c1)) (fun hHeld2 => ?_)
 clear hK K hHeld; have hHeld := hHeld2; clear hHeld2
 try simp only [Act.put, List.setIfInBounds_toArray, List.set_cons_zero, List.set_cons_succ]
 refine step_on 11 rfl (by kernel_rfl) (fun _ _ _ h => h) (by rfl) hHeld (by intro w hSw; first | (go_simp; done) | (go_simp; with_reducible rfl)) ?_
 try simp only [Act.put, List.setIfInBounds_toArray, List.set_cons_zero, List.set_cons_succ]
 refine step_one 12 rfl (by kernel_rfl) (fun K hK => ?_)
 go_simp
 refine hK.out _ _ ((And.intro ((cell_set2 (fun e => by have e2 : w.heap.size = w.heap.size + 1 := e; omega) _ _).trans bx_c0) ((cell_set2 (fun e => by have e2 : w.heap.size = w.heap.size + 1 := e; omega) _ _).trans bx_c1))) (fun hHeld2 => ?_)
 clear hK K hHeld
 try simp only [Act.put, List.setIfInBounds_toArray, List.set_cons_zero, List.set_cons_succ]
 refine wpAnyH_done (by kernel_rfl) ?_ _
 go_wp2_with fail
 have HC : Hid (Cn w1 true t0 tn tc x) := ⟨HK1.out.tl.zed.zd.neg, HK1.out.sl⟩
 refine bodyPost_ret (v := .agg #[.bool true, .slice t0 tn tc]) (by simp [results, Tryz.results41, go_sem, br_c0, br_c1]) rfl ?_
 exact ⟨_, _, _, _, rfl, HC.out.set2 HK1.out.tl.tl.tl.box _ _, below_set2 HB1.out (by omega) _ _⟩
theorem zint_false [Ol] {ao : Option Addr} {n cap : Nat} {x : Int} {w : World} (hx : Zx w false ao n cap x) :
  Calls Tryz.prog 41 #[.agg #[.bool false, .slice ao n cap]] w (NewI w x) := by
 have HV : Hid (zOf false x.natAbs = x) := hx.zd.val
 have hle := hx.le
 go_enter Tryz.func41, Tryz.ntmps41
 go_upto_region 1 with (fail)
 refine wp_world (fun W hW => ?_)
 have HB0 : Hid (Below w.heap.size w W) := by rw [hW]; exact step_alloc (below_alloc _ _)
 have hbx_bx : Box W (w.heap.size) false ao n cap := by rw [hW]; exact (Box.new _ _ _ _ _ _ _ (by simp)).below (below_alloc _ _)
 have hbx_br : Box W (w.heap.size + 1) false none 0 0 := by rw [hW]; exact Box.new _ _ _ _ _ _ _ (by simp)
 have HK0 := hid (Live.add_zed (hx.below HB0.out) (Live.add_box hbx_bx (Live.add_box hbx_br (Live.nil W)))); clear hW hbx_bx hbx_br; have bx_c0 := HK0.out.tl.box.c0; have bx_c1 := HK0.out.tl.box.c1; have bx_f0 := HK0.out.tl.box.f0; have bx_f1 := HK0.out.tl.box.f1; have br_c0 := HK0.out.tl.tl.box.c0; have br_c1 := HK0.out.tl.tl.box.c1; have br_f0 := HK0.out.tl.tl.box.f0; have br_f1 := HK0.out.tl.tl.box.f1; have HK0d := hid (HK0.out.below ((Below.refl _ _).drew)); have HB0d := hid HB0.out.drew; clear bx_c0 bx_c1 bx_f0 bx_f1 br_c0 br_c1 br_f0 br_f1
 clear HK0 HB0; have HK0 := hid HK0d.out; have HB0 := hid HB0d.out; clear HK0d HB0d; have bx_c0 := HK0.out.tl.box.c0; have bx_c1 := HK0.out.tl.box.c1; have bx_f0 := HK0.out.tl.box.f0; have bx_f1 := HK0.out.tl.box.f1; have br_c0 := HK0.out.tl.tl.box.c0; have br_c1 := HK0.out.tl.tl.box.c1; have br_f0 := HK0.out.tl.tl.box.f0; have br_f1 := HK0.out.tl.tl.box.f1
 refine wp_region_held_drew (S := fun w' => w'.cell? ⟨w.heap.size, 0, none⟩ = some (.bool false) ∧ w'.cell? ⟨w.heap.size, 1, none⟩ = some (.slice ao n cap)) (by kernel_rfl) (And.intro HK0.out.tl.box.c0 (HK0.out.tl.box.c1)) (fun hHeld => ?_)
 refine step_on 0 rfl (by kernel_rfl) (fun _ _ _ h => h) (by rfl) hHeld (by intro w hSw; first | (go_simp; done) | (go_simp; with_reducible rfl)) ?_
 try simp only [Act.put, List.setIfInBounds_toArray, List.set_cons_zero, List.set_cons_succ]
 refine step_on 1 rfl (by kernel_rfl) (fun _ _ _ h => h) (by rfl) hHeld (by intro w hSw; first | (go_simp; done) | (go_simp; with_reducible rfl)) ?_
 try simp only [Act.put, List.setIfInBounds_toArray, List.set_cons_zero, List.set_cons_succ]
 refine step_on 2 rfl (by kernel_rfl) (fun _ _ _ h => h) (by rfl) hHeld (by intro w hSw; first | (go_simp; done) | (go_simp; with_reducible rfl)) ?_
 try simp only [Act.put, List.setIfInBounds_toArray, List.set_cons_zero, List.set_cons_succ]
 refine step_off 3 rfl (by kernel_rfl) (fun _ _ _ h => h) (by rfl) hHeld ?_
 try simp only [Act.put, List.setIfInBounds_toArray, List.set_cons_zero, List.set_cons_succ]
 refine step_off 4 rfl (by kernel_rfl) (fun _ _ _ h => h) (by rfl) hHeld ?_
 try simp only [Act.put, List.setIfInBounds_toArray, List.set_cons_zero, List.set_cons_succ]
 refine step_off 5 rfl (by kernel_rfl) (fun _ _ _ h => h) (by rfl) hHeld ?_
 try simp only [Act.put, List.setIfInBounds_toArray, List.set_cons_zero, List.set_cons_succ]
 refine step_off 6 rfl (by kernel_rfl) (fun _ _ _ h => h) (by rfl) hHeld ?_
 try simp only [Act.put, List.setIfInBounds_toArray, List.set_cons_zero, List.set_cons_succ]
 refine step_on 7 rfl (by kernel_rfl) (fun _ _ _ h => h) (by rfl) hHeld (by intro w hSw; first | (go_simp; done) | (go_simp; with_reducible rfl)) ?_
 try simp only [Act.put, List.setIfInBounds_toArray, List.set_cons_zero, List.set_cons_succ]
 refine step_on 8 rfl (by kernel_rfl) (fun _ _ _ h => h) (by rfl) hHeld (by intro w hSw; first | (go_simp; done) | (go_simp; with_reducible rfl)) ?_
 try simp only [Act.put, List.setIfInBounds_toArray, List.set_cons_zero, List.set_cons_succ]
 refine step_on 9 rfl (by kernel_rfl) (fun _ _ _ h => h) (by rfl) hHeld (by intro w hSw; first | (go_simp; done) | (go_simp; with_reducible rfl)) ?_
 try simp only [Act.put, List.setIfInBounds_toArray, List.set_cons_zero, List.set_cons_succ]
 refine step_one 10 rfl (by kernel_rfl) (fun K hK => ?_)
 go_simp; refine (Dg.limbs_any _ _ _ _ _ HK0.out.zed.zd.sl).mono ?_
 rintro e w1 ⟨t0, tn, tc, rfl, hT, hB⟩; have HK1 := hid (Live.add_sl hT.sl (HK0.out.below hB)); have HB1 := hid (Below.steps HB0.out hB); clear bx_c0 bx_c1 bx_f0 bx_f1 br_c0 br_c1 br_f0 br_f1; clear HK0 HB0 hT hB; have bx_c0 := HK1.out.tl.tl.box.c0; have bx_c1 := HK1.out.tl.tl.box.c1; have bx_f0 := HK1.out.tl.tl.box.f0; have bx_f1 := HK1.out.tl.tl.box.f1; have br_c0 := HK1.out.tl.tl.tl.box.c0; have br_c1 := HK1.out.tl.tl.tl.box.c1; have br_f0 := HK1.out.tl.tl.tl.box.f0; have br_f1 := HK1.out.tl.tl.tl.box.f1
 go_wp2_with fail
 refine hK.out _ _ (And.intro HK1.out.tl.tl.box.c0 (HK1.out.tl.tl.box.c1)) (fun hHeld2 => ?_)
 clear hK K hHeld; have hHeld := hHeld2; clear hHeld2
 try simp only [Act.put, List.setIfInBounds_toArray, List.set_cons_zero, List.set_cons_succ]
 refine step_on 11 rfl (by kernel_rfl) (fun _ _ _ h => h) (by rfl) hHeld (by intro w hSw; first | (go_simp; done) | (go_simp; with_reducible rfl)) ?_
 try simp only [Act.put, List.setIfInBounds_toArray, List.set_cons_zero, List.set_cons_succ]
 refine step_one 12 rfl (by kernel_rfl) (fun K hK => ?_)
 go_simp
 refine hK.out _ _ ((And.intro ((cell_set2 (fun e => by have e2 : w.heap.size = w.heap.size + 1 := e; omega) _ _).trans bx_c0) ((cell_set2 (fun e => by have e2 : w.heap.size = w.heap.size + 1 := e; omega) _ _).trans bx_c1))) (fun hHeld2 => ?_)
 clear hK K hHeld
 try simp only [Act.put, List.setIfInBounds_toArray, List.set_cons_zero, List.set_cons_succ]
 refine wpAnyH_done (by kernel_rfl) ?_ _
 go_wp2_with fail
 have HC : Hid (Cn w1 false t0 tn tc x) := ⟨HK1.out.tl.zed.zd.neg, HK1.out.sl⟩
 refine bodyPost_ret (v := .agg #[.bool false, .slice t0 tn tc]) (by simp [results, Tryz.results41, go_sem, br_c0, br_c1]) rfl ?_
 exact ⟨_, _, _, _, rfl, HC.out.set2 HK1.out.tl.tl.tl.box _ _, below_set2 HB1.out (by omega) _ _⟩
theorem zint_any [Ol] {m : Bool} {ao : Option Addr} {n cap : Nat} {x : Int} {w : World} (hx : Zx w m ao n cap x) :
  Calls Tryz.prog 41 #[.agg #[.bool m, .slice ao n cap]] w (NewI w x) := by
 cases m
 ·exact zint_false hx
 ·exact zint_true hx
open Lib (hid)
theorem same_limbs [Ol] {m : Bool} {ao bo : Option Addr} {n cap l cb : Nat} {xs ys : List Nat} {w : World} (r : Bool) (hs : Sl w ao n cap xs) (ht : Sl w bo l cb ys) (h : sameB xs ys = r) :
  Calls Tryz.prog 39 #[.agg #[.bool m, .slice ao n cap], .agg #[.bool m, .slice bo l cb]] w (RetB (.bool r) w) := by
 have HS := hid h
 go_enter Tryz.func39, Tryz.ntmps39
 go_upto_region 1 with (fail)
 refine wp_world (fun W hW => ?_)
 have HB0 : Hid (Below w.heap.size w W) := by rw [hW]; exact step_alloc (below_alloc _ _)
 have hbx_bx : Box W (w.heap.size) m ao n cap := by rw [hW]; exact (Box.new _ _ _ _ _ _ _ (by simp)).below (below_alloc _ _)
 have hbx_by : Box W (w.heap.size + 1) m bo l cb := by rw [hW]; exact Box.new _ _ _ _ _ _ _ (by simp)
 have HK0 := hid (Live.add_sl (hs.below HB0.out) (Live.add_sl (ht.below HB0.out) (Live.add_box hbx_bx (Live.add_box hbx_by (Live.nil W))))); clear hW hbx_bx hbx_by; have bx_c0 := HK0.out.tl.tl.box.c0; have bx_c1 := HK0.out.tl.tl.box.c1; have bx_f0 := HK0.out.tl.tl.box.f0; have bx_f1 := HK0.out.tl.tl.box.f1; have by_c0 := HK0.out.tl.tl.tl.box.c0; have by_c1 := HK0.out.tl.tl.tl.box.c1; have by_f0 := HK0.out.tl.tl.tl.box.f0; have by_f1 := HK0.out.tl.tl.tl.box.f1; go_wp2_with fail; refine (same_bb r _ _ _ _ _ _ _ _ _ HK0.out.sl HK0.out.tl.sl HS.out).mono ?_
 rintro e w1 ⟨rfl, hB⟩; have HK1 := hid (HK0.out.below hB); have HB1 := hid (Below.steps HB0.out hB); clear bx_c0 bx_c1 bx_f0 bx_f1 by_c0 by_c1 by_f0 by_f1; clear HK0 HB0 hB; have bx_c0 := HK1.out.tl.tl.box.c0; have bx_c1 := HK1.out.tl.tl.box.c1; have bx_f0 := HK1.out.tl.tl.box.f0; have bx_f1 := HK1.out.tl.tl.box.f1; have by_c0 := HK1.out.tl.tl.tl.box.c0; have by_c1 := HK1.out.tl.tl.tl.box.c1; have by_f0 := HK1.out.tl.tl.tl.box.f0; have by_f1 := HK1.out.tl.tl.tl.box.f1; go_wp2_with fail
 go_ret
 exact ⟨rfl, HB1.out⟩
theorem same_sign [Ol] {m k : Bool} {ao bo : Option Addr} {n cap l cb : Nat} {w : World} (h : m ≠ k) :
  Calls Tryz.prog 39 #[.agg #[.bool m, .slice ao n cap], .agg #[.bool k, .slice bo l cb]] w (RetB (.bool false) w) := by
 have hmm : (m == k) = false := by cases m <;> cases k <;> simp at h ⊢
 go_enter Tryz.func39, Tryz.ntmps39
 go_upto_region 1 with (fail)
 refine wp_world (fun W hW => ?_)
 have HB0 : Hid (Below w.heap.size w W) := by rw [hW]; exact step_alloc (below_alloc _ _)
 have hbx_bx : Box W (w.heap.size) m ao n cap := by rw [hW]; exact (Box.new _ _ _ _ _ _ _ (by simp)).below (below_alloc _ _)
 have hbx_by : Box W (w.heap.size + 1) k bo l cb := by rw [hW]; exact Box.new _ _ _ _ _ _ _ (by simp)
 have HK0 := hid (Live.add_box hbx_bx (Live.add_box hbx_by (Live.nil W))); clear hW hbx_bx hbx_by; have bx_c0 := HK0.out.box.c0; have bx_c1 := HK0.out.box.c1; have bx_f0 := HK0.out.box.f0; have bx_f1 := HK0.out.box.f1; have by_c0 := HK0.out.tl.box.c0; have by_c1 := HK0.out.tl.box.c1; have by_f0 := HK0.out.tl.box.f0; have by_f1 := HK0.out.tl.box.f1; go_wp2_with fail
 go_ret
 exact ⟨rfl, HB0.out⟩
theorem trim_last (xs : List Nat) (j : Nat) (hj : xs.length = j + 1) (hl : xs.getD j 0 ≠ 0) : trimL xs = xs := by
 have h1 := take_succ_getD xs j (by omega)
 rw [take_all xs (j + 1) hj] at h1; rw [h1]
 exact trimL_snoc _ hl
theorem mayB_iff {m : Bool} {xs : List Nat} (hw : Wf xs) : mayB m xs.length xs = decide (m = decide (zOf m (val xs) < 0) ∧ xs = limbs (zOf m (val xs)).natAbs) := by
 rw [zOf_abs, zOf_neg]
 unfold mayB
 split
 ·rename_i h0
  obtain rfl : xs = [] := List.eq_nil_of_length_eq_zero h0; rw [val_nil]
  cases m <;> simp [limbs_zero]
 ·rename_i h0
  obtain ⟨j, hj⟩ : ∃ j, xs.length = j + 1 := ⟨xs.length - 1, by omega⟩
  rw [hj, Nat.add_sub_cancel]; have ht := trim_limbs xs hw
  by_cases hl : xs.getD j 0 = 0
  ·have h1 : ¬ xs = limbs (val xs) := fun e => last_pos xs j (by rw [ht, ← e]) hj hl
   simp only [hl, h1]
   simp
  ·have h1 : trimL xs = xs := trim_last xs j hj hl
   have h2 : xs = limbs (val xs) := by rw [← ht, h1]
   have h3 : 0 < val xs := by
    rcases Nat.eq_zero_or_pos (val xs) with h | h
    ·rw [h, limbs_zero] at h2; rw [h2] at hj; simp at hj
    ·exact h
   simp only [← h2, h3]
   simp
   exact hl
theorem may_same [Ol] {m k : Bool} {ao bo : Option Addr} {n cap l cb : Nat} {xs : List Nat} {w : World} (r : Bool) (hs : Sl w ao n cap xs) (hv : Cx w k bo l cb (zOf m (val xs))) (h : mayB m n xs = r) :
  Calls Tryz.prog 39 #[.agg #[.bool m, .slice ao n cap], .agg #[.bool k, .slice bo l cb]] w (RetB (.bool r) w) := by
 have e := mayB_iff (m := m) hs.wf; rw [hs.len] at e; rw [← h, e]; clear e; have h1 := hv.cn.neg
 by_cases hmk : m = k
 ·subst hmk
  refine same_limbs _ hs hv.cn.sl ?_
  unfold sameB
  rw [decide_eq_decide]
  exact ⟨fun e => ⟨h1, e⟩, fun e => e.2⟩
 ·have e : decide (m = decide (zOf m (val xs) < 0) ∧ xs = limbs (zOf m (val xs)).natAbs) = false := by
   rw [decide_eq_false_iff_not, ← h1]
   exact fun e => hmk e.1
  rw [e]
  exact same_sign hmk
theorem zmay_is [Ol] {m : Bool} {ao : Option Addr} {n cap : Nat} {xs : List Nat} {w : World} (r : Bool) (hs : Sl w ao n cap xs) (hn : n ≤ 1000) (h : mayB m n xs = r) :
  Calls Tryz.prog 68 #[.agg #[.bool m, .slice ao n cap]] w (RetB (.bool r) w) := by
 have HR := hid h; have hle := hn
 have HV : Hid (Nx w m ao n cap (zOf m (val xs))) := ⟨⟨xs, hs, rfl⟩, by omega⟩
 have HBD : Hid (Bd (zOf m (val xs)) 1000) := HV.out.inn.bd (by omega)
 clear h
 go_enter Tryz.func68, Tryz.ntmps68
 go_upto_region 1 with (fail)
 refine wp_world (fun W hW => ?_)
 have HB0 : Hid (Below w.heap.size w W) := by rw [hW]; exact below_alloc _ _
 have hbx_bx : Box W (w.heap.size) m ao n cap := by rw [hW]; exact Box.new _ _ _ _ _ _ _ (by simp)
 have HK0 := hid (Live.add_num (HV.out.below HB0.out) (Live.add_sl (hs.below HB0.out) (Live.add_box hbx_bx (Live.nil W)))); clear hW hbx_bx; have bx_c0 := HK0.out.tl.tl.box.c0; have bx_c1 := HK0.out.tl.tl.box.c1; have bx_f0 := HK0.out.tl.tl.box.f0; have bx_f1 := HK0.out.tl.tl.box.f1; have HK0d := hid (HK0.out.below ((Below.refl _ _).drew)); have HB0d := hid HB0.out.drew; clear bx_c0 bx_c1 bx_f0 bx_f1; clear HK0 HB0; have HK0 := hid HK0d.out; have HB0 := hid HB0d.out; clear HK0d HB0d; have bx_c0 := HK0.out.tl.tl.box.c0
 have bx_c1 := HK0.out.tl.tl.box.c1; have bx_f0 := HK0.out.tl.tl.box.f0; have bx_f1 := HK0.out.tl.tl.box.f1
 refine wp_region_held_drew (S := fun w' => w'.cell? ⟨w.heap.size, 0, none⟩ = some (.bool m) ∧ w'.cell? ⟨w.heap.size, 1, none⟩ = some (.slice ao n cap)) (by kernel_rfl) (And.intro HK0.out.tl.tl.box.c0 (HK0.out.tl.tl.box.c1)) (fun hHeld => ?_)
 refine step_on 0 rfl (by kernel_rfl) (fun _ _ _ h => h) (by rfl) hHeld (by intro w hSw; first | (go_simp; done) | (go_simp; with_reducible rfl)) ?_
 try simp only [Act.put, List.setIfInBounds_toArray, List.set_cons_zero, List.set_cons_succ]
 refine step_on 1 rfl (by kernel_rfl) (fun _ _ _ h => h) (by rfl) hHeld (by intro w hSw; first | (go_simp; done) | (go_simp; with_reducible rfl)) ?_
 try simp only [Act.put, List.setIfInBounds_toArray, List.set_cons_zero, List.set_cons_succ]
 refine step_one 2 rfl (by kernel_rfl) (fun K hK => ?_)
 go_simp; refine (zof_any HK0.out.num).mono ?_
 rintro e w1 ⟨um, u0, un, uc, rfl, hU, hB⟩
 have HK1 := hid (Live.add_zed (hU.zx HBD.out (by omega)) (HK0.out.below hB))
 have HB1 := hid (Below.steps HB0.out hB); clear bx_c0 bx_c1 bx_f0 bx_f1; clear HK0 HB0 hU hB; have bx_c0 := HK1.out.tl.tl.tl.box.c0; have bx_c1 := HK1.out.tl.tl.tl.box.c1; have bx_f0 := HK1.out.tl.tl.tl.box.f0; have bx_f1 := HK1.out.tl.tl.tl.box.f1; go_wp2_with fail
 refine hK.out _ _ (And.intro HK1.out.tl.tl.tl.box.c0 (HK1.out.tl.tl.tl.box.c1)) (fun hHeld2 => ?_)
 clear hK K hHeld; have hHeld := hHeld2; clear hHeld2
 try simp only [Act.put, List.setIfInBounds_toArray, List.set_cons_zero, List.set_cons_succ]
 refine step_one 3 rfl (by kernel_rfl) (fun K hK => ?_)
 go_simp; refine (zint_any HK1.out.zed).mono ?_
 rintro e w2 ⟨vm, v0, vn, vc, rfl, hV, hB⟩
 have HK2 := hid (Live.add_can (hV.cx HBD.out (by omega)) (HK1.out.below hB))
 have HB2 := hid (Below.steps HB1.out hB); clear bx_c0 bx_c1 bx_f0 bx_f1; clear HK1 HB1 hV hB; have bx_c0 := HK2.out.tl.tl.tl.tl.box.c0; have bx_c1 := HK2.out.tl.tl.tl.tl.box.c1; have bx_f0 := HK2.out.tl.tl.tl.tl.box.f0; have bx_f1 := HK2.out.tl.tl.tl.tl.box.f1; go_wp2_with fail
 refine hK.out _ _ (And.intro HK2.out.tl.tl.tl.tl.box.c0 (HK2.out.tl.tl.tl.tl.box.c1)) (fun hHeld2 => ?_)
 clear hK K hHeld; have hHeld := hHeld2; clear hHeld2
 try simp only [Act.put, List.setIfInBounds_toArray, List.set_cons_zero, List.set_cons_succ]
 refine step_one 4 rfl (by kernel_rfl) (fun K hK => ?_)
 go_simp; refine (may_same r HK2.out.tl.tl.tl.sl HK2.out.can HR.out).mono ?_
 rintro e w3 ⟨rfl, hB⟩; have HK3 := hid (HK2.out.below hB); have HB3 := hid (Below.steps HB2.out hB); clear bx_c0 bx_c1 bx_f0 bx_f1; clear HK2 HB2 hB; have bx_c0 := HK3.out.tl.tl.tl.tl.box.c0; have bx_c1 := HK3.out.tl.tl.tl.tl.box.c1; have bx_f0 := HK3.out.tl.tl.tl.tl.box.f0; have bx_f1 := HK3.out.tl.tl.tl.tl.box.f1; go_wp2_with fail
 refine hK.out _ _ (And.intro HK3.out.tl.tl.tl.tl.box.c0 (HK3.out.tl.tl.tl.tl.box.c1)) (fun hHeld2 => ?_)
 clear hK K hHeld; have hHeld := hHeld2; clear hHeld2
 try simp only [Act.put, List.setIfInBounds_toArray, List.set_cons_zero, List.set_cons_succ]
 refine step_on 5 rfl (by kernel_rfl) (fun _ _ _ h => h) (by rfl) hHeld (by intro w hSw; first | (go_simp; done) | (go_simp; with_reducible rfl)) ?_
 try simp only [Act.put, List.setIfInBounds_toArray, List.set_cons_zero, List.set_cons_succ]
 refine wpAnyH_done (by kernel_rfl) ?_ _
 clear hHeld; go_wp2_with fail
 go_ret
 exact ⟨rfl, HB3.out⟩
open Lib (hid)
theorem zmul_same [Ol] {m : Bool} {ao bo : Option Addr} {n cap l cb : Nat} {x y : Int} {w : World} (hx : Zx w m ao n cap x) (hy : Zx w m bo l cb y) :
  Calls Tryz.prog 89 #[.agg #[.bool m, .slice ao n cap], .agg #[.bool m, .slice bo l cb]] w (NewZ w (x * y)) := by
 have hle := hx.le; have hle2 := hy.le
 have HX : Hid (zOf m x.natAbs = x) := hx.zd.val
 have HY : Hid (zOf m y.natAbs = y) := hy.zd.val
 have hmm : (m != m) = false := by cases m <;> rfl
 go_enter Tryz.func89, Tryz.ntmps89
 go_upto_region 1 with (fail)
 refine wp_world (fun W hW => ?_)
 have HB0 : Hid (Below w.heap.size w W) := by rw [hW]; exact step_alloc (step_alloc (below_alloc _ _))
 have hbx_bx : Box W (w.heap.size) m ao n cap := by rw [hW]; exact ((Box.new _ _ _ _ _ _ _ (by simp)).below (below_alloc _ _)).below (below_alloc _ _)
 have hbx_by : Box W (w.heap.size + 1) m bo l cb := by rw [hW]; exact (Box.new _ _ _ _ _ _ _ (by simp)).below (below_alloc _ _)
 have hbx_br : Box W (w.heap.size + 2) false none 0 0 := by rw [hW]; exact Box.new _ _ _ _ _ _ _ (by simp)
 have HK0 := hid (Live.add_zed (hx.below HB0.out) (Live.add_zed (hy.below HB0.out) (Live.add_box hbx_bx (Live.add_box hbx_by (Live.add_box hbx_br (Live.nil W)))))); clear hW hbx_bx hbx_by hbx_br; have bx_c0 := HK0.out.tl.tl.box.c0; have bx_c1 := HK0.out.tl.tl.box.c1; have bx_f0 := HK0.out.tl.tl.box.f0; have bx_f1 := HK0.out.tl.tl.box.f1; have by_c0 := HK0.out.tl.tl.tl.box.c0; have by_c1 := HK0.out.tl.tl.tl.box.c1; have by_f0 := HK0.out.tl.tl.tl.box.f0; have by_f1 := HK0.out.tl.tl.tl.box.f1; have br_c0 := HK0.out.tl.tl.tl.tl.box.c0
 have br_c1 := HK0.out.tl.tl.tl.tl.box.c1; have br_f0 := HK0.out.tl.tl.tl.tl.box.f0; have br_f1 := HK0.out.tl.tl.tl.tl.box.f1; go_wp2_with fail
 refine (Dg.mul_any _ _ _ _ _ _ _ _ _ HK0.out.zed.zd.sl HK0.out.tl.zed.zd.sl (by omega) (by omega)).mono ?_
 rintro e w1 ⟨d0, dn, dc, rfl, hT, hB⟩; rw [Dg.val_limbs, Dg.val_limbs] at hT; have HT := hid hT.sl; have hdb := hT.big; have HK1 := hid (HK0.out.below hB); have HB1 := hid (Below.steps HB0.out hB); clear bx_c0 bx_c1 bx_f0 bx_f1 by_c0 by_c1 by_f0 by_f1 br_c0 br_c1 br_f0 br_f1; clear HK0 HB0 hT hB; have bx_c0 := HK1.out.tl.tl.box.c0; have bx_c1 := HK1.out.tl.tl.box.c1; have bx_f0 := HK1.out.tl.tl.box.f0; have bx_f1 := HK1.out.tl.tl.box.f1; have by_c0 := HK1.out.tl.tl.tl.box.c0; have by_c1 := HK1.out.tl.tl.tl.box.c1
 have by_f0 := HK1.out.tl.tl.tl.box.f0; have by_f1 := HK1.out.tl.tl.tl.box.f1; have br_c0 := HK1.out.tl.tl.tl.tl.box.c0; have br_c1 := HK1.out.tl.tl.tl.tl.box.c1; have br_f0 := HK1.out.tl.tl.tl.tl.box.f0; have br_f1 := HK1.out.tl.tl.tl.tl.box.f1; go_wp2_with fail
 have HZ : Hid (Zd w1 (false) d0 dn dc (zOf (m != m) (x.natAbs * y.natAbs))) := Zd.of HT.out (by rw [hmm]; simp)
 have HE : Hid (zOf (m != m) (x.natAbs * y.natAbs) = x * y) := by rw [Hid, zOf_mul, HX.out, HY.out]
 refine bodyPost_ret (v := .agg #[.bool (false), .slice d0 dn dc]) (by simp [results, Tryz.results89, go_sem, br_c0, br_c1]) rfl ?_
 exact ⟨_, _, _, _, rfl, HE.out ▸ HZ.out.set2 HK1.out.tl.tl.tl.tl.box _ _, below_set2 HB1.out (by omega) _ _⟩
theorem zmul_diff [Ol] {m : Bool} {ao bo : Option Addr} {n cap l cb : Nat} {x y : Int} {w : World} (hx : Zx w m ao n cap x) (hy : Zx w (!m) bo l cb y) :
  Calls Tryz.prog 89 #[.agg #[.bool m, .slice ao n cap], .agg #[.bool (!m), .slice bo l cb]] w (NewZ w (x * y)) := by
 have hle := hx.le; have hle2 := hy.le
 have HX : Hid (zOf m x.natAbs = x) := hx.zd.val
 have HY : Hid (zOf (!m) y.natAbs = y) := hy.zd.val
 have hmm : (m != (!m)) = true := by cases m <;> rfl
 go_enter Tryz.func89, Tryz.ntmps89
 go_upto_region 1 with (fail)
 refine wp_world (fun W hW => ?_)
 have HB0 : Hid (Below w.heap.size w W) := by rw [hW]; exact step_alloc (step_alloc (below_alloc _ _))
 have hbx_bx : Box W (w.heap.size) m ao n cap := by rw [hW]; exact ((Box.new _ _ _ _ _ _ _ (by simp)).below (below_alloc _ _)).below (below_alloc _ _)
 have hbx_by : Box W (w.heap.size + 1) (!m) bo l cb := by rw [hW]; exact (Box.new _ _ _ _ _ _ _ (by simp)).below (below_alloc _ _)
 have hbx_br : Box W (w.heap.size + 2) false none 0 0 := by rw [hW]; exact Box.new _ _ _ _ _ _ _ (by simp)
 have HK0 := hid (Live.add_zed (hx.below HB0.out) (Live.add_zed (hy.below HB0.out) (Live.add_box hbx_bx (Live.add_box hbx_by (Live.add_box hbx_br (Live.nil W)))))); clear hW hbx_bx hbx_by hbx_br; have bx_c0 := HK0.out.tl.tl.box.c0; have bx_c1 := HK0.out.tl.tl.box.c1; have bx_f0 := HK0.out.tl.tl.box.f0; have bx_f1 := HK0.out.tl.tl.box.f1; have by_c0 := HK0.out.tl.tl.tl.box.c0; have by_c1 := HK0.out.tl.tl.tl.box.c1; have by_f0 := HK0.out.tl.tl.tl.box.f0; have by_f1 := HK0.out.tl.tl.tl.box.f1; have br_c0 := HK0.out.tl.tl.tl.tl.box.c0
 have br_c1 := HK0.out.tl.tl.tl.tl.box.c1; have br_f0 := HK0.out.tl.tl.tl.tl.box.f0; have br_f1 := HK0.out.tl.tl.tl.tl.box.f1; go_wp2_with fail
 refine (Dg.mul_any _ _ _ _ _ _ _ _ _ HK0.out.zed.zd.sl HK0.out.tl.zed.zd.sl (by omega) (by omega)).mono ?_
 rintro e w1 ⟨d0, dn, dc, rfl, hT, hB⟩; rw [Dg.val_limbs, Dg.val_limbs] at hT; have HT := hid hT.sl; have hdb := hT.big; have HK1 := hid (HK0.out.below hB); have HB1 := hid (Below.steps HB0.out hB); clear bx_c0 bx_c1 bx_f0 bx_f1 by_c0 by_c1 by_f0 by_f1 br_c0 br_c1 br_f0 br_f1; clear HK0 HB0 hT hB; have bx_c0 := HK1.out.tl.tl.box.c0; have bx_c1 := HK1.out.tl.tl.box.c1; have bx_f0 := HK1.out.tl.tl.box.f0; have bx_f1 := HK1.out.tl.tl.box.f1; have by_c0 := HK1.out.tl.tl.tl.box.c0; have by_c1 := HK1.out.tl.tl.tl.box.c1
 have by_f0 := HK1.out.tl.tl.tl.box.f0; have by_f1 := HK1.out.tl.tl.tl.box.f1; have br_c0 := HK1.out.tl.tl.tl.tl.box.c0; have br_c1 := HK1.out.tl.tl.tl.tl.box.c1; have br_f0 := HK1.out.tl.tl.tl.tl.box.f0; have br_f1 := HK1.out.tl.tl.tl.tl.box.f1; go_wp2_with fail
 have HZ : Hid (Zd w1 (decide (0 < dn)) d0 dn dc (zOf (m != (!m)) (x.natAbs * y.natAbs))) := Zd.of HT.out (by rw [hmm]; simp)
 have HE : Hid (zOf (m != (!m)) (x.natAbs * y.natAbs) = x * y) := by rw [Hid, zOf_mul, HX.out, HY.out]
 refine bodyPost_ret (v := .agg #[.bool (decide (0 < dn)), .slice d0 dn dc]) (by simp [results, Tryz.results89, go_sem, br_c0, br_c1]) rfl ?_
 exact ⟨_, _, _, _, rfl, HE.out ▸ HZ.out.set2 HK1.out.tl.tl.tl.tl.box _ _, below_set2 HB1.out (by omega) _ _⟩
theorem zmul_any [Ol] {m k : Bool} {ao bo : Option Addr} {n cap l cb : Nat} {x y : Int} {w : World} (hx : Zx w m ao n cap x) (hy : Zx w k bo l cb y) :
  Calls Tryz.prog 89 #[.agg #[.bool m, .slice ao n cap], .agg #[.bool k, .slice bo l cb]] w (NewZ w (x * y)) := by
 by_cases hmk : k = m
 ·subst hmk; exact zmul_same hx hy
 ·obtain rfl : k = !m := by cases m <;> cases k <;> simp at hmk ⊢
  exact zmul_diff hx hy
end Go.Proofs.YtmmgipcacceakaaGreat

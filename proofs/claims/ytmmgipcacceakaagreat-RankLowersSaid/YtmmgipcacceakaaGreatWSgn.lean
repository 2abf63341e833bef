/-
  The contract of whole.Sign, whatever the number's length.
-/
import Derived.Test.YtmmgipcacceakaaGreatGWA
set_option maxHeartbeats 40000000
set_option maxRecDepth 100000
namespace Go.Proofs.YtmmgipcacceakaaGreat
open Lib (hid)
open Go.RowKit
theorem wsignU_z [Ol] {m : Bool} {ao : Option Addr} {n cap : Nat} {x : Int} {w : World} (hx : In w m ao n cap x) (h0 : x = 0) :
  Calls Tryz.prog 56 #[.agg #[.bool m, .slice ao n cap]] w (RetB (.int .i64 0) w) := by
 obtain ⟨xs, hs, hz⟩ := hx
 have HV : Hid (val xs = 0) := by rw [Hid, ← zOf_abs m (val xs), hz, h0]; rfl
 clear h0 hz
 go_enter Tryz.func56, Tryz.ntmps56
 go_upto_region 1 with (fail)
 refine wp_world (fun W hW => ?_)
 have HB0 : Hid (Below w.heap.size w W) := by rw [hW]; exact below_alloc _ _
 have hbx_bx : Box W (w.heap.size) m ao n cap := by rw [hW]; exact Box.new _ _ _ _ _ _ _ (by simp)
 have HK0 := hid (Live.add_sl (hs.below HB0.out) (Live.add_box hbx_bx (Live.nil W))); clear hW hbx_bx; have bx_c0 := HK0.out.tl.box.c0; have bx_c1 := HK0.out.tl.box.c1; have bx_f0 := HK0.out.tl.box.f0; have bx_f1 := HK0.out.tl.box.f1; go_wp2_with fail
 refine (bits_is 0 _ _ _ _ _ HK0.out.sl (by rw [HV.out]; rfl)).mono ?_
 rintro e w' ⟨rfl, rfl⟩; go_wp2_with fail
 go_ret
 exact ⟨rfl, HB0.out⟩
theorem wsignU_n [Ol] {m : Bool} {ao : Option Addr} {n cap : Nat} {x : Int} {w : World} (hx : In w m ao n cap x) (h0 : x < 0) :
  Calls Tryz.prog 56 #[.agg #[.bool m, .slice ao n cap]] w (RetB (.int .i64 (-1)) w) := by
 obtain ⟨xs, hs, hz⟩ := hx
 have hv : val xs ≠ 0 := fun h => by rw [h, zOf_zero] at hz; omega
 obtain ⟨k, hk⟩ : ∃ k, k = nbits (val xs) := ⟨_, rfl⟩
 have hq : (((k : Nat) : Int) == 0) = false := by
  have : k ≠ 0 := by rw [hk]; exact fun e => hv (nbits_eq_zero.1 e)
  simp; omega
 have HV := hid hk.symm
 obtain rfl : m = true := by
  cases m
  ·unfold zOf at hz; simp at hz; omega
  ·rfl
 clear h0 hz hv hk
 go_enter Tryz.func56, Tryz.ntmps56
 go_upto_region 1 with (fail)
 refine wp_world (fun W hW => ?_)
 have HB0 : Hid (Below w.heap.size w W) := by rw [hW]; exact below_alloc _ _
 have hbx_bx : Box W (w.heap.size) true ao n cap := by rw [hW]; exact Box.new _ _ _ _ _ _ _ (by simp)
 have HK0 := hid (Live.add_sl (hs.below HB0.out) (Live.add_box hbx_bx (Live.nil W))); clear hW hbx_bx; have bx_c0 := HK0.out.tl.box.c0; have bx_c1 := HK0.out.tl.box.c1; have bx_f0 := HK0.out.tl.box.f0; have bx_f1 := HK0.out.tl.box.f1; go_wp2_with fail; refine (bits_is k _ _ _ _ _ HK0.out.sl HV.out).mono ?_; rintro e w' ⟨rfl, rfl⟩; go_wp2_with fail
 go_ret
 exact ⟨rfl, HB0.out⟩
theorem wsignU_p [Ol] {m : Bool} {ao : Option Addr} {n cap : Nat} {x : Int} {w : World} (hx : In w m ao n cap x) (h0 : 0 < x) :
  Calls Tryz.prog 56 #[.agg #[.bool m, .slice ao n cap]] w (RetB (.int .i64 1) w) := by
 obtain ⟨xs, hs, hz⟩ := hx
 have hv : val xs ≠ 0 := fun h => by rw [h, zOf_zero] at hz; omega
 obtain ⟨k, hk⟩ : ∃ k, k = nbits (val xs) := ⟨_, rfl⟩
 have hq : (((k : Nat) : Int) == 0) = false := by
  have : k ≠ 0 := by rw [hk]; exact fun e => hv (nbits_eq_zero.1 e)
  simp; omega
 have HV := hid hk.symm
 obtain rfl : m = false := by
  cases m
  ·rfl
  ·unfold zOf at hz; simp at hz; omega
 clear h0 hz hv hk
 go_enter Tryz.func56, Tryz.ntmps56
 go_upto_region 1 with (fail)
 refine wp_world (fun W hW => ?_)
 have HB0 : Hid (Below w.heap.size w W) := by rw [hW]; exact below_alloc _ _
 have hbx_bx : Box W (w.heap.size) false ao n cap := by rw [hW]; exact Box.new _ _ _ _ _ _ _ (by simp)
 have HK0 := hid (Live.add_sl (hs.below HB0.out) (Live.add_box hbx_bx (Live.nil W))); clear hW hbx_bx; have bx_c0 := HK0.out.tl.box.c0; have bx_c1 := HK0.out.tl.box.c1; have bx_f0 := HK0.out.tl.box.f0; have bx_f1 := HK0.out.tl.box.f1; go_wp2_with fail; refine (bits_is k _ _ _ _ _ HK0.out.sl HV.out).mono ?_; rintro e w' ⟨rfl, rfl⟩; go_wp2_with fail
 go_ret
 exact ⟨rfl, HB0.out⟩
theorem wsignU_is [Ol] (s : Int) {m : Bool} {ao : Option Addr} {n cap : Nat} {x : Int} {w : World} (hx : In w m ao n cap x) (h : x.sign = s) :
  Calls Tryz.prog 56 #[.agg #[.bool m, .slice ao n cap]] w (RetB (.int .i64 s) w) := by
 rcases Int.lt_trichotomy x 0 with h0 | h0 | h0
 ·rw [Int.sign_eq_neg_one_of_neg h0] at h; rw [← h]; exact wsignU_n hx h0
 ·rw [h0, Int.sign_zero] at h; rw [← h]; exact wsignU_z hx h0
 ·rw [Int.sign_eq_one_of_pos h0] at h; rw [← h]; exact wsignU_p hx h0
end Go.Proofs.YtmmgipcacceakaaGreat

/- WSign, WOfI, WAdd, WMul, WMay, WCmp -/
import Derived.Test.YtmmgipcacceakaaGreatGWInt
import Derived.Deep.Cut
import Derived.Test.YtmmgipcacceakaaGreatGTimes
set_option maxHeartbeats 40000000
set_option maxRecDepth 100000
namespace Go.Proofs.YtmmgipcacceakaaGreat
open Lib (hid)
open Go.RowKit
def NewF (w : World) (neg : Bool) (e : Ending) (w' : World) : Prop :=
 ∃ b, e = .returned (.func (.func 127) #[] #[.pointer (some ⟨b, 0, none⟩)]) ∧ w.heap.size ≤ b ∧ b < w'.heap.size ∧ w'.cell? ⟨b, 0, none⟩ = some (.bool neg) ∧ Below w.heap.size w w'
theorem signed_any (neg : Bool) (w : World) : Calls Tryz.prog 107 #[.bool neg] w (NewF w neg) := by
 have hmf : ∀ (fn : Fn) (first cap : Array Value) (w : World), (Instr.makeFunc fn first cap).run Tryz.prog w = .ok (.func fn first cap) w := fun _ _ _ _ => rfl
 go_enter Tryz.func107, Tryz.ntmps107
 go_wp2_with fail
 go_ret
 exact ⟨_, rfl, Nat.le_refl _, by simp, by simp [go_sem], below_alloc _ _⟩
theorem close_any (neg : Bool) (b : Nat) (ao : Option Addr) (n cap v : Nat) (w : World) (hb : w.cell? ⟨b, 0, none⟩ = some (.bool neg)) (ha : Sl w ao n cap (limbs v)) :
  Calls Tryz.prog 127 #[.slice ao n cap, .pointer (some ⟨b, 0, none⟩)] w (NewI w (zOf neg v)) := by
 have hbig := ha.big
 have hlt : b < w.heap.size := by simpa using World.block_lt_of_cell? w _ hb
 have HA := hid ha; clear ha
 cases neg
 ·go_enter Tryz.func127, Tryz.ntmps127
  go_wp2_with fail
  refine bodyPost_ret (v := .agg #[.bool false, .slice ao n cap]) (by simp [results, Tryz.results127, go_sem]) rfl ?_
  exact ⟨_, _, _, _, rfl, Cn.of (HA.out.alloc _) rfl, below_alloc _ _⟩
 ·go_enter Tryz.func127, Tryz.ntmps127
  go_wp2_with fail
  refine bodyPost_ret (v := .agg #[.bool (decide (0 < n)), .slice ao n cap]) (by simp [results, Tryz.results127, go_sem]) rfl ?_
  exact ⟨_, _, _, _, rfl, Cn.of (HA.out.alloc _) (by simp), below_alloc _ _⟩
theorem wsign_z [Ol] {m : Bool} {ao : Option Addr} {n cap : Nat} {x : Int} {w : World} (hx : Nx w m ao n cap x) (h0 : x = 0) :
  Calls Tryz.prog 56 #[.agg #[.bool m, .slice ao n cap]] w (RetB (.int .i64 0) w) := by
 obtain ⟨⟨xs, hs, hz⟩, hle⟩ := hx
 have HV : Hid (val xs = 0) := by rw [Hid, ← zOf_abs m (val xs), hz, h0]; rfl
 clear h0 hz
 go_enter Tryz.func56, Tryz.ntmps56
 go_upto_region 1 with (fail)
 refine wp_world (fun W hW => ?_)
 have HB0 : Hid (Below w.heap.size w W) := by rw [hW]; exact below_alloc _ _
 have hbx_bx : Box W (w.heap.size) m ao n cap := by rw [hW]; exact Box.new _ _ _ _ _ _ _ (by simp)
 have HK0 := hid (Live.add_sl (hs.below HB0.out) (Live.add_box hbx_bx (Live.nil W))); clear hW hbx_bx; have bx_c0 := HK0.out.tl.box.c0; have bx_c1 := HK0.out.tl.box.c1; have bx_f0 := HK0.out.tl.box.f0; have bx_f1 := HK0.out.tl.box.f1; go_wp2_with fail
 refine (bits_is 0 _ _ _ _ _ HK0.out.sl (by rw [HV.out]; rfl)).mono ?_
 rintro e w' ⟨rfl, rfl⟩; go_wp2_with fail
 go_ret
 exact ⟨rfl, HB0.out⟩
theorem wsign_n [Ol] {m : Bool} {ao : Option Addr} {n cap : Nat} {x : Int} {w : World} (hx : Nx w m ao n cap x) (h0 : x < 0) :
  Calls Tryz.prog 56 #[.agg #[.bool m, .slice ao n cap]] w (RetB (.int .i64 (-1)) w) := by
 obtain ⟨⟨xs, hs, hz⟩, hle⟩ := hx
 have hv : val xs ≠ 0 := fun h => by rw [h, zOf_zero] at hz; omega
 obtain ⟨k, hk⟩ : ∃ k, k = nbits (val xs) := ⟨_, rfl⟩
 have hq : (((k : Nat) : Int) == 0) = false := by
  have : k ≠ 0 := by rw [hk]; exact fun e => hv (nbits_eq_zero.1 e)
  simp; omega
 have HV := hid hk.symm
 obtain rfl : m = true := by
  cases m
  ·unfold zOf at hz; simp at hz; omega
  ·rfl
 clear h0 hz hv hk
 go_enter Tryz.func56, Tryz.ntmps56
 go_upto_region 1 with (fail)
 refine wp_world (fun W hW => ?_)
 have HB0 : Hid (Below w.heap.size w W) := by rw [hW]; exact below_alloc _ _
 have hbx_bx : Box W (w.heap.size) true ao n cap := by rw [hW]; exact Box.new _ _ _ _ _ _ _ (by simp)
 have HK0 := hid (Live.add_sl (hs.below HB0.out) (Live.add_box hbx_bx (Live.nil W))); clear hW hbx_bx; have bx_c0 := HK0.out.tl.box.c0; have bx_c1 := HK0.out.tl.box.c1; have bx_f0 := HK0.out.tl.box.f0; have bx_f1 := HK0.out.tl.box.f1; go_wp2_with fail; refine (bits_is k _ _ _ _ _ HK0.out.sl HV.out).mono ?_; rintro e w' ⟨rfl, rfl⟩; go_wp2_with fail
 go_ret
 exact ⟨rfl, HB0.out⟩
theorem wsign_p [Ol] {m : Bool} {ao : Option Addr} {n cap : Nat} {x : Int} {w : World} (hx : Nx w m ao n cap x) (h0 : 0 < x) :
  Calls Tryz.prog 56 #[.agg #[.bool m, .slice ao n cap]] w (RetB (.int .i64 1) w) := by
 obtain ⟨⟨xs, hs, hz⟩, hle⟩ := hx
 have hv : val xs ≠ 0 := fun h => by rw [h, zOf_zero] at hz; omega
 obtain ⟨k, hk⟩ : ∃ k, k = nbits (val xs) := ⟨_, rfl⟩
 have hq : (((k : Nat) : Int) == 0) = false := by
  have : k ≠ 0 := by rw [hk]; exact fun e => hv (nbits_eq_zero.1 e)
  simp; omega
 have HV := hid hk.symm
 obtain rfl : m = false := by
  cases m
  ·rfl
  ·unfold zOf at hz; simp at hz; omega
 clear h0 hz hv hk
 go_enter Tryz.func56, Tryz.ntmps56
 go_upto_region 1 with (fail)
 refine wp_world (fun W hW => ?_)
 have HB0 : Hid (Below w.heap.size w W) := by rw [hW]; exact below_alloc _ _
 have hbx_bx : Box W (w.heap.size) false ao n cap := by rw [hW]; exact Box.new _ _ _ _ _ _ _ (by simp)
 have HK0 := hid (Live.add_sl (hs.below HB0.out) (Live.add_box hbx_bx (Live.nil W))); clear hW hbx_bx; have bx_c0 := HK0.out.tl.box.c0; have bx_c1 := HK0.out.tl.box.c1; have bx_f0 := HK0.out.tl.box.f0; have bx_f1 := HK0.out.tl.box.f1; go_wp2_with fail; refine (bits_is k _ _ _ _ _ HK0.out.sl HV.out).mono ?_; rintro e w' ⟨rfl, rfl⟩; go_wp2_with fail
 go_ret
 exact ⟨rfl, HB0.out⟩
theorem wsign_is [Ol] (s : Int) {m : Bool} {ao : Option Addr} {n cap : Nat} {x : Int} {w : World} (hx : Nx w m ao n cap x) (h : x.sign = s) :
  Calls Tryz.prog 56 #[.agg #[.bool m, .slice ao n cap]] w (RetB (.int .i64 s) w) := by
 rcases Int.lt_trichotomy x 0 with h0 | h0 | h0
 ·rw [Int.sign_eq_neg_one_of_neg h0] at h; rw [← h]; exact wsign_n hx h0
 ·rw [h0, Int.sign_zero] at h; rw [← h]; exact wsign_z hx h0
 ·rw [Int.sign_eq_one_of_pos h0] at h; rw [← h]; exact wsign_p hx h0
open Lib (hid)
theorem wadd_same [Ol] {m : Bool} {ao bo : Option Addr} {n cap l cb : Nat} {x y : Int} {w : World} (hx : Nx w m ao n cap x) (hy : Nx w m bo l cb y) :
  Calls Tryz.prog 97 #[.agg #[.bool m, .slice ao n cap], .agg #[.bool m, .slice bo l cb]] w (NewI w (x + y)) := by
 obtain ⟨⟨xs, hs, hz⟩, hle⟩ := hx; obtain ⟨⟨ys, ht, hz2⟩, hle2⟩ := hy
 have HZ : Hid (zOf m (val xs + val ys) = x + y) := by rw [Hid, zOf_add, hz, hz2]
 clear hz hz2
 go_enter Tryz.func97, Tryz.ntmps97
 go_upto_region 1 with (fail)
 refine wp_world (fun W hW => ?_)
 have HB0 : Hid (Below w.heap.size w W) := by rw [hW]; exact step_alloc (step_alloc (below_alloc _ _))
 have hbx_bx : Box W (w.heap.size) m ao n cap := by rw [hW]; exact ((Box.new _ _ _ _ _ _ _ (by simp)).below (below_alloc _ _)).below (below_alloc _ _)
 have hbx_by : Box W (w.heap.size + 1) m bo l cb := by rw [hW]; exact (Box.new _ _ _ _ _ _ _ (by simp)).below (below_alloc _ _)
 have hbx_br : Box W (w.heap.size + 2) false none 0 0 := by rw [hW]; exact Box.new _ _ _ _ _ _ _ (by simp)
 have HK0 := hid (Live.add_sl (hs.below HB0.out) (Live.add_sl (ht.below HB0.out) (Live.add_box hbx_bx (Live.add_box hbx_by (Live.add_box hbx_br (Live.nil W)))))); clear hW hbx_bx hbx_by hbx_br; have bx_c0 := HK0.out.tl.tl.box.c0; have bx_c1 := HK0.out.tl.tl.box.c1; have bx_f0 := HK0.out.tl.tl.box.f0; have bx_f1 := HK0.out.tl.tl.box.f1; have by_c0 := HK0.out.tl.tl.tl.box.c0; have by_c1 := HK0.out.tl.tl.tl.box.c1; have by_f0 := HK0.out.tl.tl.tl.box.f0; have by_f1 := HK0.out.tl.tl.tl.box.f1; have br_c0 := HK0.out.tl.tl.tl.tl.box.c0
 have br_c1 := HK0.out.tl.tl.tl.tl.box.c1; have br_f0 := HK0.out.tl.tl.tl.tl.box.f0; have br_f1 := HK0.out.tl.tl.tl.tl.box.f1; go_wp2_with fail; have HK0d := hid (HK0.out.below ((Below.refl _ _).drew)); have HB0d := hid HB0.out.drew; clear bx_c0 bx_c1 bx_f0 bx_f1 by_c0 by_c1 by_f0 by_f1 br_c0 br_c1 br_f0 br_f1; clear HK0 HB0; have HK0 := hid HK0d.out; have HB0 := hid HB0d.out; clear HK0d HB0d; have bx_c0 := HK0.out.tl.tl.box.c0; have bx_c1 := HK0.out.tl.tl.box.c1; have bx_f0 := HK0.out.tl.tl.box.f0
 have bx_f1 := HK0.out.tl.tl.box.f1; have by_c0 := HK0.out.tl.tl.tl.box.c0; have by_c1 := HK0.out.tl.tl.tl.box.c1; have by_f0 := HK0.out.tl.tl.tl.box.f0; have by_f1 := HK0.out.tl.tl.tl.box.f1; have br_c0 := HK0.out.tl.tl.tl.tl.box.c0; have br_c1 := HK0.out.tl.tl.tl.tl.box.c1; have br_f0 := HK0.out.tl.tl.tl.tl.box.f0; have br_f1 := HK0.out.tl.tl.tl.tl.box.f1
 have tok0 : True := trivial
 have KS0 := hid (And.intro HK0.out.tl.tl.box.c0 (And.intro HK0.out.tl.tl.box.c1 (And.intro HK0.out.tl.tl.tl.box.c0 (HK0.out.tl.tl.tl.box.c1))))
 go_region_held3 (fun w' => w'.cell? ⟨w.heap.size, 0, none⟩ = some (.bool m) ∧ w'.cell? ⟨w.heap.size, 1, none⟩ = some (.slice ao n cap) ∧ w'.cell? ⟨w.heap.size + 1, 0, none⟩ = some (.bool m) ∧ w'.cell? ⟨w.heap.size + 1, 1, none⟩ = some (.slice bo l cb))
  (first | exact KS3.out | exact KS2.out | exact KS1.out | exact KS0.out | exact (And.intro ((cell_set2 (fun e => by have e2 : w.heap.size = w.heap.size + 2 := e; omega) _ _).trans bx_c0) (And.intro ((cell_set2 (fun e => by have e2 : w.heap.size = w.heap.size + 2 := e; omega) _ _).trans bx_c1) (And.intro ((cell_set2 (fun e => by have e2 : w.heap.size + 1 = w.heap.size + 2 := e; omega) _ _).trans by_c0) ((cell_set2 (fun e => by have e2 : w.heap.size + 1 = w.heap.size + 2 := e; omega) _ _).trans by_c1)))) | go_keep)
  (first
   | (have _t := tok0; clear _t tok0; go_at_call 107; go_must (with_reducible refine (signed_any _ _).mono ?_); rintro e w1 ⟨b_fn, rfl, hb1, hb2, hbc, hB⟩; have HK1 := hid (Live.add_fn hb2 hbc (HK0.out.below hB)); have HB1 := hid (Below.steps HB0.out hB); clear bx_c0 bx_c1 bx_f0 bx_f1 by_c0 by_c1 by_f0 by_f1 br_c0 br_c1 br_f0 br_f1; clear HK0 HB0 hb1 hbc hB; have bx_c0 := HK1.out.tl.tl.tl.box.c0; have bx_c1 := HK1.out.tl.tl.tl.box.c1; have bx_f0 := HK1.out.tl.tl.tl.box.f0; have bx_f1 := HK1.out.tl.tl.tl.box.f1; have by_c0 := HK1.out.tl.tl.tl.tl.box.c0; have by_c1 := HK1.out.tl.tl.tl.tl.box.c1; have by_f0 := HK1.out.tl.tl.tl.tl.box.f0; have by_f1 := HK1.out.tl.tl.tl.tl.box.f1; have br_c0 := HK1.out.tl.tl.tl.tl.tl.box.c0; have br_c1 := HK1.out.tl.tl.tl.tl.tl.box.c1; have br_f0 := HK1.out.tl.tl.tl.tl.tl.box.f0; have br_f1 := HK1.out.tl.tl.tl.tl.tl.box.f1; have KS1 := hid (And.intro HK1.out.tl.tl.tl.box.c0 (And.intro HK1.out.tl.tl.tl.box.c1 (And.intro HK1.out.tl.tl.tl.tl.box.c0 (HK1.out.tl.tl.tl.tl.box.c1)))); have tok1 : True := trivial)
   | (have _t := tok1; clear _t tok1; go_at_call 121; go_must (with_reducible refine (add_any _ _ _ _ _ _ _ _ _ HK1.out.tl.sl HK1.out.tl.tl.sl (by omega) (by omega)).mono ?_); rintro e w2 ⟨t0, tn, tc, rfl, hT, hB⟩; have HK2 := hid (Live.add_sl hT.sl (HK1.out.below hB)); have HB2 := hid (Below.steps HB1.out hB); clear bx_c0 bx_c1 bx_f0 bx_f1 by_c0 by_c1 by_f0 by_f1 br_c0 br_c1 br_f0 br_f1; clear HK1 HB1 hT hB; have bx_c0 := HK2.out.tl.tl.tl.tl.box.c0; have bx_c1 := HK2.out.tl.tl.tl.tl.box.c1; have bx_f0 := HK2.out.tl.tl.tl.tl.box.f0; have bx_f1 := HK2.out.tl.tl.tl.tl.box.f1; have by_c0 := HK2.out.tl.tl.tl.tl.tl.box.c0; have by_c1 := HK2.out.tl.tl.tl.tl.tl.box.c1; have by_f0 := HK2.out.tl.tl.tl.tl.tl.box.f0; have by_f1 := HK2.out.tl.tl.tl.tl.tl.box.f1; have br_c0 := HK2.out.tl.tl.tl.tl.tl.tl.box.c0; have br_c1 := HK2.out.tl.tl.tl.tl.tl.tl.box.c1; have br_f0 := HK2.out.tl.tl.tl.tl.tl.tl.box.f0; have br_f1 := HK2.out.tl.tl.tl.tl.tl.tl.box.f1; have KS2 := hid (And.intro HK2.out.tl.tl.tl.tl.box.c0 (And.intro HK2.out.tl.tl.tl.tl.box.c1 (And.intro HK2.out.tl.tl.tl.tl.tl.box.c0 (HK2.out.tl.tl.tl.tl.tl.box.c1)))); have tok2 : True := trivial)
   | (have _t := tok2; clear _t tok2; go_at_call 127; go_must (with_reducible refine (close_any _ _ _ _ _ _ _ HK2.out.tl.fn HK2.out.sl).mono ?_); rintro e w3 ⟨rm, r0, rn, rc, rfl, hX, hB⟩; have HK3 := hid (HK2.out.below hB); have HB3 := hid (Below.steps HB2.out hB); clear bx_c0 bx_c1 bx_f0 bx_f1 by_c0 by_c1 by_f0 by_f1 br_c0 br_c1 br_f0 br_f1; clear HK2 HB2 hB; have bx_c0 := HK3.out.tl.tl.tl.tl.box.c0; have bx_c1 := HK3.out.tl.tl.tl.tl.box.c1; have bx_f0 := HK3.out.tl.tl.tl.tl.box.f0; have bx_f1 := HK3.out.tl.tl.tl.tl.box.f1; have by_c0 := HK3.out.tl.tl.tl.tl.tl.box.c0; have by_c1 := HK3.out.tl.tl.tl.tl.tl.box.c1; have by_f0 := HK3.out.tl.tl.tl.tl.tl.box.f0; have by_f1 := HK3.out.tl.tl.tl.tl.tl.box.f1; have br_c0 := HK3.out.tl.tl.tl.tl.tl.tl.box.c0; have br_c1 := HK3.out.tl.tl.tl.tl.tl.tl.box.c1; have br_f0 := HK3.out.tl.tl.tl.tl.tl.tl.box.f0; have br_f1 := HK3.out.tl.tl.tl.tl.tl.tl.box.f1; have KS3 := hid (And.intro HK3.out.tl.tl.tl.tl.box.c0 (And.intro HK3.out.tl.tl.tl.tl.box.c1 (And.intro HK3.out.tl.tl.tl.tl.tl.box.c0 (HK3.out.tl.tl.tl.tl.tl.box.c1)))); have tok3 : True := trivial))
 clear KS0 KS1 KS2 KS3; go_wp2_with fail
 refine bodyPost_ret (v := .agg #[.bool rm, .slice r0 rn rc]) (by simp [results, Tryz.results97, go_sem, br_c0, br_c1]) rfl ?_
 exact ⟨_, _, _, _, rfl, HZ.out ▸ hX.set2 HK3.out.tl.tl.tl.tl.tl.tl.box _ _, below_set2 HB3.out (by omega) _ _⟩
theorem wadd_ge [Ol] {m : Bool} {ao bo : Option Addr} {n cap l cb : Nat} {x y : Int} {w : World} (hx : Nx w m ao n cap x) (hy : Nx w (!m) bo l cb y) (hge : y.natAbs ≤ x.natAbs) :
  Calls Tryz.prog 97 #[.agg #[.bool m, .slice ao n cap], .agg #[.bool (!m), .slice bo l cb]] w (NewI w (x + y)) := by
 obtain ⟨⟨xs, hs, hz⟩, hle⟩ := hx; obtain ⟨⟨ys, ht, hz2⟩, hle2⟩ := hy; have hvx := zOf_abs m (val xs); have hvy := zOf_abs (!m) (val ys); rw [hz] at hvx; rw [hz2] at hvy
 have HGE : Hid (val ys ≤ val xs) := by rw [Hid, ← hvx, ← hvy]; exact hge
 have HZ : Hid (zOf m (val xs - val ys) = x + y) := by rw [Hid, zOf_sub m _ _ HGE.out, hz, hz2]
 obtain ⟨c, hc⟩ : ∃ c, c = cmpN (val xs) (val ys) := ⟨_, rfl⟩
 have hc0 : decide (c < 0) = false := by
  rw [hc]; unfold cmpN; rw [if_neg (by have := HGE.out; omega)]; split <;> simp
 have HC := hid hc.symm
 have hmm : (m == !m) = false := by cases m <;> rfl
 clear hz hz2 hc hvx hvy hge
 go_enter Tryz.func97, Tryz.ntmps97
 go_upto_region 1 with (fail)
 refine wp_world (fun W hW => ?_)
 have HB0 : Hid (Below w.heap.size w W) := by rw [hW]; exact step_alloc (step_alloc (below_alloc _ _))
 have hbx_bx : Box W (w.heap.size) m ao n cap := by rw [hW]; exact ((Box.new _ _ _ _ _ _ _ (by simp)).below (below_alloc _ _)).below (below_alloc _ _)
 have hbx_by : Box W (w.heap.size + 1) (!m) bo l cb := by rw [hW]; exact (Box.new _ _ _ _ _ _ _ (by simp)).below (below_alloc _ _)
 have hbx_br : Box W (w.heap.size + 2) false none 0 0 := by rw [hW]; exact Box.new _ _ _ _ _ _ _ (by simp)
 have HK0 := hid (Live.add_sl (hs.below HB0.out) (Live.add_sl (ht.below HB0.out) (Live.add_box hbx_bx (Live.add_box hbx_by (Live.add_box hbx_br (Live.nil W)))))); clear hW hbx_bx hbx_by hbx_br; have bx_c0 := HK0.out.tl.tl.box.c0; have bx_c1 := HK0.out.tl.tl.box.c1; have bx_f0 := HK0.out.tl.tl.box.f0; have bx_f1 := HK0.out.tl.tl.box.f1; have by_c0 := HK0.out.tl.tl.tl.box.c0; have by_c1 := HK0.out.tl.tl.tl.box.c1; have by_f0 := HK0.out.tl.tl.tl.box.f0; have by_f1 := HK0.out.tl.tl.tl.box.f1; have br_c0 := HK0.out.tl.tl.tl.tl.box.c0
 have br_c1 := HK0.out.tl.tl.tl.tl.box.c1; have br_f0 := HK0.out.tl.tl.tl.tl.box.f0; have br_f1 := HK0.out.tl.tl.tl.tl.box.f1; go_wp2_with fail; refine (cmp_b c _ _ _ _ _ _ _ _ _ HK0.out.sl HK0.out.tl.sl HC).mono ?_; rintro e w1 ⟨rfl, hB⟩; have HK1 := hid (HK0.out.below hB); have HB1 := hid (Below.steps HB0.out hB); clear bx_c0 bx_c1 bx_f0 bx_f1 by_c0 by_c1 by_f0 by_f1 br_c0 br_c1 br_f0 br_f1; clear HK0 HB0 hB; have bx_c0 := HK1.out.tl.tl.box.c0; have bx_c1 := HK1.out.tl.tl.box.c1; have bx_f0 := HK1.out.tl.tl.box.f0
 have bx_f1 := HK1.out.tl.tl.box.f1; have by_c0 := HK1.out.tl.tl.tl.box.c0; have by_c1 := HK1.out.tl.tl.tl.box.c1; have by_f0 := HK1.out.tl.tl.tl.box.f0; have by_f1 := HK1.out.tl.tl.tl.box.f1; have br_c0 := HK1.out.tl.tl.tl.tl.box.c0; have br_c1 := HK1.out.tl.tl.tl.tl.box.c1; have br_f0 := HK1.out.tl.tl.tl.tl.box.f0; have br_f1 := HK1.out.tl.tl.tl.tl.box.f1; go_wp2_with fail; refine (sub_any _ _ _ _ _ _ _ _ _ HK1.out.sl HK1.out.tl.sl HGE.out).mono ?_; rintro e w2 ⟨t0, tn, tc, rfl, hT, hB⟩; have HK2 := hid (Live.add_sl hT.sl (HK1.out.below hB))
 have HB2 := hid (Below.steps HB1.out hB); clear bx_c0 bx_c1 bx_f0 bx_f1 by_c0 by_c1 by_f0 by_f1 br_c0 br_c1 br_f0 br_f1; clear HK1 HB1 hT hB; have bx_c0 := HK2.out.tl.tl.tl.box.c0; have bx_c1 := HK2.out.tl.tl.tl.box.c1; have bx_f0 := HK2.out.tl.tl.tl.box.f0; have bx_f1 := HK2.out.tl.tl.tl.box.f1; have by_c0 := HK2.out.tl.tl.tl.tl.box.c0; have by_c1 := HK2.out.tl.tl.tl.tl.box.c1; have by_f0 := HK2.out.tl.tl.tl.tl.box.f0; have by_f1 := HK2.out.tl.tl.tl.tl.box.f1; have br_c0 := HK2.out.tl.tl.tl.tl.tl.box.c0
 have br_c1 := HK2.out.tl.tl.tl.tl.tl.box.c1; have br_f0 := HK2.out.tl.tl.tl.tl.tl.box.f0; have br_f1 := HK2.out.tl.tl.tl.tl.tl.box.f1; go_wp2_with fail; refine (signed_any _ _).mono ?_; rintro e w3 ⟨b, rfl, hb1, hb2, hbc, hB⟩; have HK3 := hid (Live.add_fn hb2 hbc (HK2.out.below hB)); have HB3 := hid (Below.steps HB2.out hB); clear bx_c0 bx_c1 bx_f0 bx_f1 by_c0 by_c1 by_f0 by_f1 br_c0 br_c1 br_f0 br_f1; clear HK2 HB2 hb1 hbc hB; have bx_c0 := HK3.out.tl.tl.tl.tl.box.c0; have bx_c1 := HK3.out.tl.tl.tl.tl.box.c1
 have bx_f0 := HK3.out.tl.tl.tl.tl.box.f0; have bx_f1 := HK3.out.tl.tl.tl.tl.box.f1; have by_c0 := HK3.out.tl.tl.tl.tl.tl.box.c0; have by_c1 := HK3.out.tl.tl.tl.tl.tl.box.c1; have by_f0 := HK3.out.tl.tl.tl.tl.tl.box.f0; have by_f1 := HK3.out.tl.tl.tl.tl.tl.box.f1; have br_c0 := HK3.out.tl.tl.tl.tl.tl.tl.box.c0; have br_c1 := HK3.out.tl.tl.tl.tl.tl.tl.box.c1; have br_f0 := HK3.out.tl.tl.tl.tl.tl.tl.box.f0; have br_f1 := HK3.out.tl.tl.tl.tl.tl.tl.box.f1; go_wp2_with fail; refine (close_any _ _ _ _ _ _ _ HK3.out.fn HK3.out.tl.sl).mono ?_
 rintro e w4 ⟨rm, r0, rn, rc, rfl, hX, hB⟩; have HK4 := hid (HK3.out.below hB); have HB4 := hid (Below.steps HB3.out hB); clear bx_c0 bx_c1 bx_f0 bx_f1 by_c0 by_c1 by_f0 by_f1 br_c0 br_c1 br_f0 br_f1; clear HK3 HB3 hB; have bx_c0 := HK4.out.tl.tl.tl.tl.box.c0; have bx_c1 := HK4.out.tl.tl.tl.tl.box.c1; have bx_f0 := HK4.out.tl.tl.tl.tl.box.f0; have bx_f1 := HK4.out.tl.tl.tl.tl.box.f1; have by_c0 := HK4.out.tl.tl.tl.tl.tl.box.c0; have by_c1 := HK4.out.tl.tl.tl.tl.tl.box.c1; have by_f0 := HK4.out.tl.tl.tl.tl.tl.box.f0
 have by_f1 := HK4.out.tl.tl.tl.tl.tl.box.f1; have br_c0 := HK4.out.tl.tl.tl.tl.tl.tl.box.c0; have br_c1 := HK4.out.tl.tl.tl.tl.tl.tl.box.c1; have br_f0 := HK4.out.tl.tl.tl.tl.tl.tl.box.f0; have br_f1 := HK4.out.tl.tl.tl.tl.tl.tl.box.f1; go_wp2_with fail
 refine bodyPost_ret (v := .agg #[.bool rm, .slice r0 rn rc]) (by simp [results, Tryz.results97, go_sem, br_c0, br_c1]) rfl ?_
 exact ⟨_, _, _, _, rfl, HZ.out ▸ hX.set2 HK4.out.tl.tl.tl.tl.tl.tl.box _ _, below_set2 HB4.out (by omega) _ _⟩
theorem wadd_lt [Ol] {m : Bool} {ao bo : Option Addr} {n cap l cb : Nat} {x y : Int} {w : World} (hx : Nx w m ao n cap x) (hy : Nx w (!m) bo l cb y) (hlt : x.natAbs < y.natAbs) :
  Calls Tryz.prog 97 #[.agg #[.bool m, .slice ao n cap], .agg #[.bool (!m), .slice bo l cb]] w (NewI w (x + y)) := by
 obtain ⟨⟨xs, hs, hz⟩, hle⟩ := hx; obtain ⟨⟨ys, ht, hz2⟩, hle2⟩ := hy; have hvx := zOf_abs m (val xs); have hvy := zOf_abs (!m) (val ys); rw [hz] at hvx; rw [hz2] at hvy
 have HGE : Hid (val xs ≤ val ys) := by rw [Hid, ← hvx, ← hvy]; omega
 have HZ : Hid (zOf (!m) (val ys - val xs) = x + y) := by rw [Hid, zOf_sub (!m) _ _ HGE.out, hz2, Bool.not_not, hz, Int.add_comm]
 have HC : Hid (cmpN (val xs) (val ys) = -1) := by rw [Hid]; unfold cmpN; rw [if_pos (by omega)]
 have hmm : (m == !m) = false := by cases m <;> rfl
 clear hz hz2 hvx hvy hlt
 go_enter Tryz.func97, Tryz.ntmps97
 go_upto_region 1 with (fail)
 refine wp_world (fun W hW => ?_)
 have HB0 : Hid (Below w.heap.size w W) := by rw [hW]; exact step_alloc (step_alloc (below_alloc _ _))
 have hbx_bx : Box W (w.heap.size) m ao n cap := by rw [hW]; exact ((Box.new _ _ _ _ _ _ _ (by simp)).below (below_alloc _ _)).below (below_alloc _ _)
 have hbx_by : Box W (w.heap.size + 1) (!m) bo l cb := by rw [hW]; exact (Box.new _ _ _ _ _ _ _ (by simp)).below (below_alloc _ _)
 have hbx_br : Box W (w.heap.size + 2) false none 0 0 := by rw [hW]; exact Box.new _ _ _ _ _ _ _ (by simp)
 have HK0 := hid (Live.add_sl (hs.below HB0.out) (Live.add_sl (ht.below HB0.out) (Live.add_box hbx_bx (Live.add_box hbx_by (Live.add_box hbx_br (Live.nil W)))))); clear hW hbx_bx hbx_by hbx_br; have bx_c0 := HK0.out.tl.tl.box.c0; have bx_c1 := HK0.out.tl.tl.box.c1; have bx_f0 := HK0.out.tl.tl.box.f0; have bx_f1 := HK0.out.tl.tl.box.f1; have by_c0 := HK0.out.tl.tl.tl.box.c0; have by_c1 := HK0.out.tl.tl.tl.box.c1; have by_f0 := HK0.out.tl.tl.tl.box.f0; have by_f1 := HK0.out.tl.tl.tl.box.f1; have br_c0 := HK0.out.tl.tl.tl.tl.box.c0
 have br_c1 := HK0.out.tl.tl.tl.tl.box.c1; have br_f0 := HK0.out.tl.tl.tl.tl.box.f0; have br_f1 := HK0.out.tl.tl.tl.tl.box.f1; go_wp2_with fail; refine (cmp_b (-1) _ _ _ _ _ _ _ _ _ HK0.out.sl HK0.out.tl.sl HC).mono ?_; rintro e w1 ⟨rfl, hB⟩; have HK1 := hid (HK0.out.below hB); have HB1 := hid (Below.steps HB0.out hB); clear bx_c0 bx_c1 bx_f0 bx_f1 by_c0 by_c1 by_f0 by_f1 br_c0 br_c1 br_f0 br_f1; clear HK0 HB0 hB; have bx_c0 := HK1.out.tl.tl.box.c0; have bx_c1 := HK1.out.tl.tl.box.c1; have bx_f0 := HK1.out.tl.tl.box.f0
 have bx_f1 := HK1.out.tl.tl.box.f1; have by_c0 := HK1.out.tl.tl.tl.box.c0; have by_c1 := HK1.out.tl.tl.tl.box.c1; have by_f0 := HK1.out.tl.tl.tl.box.f0; have by_f1 := HK1.out.tl.tl.tl.box.f1; have br_c0 := HK1.out.tl.tl.tl.tl.box.c0; have br_c1 := HK1.out.tl.tl.tl.tl.box.c1; have br_f0 := HK1.out.tl.tl.tl.tl.box.f0; have br_f1 := HK1.out.tl.tl.tl.tl.box.f1
 go_upto_region 5 with (fail)
 refine wp_world (fun W2 hW2 => ?_)
 have hX2 : Box W2 (w.heap.size) (!m) bo l cb := by rw [hW2]; exact (HK1.out.tl.tl.box.set _ _ _ _).far (by omega) _ _
 have hY2 : Box W2 (w.heap.size + 1) m ao n cap := by rw [hW2]; exact (HK1.out.tl.tl.tl.box.far (by omega) _ _).set _ _ _ _
 have hR2 : Box W2 (w.heap.size + 2) false none 0 0 := by rw [hW2]; exact (HK1.out.tl.tl.tl.tl.box.far (by omega) _ _).far (by omega) _ _
 have hxs2 : Sl W2 ao n cap xs := by rw [hW2]; exact sl_set2 (sl_set2 HK1.out.sl HK1.out.tl.tl.box _ _) (HK1.out.tl.tl.tl.box.far (by omega) _ _) _ _
 have hys2 : Sl W2 bo l cb ys := by rw [hW2]; exact sl_set2 (sl_set2 HK1.out.tl.sl HK1.out.tl.tl.box _ _) (HK1.out.tl.tl.tl.box.far (by omega) _ _) _ _
 have HB2 : Hid (Below w.heap.size w W2) := by rw [hW2]; exact below_set2 (below_set2 HB1.out (by omega) _ _) (by omega) _ _
 have HK2 := hid (Live.add_sl hxs2 (Live.add_sl hys2 (Live.add_box hX2 (Live.add_box hY2 (Live.add_box hR2 (Live.nil W2)))))); clear bx_c0 bx_c1 bx_f0 bx_f1 by_c0 by_c1 by_f0 by_f1 br_c0 br_c1 br_f0 br_f1; clear hW2 hX2 hY2 hR2 hxs2 hys2 HK1 HB1; have bx_c0 := HK2.out.tl.tl.box.c0; have bx_c1 := HK2.out.tl.tl.box.c1; have bx_f0 := HK2.out.tl.tl.box.f0; have bx_f1 := HK2.out.tl.tl.box.f1; have by_c0 := HK2.out.tl.tl.tl.box.c0; have by_c1 := HK2.out.tl.tl.tl.box.c1; have by_f0 := HK2.out.tl.tl.tl.box.f0
 have by_f1 := HK2.out.tl.tl.tl.box.f1; have br_c0 := HK2.out.tl.tl.tl.tl.box.c0; have br_c1 := HK2.out.tl.tl.tl.tl.box.c1; have br_f0 := HK2.out.tl.tl.tl.tl.box.f0; have br_f1 := HK2.out.tl.tl.tl.tl.box.f1; go_wp2_with fail; refine (sub_any _ _ _ _ _ _ _ _ _ HK2.out.tl.sl HK2.out.sl HGE.out).mono ?_; rintro e w3 ⟨t0, tn, tc, rfl, hT, hB⟩; have HK3 := hid (Live.add_sl hT.sl (HK2.out.below hB)); have HB3 := hid (Below.steps HB2.out hB); clear bx_c0 bx_c1 bx_f0 bx_f1 by_c0 by_c1 by_f0 by_f1 br_c0 br_c1 br_f0 br_f1
 clear HK2 HB2 hT hB; have bx_c0 := HK3.out.tl.tl.tl.box.c0; have bx_c1 := HK3.out.tl.tl.tl.box.c1; have bx_f0 := HK3.out.tl.tl.tl.box.f0; have bx_f1 := HK3.out.tl.tl.tl.box.f1; have by_c0 := HK3.out.tl.tl.tl.tl.box.c0; have by_c1 := HK3.out.tl.tl.tl.tl.box.c1; have by_f0 := HK3.out.tl.tl.tl.tl.box.f0; have by_f1 := HK3.out.tl.tl.tl.tl.box.f1; have br_c0 := HK3.out.tl.tl.tl.tl.tl.box.c0; have br_c1 := HK3.out.tl.tl.tl.tl.tl.box.c1; have br_f0 := HK3.out.tl.tl.tl.tl.tl.box.f0; have br_f1 := HK3.out.tl.tl.tl.tl.tl.box.f1
 go_wp2_with fail; refine (signed_any _ _).mono ?_
 rintro e w4 ⟨b, rfl, hb1, hb2, hbc, hB⟩; have HK4 := hid (Live.add_fn hb2 hbc (HK3.out.below hB)); have HB4 := hid (Below.steps HB3.out hB); clear bx_c0 bx_c1 bx_f0 bx_f1 by_c0 by_c1 by_f0 by_f1 br_c0 br_c1 br_f0 br_f1; clear HK3 HB3 hb1 hbc hB; have bx_c0 := HK4.out.tl.tl.tl.tl.box.c0; have bx_c1 := HK4.out.tl.tl.tl.tl.box.c1; have bx_f0 := HK4.out.tl.tl.tl.tl.box.f0; have bx_f1 := HK4.out.tl.tl.tl.tl.box.f1; have by_c0 := HK4.out.tl.tl.tl.tl.tl.box.c0; have by_c1 := HK4.out.tl.tl.tl.tl.tl.box.c1
 have by_f0 := HK4.out.tl.tl.tl.tl.tl.box.f0; have by_f1 := HK4.out.tl.tl.tl.tl.tl.box.f1; have br_c0 := HK4.out.tl.tl.tl.tl.tl.tl.box.c0; have br_c1 := HK4.out.tl.tl.tl.tl.tl.tl.box.c1; have br_f0 := HK4.out.tl.tl.tl.tl.tl.tl.box.f0; have br_f1 := HK4.out.tl.tl.tl.tl.tl.tl.box.f1; go_wp2_with fail; refine (close_any _ _ _ _ _ _ _ HK4.out.fn HK4.out.tl.sl).mono ?_; rintro e w5 ⟨rm, r0, rn, rc, rfl, hX, hB⟩; have HK5 := hid (HK4.out.below hB); have HB5 := hid (Below.steps HB4.out hB); clear bx_c0 bx_c1 bx_f0 bx_f1 by_c0 by_c1 by_f0 by_f1 br_c0 br_c1 br_f0 br_f1
 clear HK4 HB4 hB; have bx_c0 := HK5.out.tl.tl.tl.tl.box.c0; have bx_c1 := HK5.out.tl.tl.tl.tl.box.c1; have bx_f0 := HK5.out.tl.tl.tl.tl.box.f0; have bx_f1 := HK5.out.tl.tl.tl.tl.box.f1; have by_c0 := HK5.out.tl.tl.tl.tl.tl.box.c0; have by_c1 := HK5.out.tl.tl.tl.tl.tl.box.c1; have by_f0 := HK5.out.tl.tl.tl.tl.tl.box.f0; have by_f1 := HK5.out.tl.tl.tl.tl.tl.box.f1; have br_c0 := HK5.out.tl.tl.tl.tl.tl.tl.box.c0; have br_c1 := HK5.out.tl.tl.tl.tl.tl.tl.box.c1; have br_f0 := HK5.out.tl.tl.tl.tl.tl.tl.box.f0
 have br_f1 := HK5.out.tl.tl.tl.tl.tl.tl.box.f1; go_wp2_with fail
 refine bodyPost_ret (v := .agg #[.bool rm, .slice r0 rn rc]) (by simp [results, Tryz.results97, go_sem, br_c0, br_c1]) rfl ?_
 exact ⟨_, _, _, _, rfl, HZ.out ▸ hX.set2 HK5.out.tl.tl.tl.tl.tl.tl.box _ _, below_set2 HB5.out (by omega) _ _⟩
theorem wadd_any [Ol] {m k : Bool} {ao bo : Option Addr} {n cap l cb : Nat} {x y : Int} {w : World} (hx : Nx w m ao n cap x) (hy : Nx w k bo l cb y) :
  Calls Tryz.prog 97 #[.agg #[.bool m, .slice ao n cap], .agg #[.bool k, .slice bo l cb]] w (NewI w (x + y)) := by
 by_cases hmk : k = m
 ·subst hmk; exact wadd_same hx hy
 ·obtain rfl : k = !m := by cases m <;> cases k <;> simp at hmk ⊢
  by_cases h : y.natAbs ≤ x.natAbs
  ·exact wadd_ge hx hy h
  ·exact wadd_lt hx hy (by omega)
theorem Nx.neg {m : Bool} {ao : Option Addr} {n cap : Nat} {x : Int} {w : World} (h : Nx w m ao n cap x) : Nx w (!m) ao n cap (-x) := by
 obtain ⟨⟨xs, hs, hz⟩, hle⟩ := h
 exact ⟨⟨xs, hs, by rw [zOf_not, hz]⟩, hle⟩
theorem wmay_z [Ol] {m : Bool} {ao : Option Addr} {cap : Nat} {xs : List Nat} {w : World} (r : Bool) (hs : Sl w ao 0 cap xs) (h : mayB m 0 xs = r) :
  Calls Tryz.prog 55 #[.agg #[.bool m, .slice ao 0 cap]] w (RetB (.bool r) w) := by
 have hbig := hs.big
 obtain rfl : r = !m := by rw [← h]; unfold mayB; rw [if_pos rfl]
 go_enter Tryz.func55, Tryz.ntmps55
 go_upto_region 1 with (fail)
 refine wp_world (fun W hW => ?_)
 have HB0 : Hid (Below w.heap.size w W) := by rw [hW]; exact below_alloc _ _
 have hbx_bx : Box W (w.heap.size) m ao 0 cap := by rw [hW]; exact Box.new _ _ _ _ _ _ _ (by simp)
 have HK0 := Lib.hid (Live.add_box hbx_bx (Live.nil W)); clear hW hbx_bx; have bx_c0 := HK0.out.box.c0; have bx_c1 := HK0.out.box.c1; have bx_f0 := HK0.out.box.f0; have bx_f1 := HK0.out.box.f1; go_wp2_with fail
 go_ret
 exact ⟨rfl, HB0.out⟩
theorem wmay_p [Ol] {m : Bool} {ao : Option Addr} {n cap : Nat} {xs : List Nat} {w : World} (r : Bool) (hs : Sl w ao n cap xs) (h : mayB m n xs = r) (h0 : 0 < n) :
  Calls Tryz.prog 55 #[.agg #[.bool m, .slice ao n cap]] w (RetB (.bool r) w) := by
 have hbig := hs.big
 obtain ⟨b, off, rfl, hbb, hcell⟩ := hs.at (by omega)
 obtain ⟨j, rfl⟩ : ∃ j, n = j + 1 := ⟨n - 1, by omega⟩
 have hc := hcell j (by omega)
 obtain ⟨u, hu⟩ : ∃ u, u = xs.getD j 0 := ⟨_, rfl⟩; rw [← hu] at hc
 have hr : (((u : Nat) : Int) != 0) = r := by
  rw [← h]; unfold mayB; rw [if_neg (by omega), Nat.add_sub_cancel, ← hu]
  rw [Bool.eq_iff_iff]; simp
 have hz : ((((j + 1 : Nat)) : Int) == 0) = false := by simp; omega
 have ej : (((j + 1 : Nat)) : Int) - 1 = (j : Int) := by omega
 clear hcell hu h
 go_enter Tryz.func55, Tryz.ntmps55
 go_upto_region 1 with (fail)
 refine wp_world (fun W hW => ?_)
 have HB0 : Hid (Below w.heap.size w W) := by rw [hW]; exact below_alloc _ _
 have hbx_bx : Box W (w.heap.size) m (some ⟨b, off, none⟩) (j + 1) cap := by rw [hW]; exact Box.new _ _ _ _ _ _ _ (by simp)
 have HK0 := Lib.hid (Live.add_box hbx_bx (Live.nil W)); clear hW hbx_bx; have bx_c0 := HK0.out.box.c0; have bx_c1 := HK0.out.box.c1; have bx_f0 := HK0.out.box.f0; have bx_f1 := HK0.out.box.f1
 have hcW : W.cell? ⟨b, off + j, none⟩ = some (.int .u32 ((u : Nat) : Int)) := (HB0.out.cell (by exact hbb)).trans hc
 go_wp2_with fail
 go_ret
 exact ⟨rfl, HB0.out⟩
theorem wmay_is [Ol] {m : Bool} {ao : Option Addr} {n cap : Nat} {xs : List Nat} {w : World} (r : Bool) (hs : Sl w ao n cap xs) (h : mayB m n xs = r) :
  Calls Tryz.prog 55 #[.agg #[.bool m, .slice ao n cap]] w (RetB (.bool r) w) := by
 rcases Nat.eq_zero_or_pos n with h0 | h0
 ·subst h0; exact wmay_z r hs h
 ·exact wmay_p r hs h h0
end Go.Proofs.YtmmgipcacceakaaGreat

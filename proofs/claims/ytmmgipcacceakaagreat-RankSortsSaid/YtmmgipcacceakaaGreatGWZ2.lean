/- WZAdd, WZDiv -/
import Derived.Test.YtmmgipcacceakaaGreatGWZ
import Derived.Test.YtmmgipcacceakaaGreatGWD
set_option maxHeartbeats 40000000
set_option maxRecDepth 100000
namespace Go.Proofs.YtmmgipcacceakaaGreat
open Lib (hid)
open Go.RowKit
theorem zadd_same [Ol] {m : Bool} {ao bo : Option Addr} {n cap l cb : Nat} {x y : Int} {w : World} (hx : Zx w m ao n cap x) (hy : Zx w m bo l cb y) :
  Calls Tryz.prog 90 #[.agg #[.bool m, .slice ao n cap], .agg #[.bool m, .slice bo l cb]] w (NewZ w (x + y)) := by
 have hle := hx.le; have hle2 := hy.le
 have HX : Hid (zOf m x.natAbs = x) := hx.zd.val
 have HY : Hid (zOf m y.natAbs = y) := hy.zd.val
 have HNX := hid hx.zd.neg; have HNY := hid hy.zd.neg
 go_enter Tryz.func90, Tryz.ntmps90
 go_upto_region 1 with (fail)
 refine wp_world (fun W hW => ?_)
 have HB0 : Hid (Below w.heap.size w W) := by rw [hW]; exact step_alloc (step_alloc (below_alloc _ _))
 have hbx_bx : Box W (w.heap.size) m ao n cap := by rw [hW]; exact ((Box.new _ _ _ _ _ _ _ (by simp)).below (below_alloc _ _)).below (below_alloc _ _)
 have hbx_by : Box W (w.heap.size + 1) m bo l cb := by rw [hW]; exact (Box.new _ _ _ _ _ _ _ (by simp)).below (below_alloc _ _)
 have hbx_br : Box W (w.heap.size + 2) false none 0 0 := by rw [hW]; exact Box.new _ _ _ _ _ _ _ (by simp)
 have HK0 := hid (Live.add_zed (hx.below HB0.out) (Live.add_zed (hy.below HB0.out) (Live.add_box hbx_bx (Live.add_box hbx_by (Live.add_box hbx_br (Live.nil W)))))); clear hW hbx_bx hbx_by hbx_br; have bx_c0 := HK0.out.tl.tl.box.c0; have bx_c1 := HK0.out.tl.tl.box.c1; have bx_f0 := HK0.out.tl.tl.box.f0; have bx_f1 := HK0.out.tl.tl.box.f1; have by_c0 := HK0.out.tl.tl.tl.box.c0; have by_c1 := HK0.out.tl.tl.tl.box.c1; have by_f0 := HK0.out.tl.tl.tl.box.f0; have by_f1 := HK0.out.tl.tl.tl.box.f1; have br_c0 := HK0.out.tl.tl.tl.tl.box.c0
 have br_c1 := HK0.out.tl.tl.tl.tl.box.c1; have br_f0 := HK0.out.tl.tl.tl.tl.box.f0; have br_f1 := HK0.out.tl.tl.tl.tl.box.f1; go_wp2_with fail; have HK0d := hid (HK0.out.below ((Below.refl _ _).drew)); have HB0d := hid HB0.out.drew; clear bx_c0 bx_c1 bx_f0 bx_f1 by_c0 by_c1 by_f0 by_f1 br_c0 br_c1 br_f0 br_f1; clear HK0 HB0; have HK0 := hid HK0d.out; have HB0 := hid HB0d.out; clear HK0d HB0d; have bx_c0 := HK0.out.tl.tl.box.c0; have bx_c1 := HK0.out.tl.tl.box.c1; have bx_f0 := HK0.out.tl.tl.box.f0
 have bx_f1 := HK0.out.tl.tl.box.f1; have by_c0 := HK0.out.tl.tl.tl.box.c0; have by_c1 := HK0.out.tl.tl.tl.box.c1; have by_f0 := HK0.out.tl.tl.tl.box.f0; have by_f1 := HK0.out.tl.tl.tl.box.f1; have br_c0 := HK0.out.tl.tl.tl.tl.box.c0; have br_c1 := HK0.out.tl.tl.tl.tl.box.c1; have br_f0 := HK0.out.tl.tl.tl.tl.box.f0; have br_f1 := HK0.out.tl.tl.tl.tl.box.f1
 refine wp_region_held_drew (S := fun w' => w'.cell? ⟨w.heap.size, 0, none⟩ = some (.bool m) ∧ w'.cell? ⟨w.heap.size, 1, none⟩ = some (.slice ao n cap) ∧ w'.cell? ⟨w.heap.size + 1, 0, none⟩ = some (.bool m) ∧ w'.cell? ⟨w.heap.size + 1, 1, none⟩ = some (.slice bo l cb)) (by kernel_rfl) (And.intro HK0.out.tl.tl.box.c0 (And.intro HK0.out.tl.tl.box.c1 (And.intro HK0.out.tl.tl.tl.box.c0 (HK0.out.tl.tl.tl.box.c1)))) (fun hHeld => ?_)
 refine step_on 0 rfl (by kernel_rfl) (fun _ _ _ h => h) (by rfl) hHeld (by intro w hSw; first | (go_simp; done) | (go_simp; with_reducible rfl)) ?_
 try simp only [Act.put, List.setIfInBounds_toArray, List.set_cons_zero, List.set_cons_succ]
 refine step_on 1 rfl (by kernel_rfl) (fun _ _ _ h => h) (by rfl) hHeld (by intro w hSw; first | (go_simp; done) | (go_simp; with_reducible rfl)) ?_
 try simp only [Act.put, List.setIfInBounds_toArray, List.set_cons_zero, List.set_cons_succ]
 refine step_on 2 rfl (by kernel_rfl) (fun _ _ _ h => h) (by rfl) hHeld (by intro w hSw; first | (go_simp; done) | (go_simp; with_reducible rfl)) ?_
 try simp only [Act.put, List.setIfInBounds_toArray, List.set_cons_zero, List.set_cons_succ]
 refine step_on 3 rfl (by kernel_rfl) (fun _ _ _ h => h) (by rfl) hHeld (by intro w hSw; first | (go_simp; done) | (go_simp; with_reducible rfl)) ?_
 try simp only [Act.put, List.setIfInBounds_toArray, List.set_cons_zero, List.set_cons_succ]
 refine step_on 4 rfl (by kernel_rfl) (fun _ _ _ h => h) (by rfl) hHeld (by intro w hSw; first | (go_simp; done) | (go_simp; with_reducible rfl)) ?_
 try simp only [Act.put, List.setIfInBounds_toArray, List.set_cons_zero, List.set_cons_succ]
 refine step_on 5 rfl (by kernel_rfl) (fun _ _ _ h => h) (by rfl) hHeld (by intro w hSw; first | (go_simp; done) | (go_simp; with_reducible rfl)) ?_
 try simp only [Act.put, List.setIfInBounds_toArray, List.set_cons_zero, List.set_cons_succ]
 refine step_one 6 rfl (by kernel_rfl) (fun K hK => ?_)
 go_simp
 refine (Dg.add_any _ _ _ _ _ _ _ _ _ HK0.out.zed.zd.sl HK0.out.tl.zed.zd.sl (by omega) (by omega)).mono ?_
 rintro e w1 ⟨d0, dn, dc, rfl, hT, hB⟩; rw [Dg.val_limbs, Dg.val_limbs] at hT; have HT := hid hT.sl; have HK1 := hid (HK0.out.below hB); have HB1 := hid (Below.steps HB0.out hB); clear bx_c0 bx_c1 bx_f0 bx_f1 by_c0 by_c1 by_f0 by_f1 br_c0 br_c1 br_f0 br_f1; clear HK0 HB0 hT hB; have bx_c0 := HK1.out.tl.tl.box.c0; have bx_c1 := HK1.out.tl.tl.box.c1; have bx_f0 := HK1.out.tl.tl.box.f0; have bx_f1 := HK1.out.tl.tl.box.f1; have by_c0 := HK1.out.tl.tl.tl.box.c0; have by_c1 := HK1.out.tl.tl.tl.box.c1; have by_f0 := HK1.out.tl.tl.tl.box.f0
 have by_f1 := HK1.out.tl.tl.tl.box.f1; have br_c0 := HK1.out.tl.tl.tl.tl.box.c0; have br_c1 := HK1.out.tl.tl.tl.tl.box.c1; have br_f0 := HK1.out.tl.tl.tl.tl.box.f0; have br_f1 := HK1.out.tl.tl.tl.tl.box.f1; go_wp2_with fail
 refine hK.out _ _ (And.intro HK1.out.tl.tl.box.c0 (And.intro HK1.out.tl.tl.box.c1 (And.intro HK1.out.tl.tl.tl.box.c0 (HK1.out.tl.tl.tl.box.c1)))) (fun hHeld2 => ?_)
 clear hK K hHeld; have hHeld := hHeld2; clear hHeld2
 try simp only [Act.put, List.setIfInBounds_toArray, List.set_cons_zero, List.set_cons_succ]
 refine step_on 7 rfl (by kernel_rfl) (fun _ _ _ h => h) (by rfl) hHeld (by intro w hSw; first | (go_simp; done) | (go_simp; with_reducible rfl)) ?_
 try simp only [Act.put, List.setIfInBounds_toArray, List.set_cons_zero, List.set_cons_succ]
 refine step_one 8 rfl (by kernel_rfl) (fun K hK => ?_)
 go_simp
 refine hK.out _ _ ((And.intro ((cell_set2 (fun e => by have e2 : w.heap.size = w.heap.size + 2 := e; omega) _ _).trans bx_c0) (And.intro ((cell_set2 (fun e => by have e2 : w.heap.size = w.heap.size + 2 := e; omega) _ _).trans bx_c1) (And.intro ((cell_set2 (fun e => by have e2 : w.heap.size + 1 = w.heap.size + 2 := e; omega) _ _).trans by_c0) ((cell_set2 (fun e => by have e2 : w.heap.size + 1 = w.heap.size + 2 := e; omega) _ _).trans by_c1))))) (fun hHeld2 => ?_)
 clear hK K hHeld
 try simp only [Act.put, List.setIfInBounds_toArray, List.set_cons_zero, List.set_cons_succ]
 refine wpAnyH_done (by kernel_rfl) ?_ _
 go_wp2_with fail
 have HC : Hid (Zd w1 m d0 dn dc (x + y)) := by
  have h1 := HX.out; have h2 := HY.out; have h3 := HNX.out; have h4 := HNY.out
  have e : (x + y).natAbs = x.natAbs + y.natAbs := by cases m <;> simp at h3 h4 <;> omega
  exact ⟨by cases m <;> simp at h3 h4 ⊢ <;> omega, by rw [e]; exact HT.out⟩
 refine bodyPost_ret (v := .agg #[.bool m, .slice d0 dn dc]) (by simp [results, Tryz.results90, go_sem, br_c0, br_c1]) rfl ?_
 exact ⟨_, _, _, _, rfl, HC.out.set2 HK1.out.tl.tl.tl.tl.box _ _, below_set2 HB1.out (by omega) _ _⟩
theorem zadd_ge_true [Ol] {ao bo : Option Addr} {n cap l cb : Nat} {x y : Int} {w : World} (hx : Zx w true ao n cap x) (hy : Zx w false bo l cb y) (hge : y.natAbs ≤ x.natAbs) :
  Calls Tryz.prog 90 #[.agg #[.bool true, .slice ao n cap], .agg #[.bool false, .slice bo l cb]] w (NewZ w (x + y)) := by
 have hle := hx.le; have hle2 := hy.le
 have HX : Hid (zOf true x.natAbs = x) := hx.zd.val
 have HY : Hid (zOf false y.natAbs = y) := hy.zd.val
 obtain ⟨c, hc⟩ : ∃ c, c = cmpN x.natAbs y.natAbs := ⟨_, rfl⟩
 have hc0 : decide (c < 0) = false := by
  rw [hc]; unfold cmpN; rw [if_neg (by omega)]; split <;> simp
 have HC := hid hc.symm; have HGE := hid hge; clear hc hge
 go_enter Tryz.func90, Tryz.ntmps90
 go_upto_region 1 with (fail)
 refine wp_world (fun W hW => ?_)
 have HB0 : Hid (Below w.heap.size w W) := by rw [hW]; exact step_alloc (step_alloc (below_alloc _ _))
 have hbx_bx : Box W (w.heap.size) true ao n cap := by rw [hW]; exact ((Box.new _ _ _ _ _ _ _ (by simp)).below (below_alloc _ _)).below (below_alloc _ _)
 have hbx_by : Box W (w.heap.size + 1) false bo l cb := by rw [hW]; exact (Box.new _ _ _ _ _ _ _ (by simp)).below (below_alloc _ _)
 have hbx_br : Box W (w.heap.size + 2) false none 0 0 := by rw [hW]; exact Box.new _ _ _ _ _ _ _ (by simp)
 have HK0 := hid (Live.add_zed (hx.below HB0.out) (Live.add_zed (hy.below HB0.out) (Live.add_box hbx_bx (Live.add_box hbx_by (Live.add_box hbx_br (Live.nil W)))))); clear hW hbx_bx hbx_by hbx_br; have bx_c0 := HK0.out.tl.tl.box.c0; have bx_c1 := HK0.out.tl.tl.box.c1; have bx_f0 := HK0.out.tl.tl.box.f0; have bx_f1 := HK0.out.tl.tl.box.f1; have by_c0 := HK0.out.tl.tl.tl.box.c0; have by_c1 := HK0.out.tl.tl.tl.box.c1; have by_f0 := HK0.out.tl.tl.tl.box.f0; have by_f1 := HK0.out.tl.tl.tl.box.f1; have br_c0 := HK0.out.tl.tl.tl.tl.box.c0
 have br_c1 := HK0.out.tl.tl.tl.tl.box.c1; have br_f0 := HK0.out.tl.tl.tl.tl.box.f0; have br_f1 := HK0.out.tl.tl.tl.tl.box.f1; go_wp2_with fail; refine (Dg.cmp_is c _ _ _ _ _ _ _ _ _ HK0.out.zed.zd.sl HK0.out.tl.zed.zd.sl HC).mono ?_; rintro e w1 ⟨rfl, hB⟩; have HK1 := hid (HK0.out.below hB); have HB1 := hid (Below.steps HB0.out hB); clear bx_c0 bx_c1 bx_f0 bx_f1 by_c0 by_c1 by_f0 by_f1 br_c0 br_c1 br_f0 br_f1; clear HK0 HB0 hB; have bx_c0 := HK1.out.tl.tl.box.c0; have bx_c1 := HK1.out.tl.tl.box.c1
 have bx_f0 := HK1.out.tl.tl.box.f0; have bx_f1 := HK1.out.tl.tl.box.f1; have by_c0 := HK1.out.tl.tl.tl.box.c0; have by_c1 := HK1.out.tl.tl.tl.box.c1; have by_f0 := HK1.out.tl.tl.tl.box.f0; have by_f1 := HK1.out.tl.tl.tl.box.f1; have br_c0 := HK1.out.tl.tl.tl.tl.box.c0; have br_c1 := HK1.out.tl.tl.tl.tl.box.c1; have br_f0 := HK1.out.tl.tl.tl.tl.box.f0; have br_f1 := HK1.out.tl.tl.tl.tl.box.f1; go_wp2_with fail
 refine (Dg.sub_any _ _ _ _ _ _ _ _ _ HK1.out.zed.zd.sl HK1.out.tl.zed.zd.sl HGE.out (by omega)).mono ?_
 rintro e w2 ⟨d0, dn, dc, rfl, hT, hB⟩; have HT := hid hT.sl; have hdb := hT.big; have HK2 := hid (HK1.out.below hB); have HB2 := hid (Below.steps HB1.out hB); clear bx_c0 bx_c1 bx_f0 bx_f1 by_c0 by_c1 by_f0 by_f1 br_c0 br_c1 br_f0 br_f1; clear HK1 HB1 hT hB; have bx_c0 := HK2.out.tl.tl.box.c0; have bx_c1 := HK2.out.tl.tl.box.c1; have bx_f0 := HK2.out.tl.tl.box.f0; have bx_f1 := HK2.out.tl.tl.box.f1; have by_c0 := HK2.out.tl.tl.tl.box.c0; have by_c1 := HK2.out.tl.tl.tl.box.c1; have by_f0 := HK2.out.tl.tl.tl.box.f0
 have by_f1 := HK2.out.tl.tl.tl.box.f1; have br_c0 := HK2.out.tl.tl.tl.tl.box.c0; have br_c1 := HK2.out.tl.tl.tl.tl.box.c1; have br_f0 := HK2.out.tl.tl.tl.tl.box.f0; have br_f1 := HK2.out.tl.tl.tl.tl.box.f1; go_wp2_with fail
 have HZ : Hid (Zd w2 (decide (0 < dn)) d0 dn dc (zOf true (x.natAbs - y.natAbs))) := Zd.of HT.out (by simp)
 have HE : Hid (zOf true (x.natAbs - y.natAbs) = x + y) := by
  have h1 := HX.out; have h2 := HY.out; have h3 := HGE.out
  unfold zOf at h1 h2
  rw [Hid]
  unfold zOf
  simp at h1 h2 ⊢
  omega
 refine bodyPost_ret (v := .agg #[.bool (decide (0 < dn)), .slice d0 dn dc]) (by simp [results, Tryz.results90, go_sem, br_c0, br_c1]) rfl ?_
 exact ⟨_, _, _, _, rfl, HE.out ▸ HZ.out.set2 HK2.out.tl.tl.tl.tl.box _ _, below_set2 HB2.out (by omega) _ _⟩
theorem zadd_ge_false [Ol] {ao bo : Option Addr} {n cap l cb : Nat} {x y : Int} {w : World} (hx : Zx w false ao n cap x) (hy : Zx w true bo l cb y) (hge : y.natAbs ≤ x.natAbs) :
  Calls Tryz.prog 90 #[.agg #[.bool false, .slice ao n cap], .agg #[.bool true, .slice bo l cb]] w (NewZ w (x + y)) := by
 have hle := hx.le; have hle2 := hy.le
 have HX : Hid (zOf false x.natAbs = x) := hx.zd.val
 have HY : Hid (zOf true y.natAbs = y) := hy.zd.val
 obtain ⟨c, hc⟩ : ∃ c, c = cmpN x.natAbs y.natAbs := ⟨_, rfl⟩
 have hc0 : decide (c < 0) = false := by
  rw [hc]; unfold cmpN; rw [if_neg (by omega)]; split <;> simp
 have HC := hid hc.symm; have HGE := hid hge; clear hc hge
 go_enter Tryz.func90, Tryz.ntmps90
 go_upto_region 1 with (fail)
 refine wp_world (fun W hW => ?_)
 have HB0 : Hid (Below w.heap.size w W) := by rw [hW]; exact step_alloc (step_alloc (below_alloc _ _))
 have hbx_bx : Box W (w.heap.size) false ao n cap := by rw [hW]; exact ((Box.new _ _ _ _ _ _ _ (by simp)).below (below_alloc _ _)).below (below_alloc _ _)
 have hbx_by : Box W (w.heap.size + 1) true bo l cb := by rw [hW]; exact (Box.new _ _ _ _ _ _ _ (by simp)).below (below_alloc _ _)
 have hbx_br : Box W (w.heap.size + 2) false none 0 0 := by rw [hW]; exact Box.new _ _ _ _ _ _ _ (by simp)
 have HK0 := hid (Live.add_zed (hx.below HB0.out) (Live.add_zed (hy.below HB0.out) (Live.add_box hbx_bx (Live.add_box hbx_by (Live.add_box hbx_br (Live.nil W)))))); clear hW hbx_bx hbx_by hbx_br; have bx_c0 := HK0.out.tl.tl.box.c0; have bx_c1 := HK0.out.tl.tl.box.c1; have bx_f0 := HK0.out.tl.tl.box.f0; have bx_f1 := HK0.out.tl.tl.box.f1; have by_c0 := HK0.out.tl.tl.tl.box.c0; have by_c1 := HK0.out.tl.tl.tl.box.c1; have by_f0 := HK0.out.tl.tl.tl.box.f0; have by_f1 := HK0.out.tl.tl.tl.box.f1; have br_c0 := HK0.out.tl.tl.tl.tl.box.c0
 have br_c1 := HK0.out.tl.tl.tl.tl.box.c1; have br_f0 := HK0.out.tl.tl.tl.tl.box.f0; have br_f1 := HK0.out.tl.tl.tl.tl.box.f1; go_wp2_with fail; refine (Dg.cmp_is c _ _ _ _ _ _ _ _ _ HK0.out.zed.zd.sl HK0.out.tl.zed.zd.sl HC).mono ?_; rintro e w1 ⟨rfl, hB⟩; have HK1 := hid (HK0.out.below hB); have HB1 := hid (Below.steps HB0.out hB); clear bx_c0 bx_c1 bx_f0 bx_f1 by_c0 by_c1 by_f0 by_f1 br_c0 br_c1 br_f0 br_f1; clear HK0 HB0 hB; have bx_c0 := HK1.out.tl.tl.box.c0; have bx_c1 := HK1.out.tl.tl.box.c1
 have bx_f0 := HK1.out.tl.tl.box.f0; have bx_f1 := HK1.out.tl.tl.box.f1; have by_c0 := HK1.out.tl.tl.tl.box.c0; have by_c1 := HK1.out.tl.tl.tl.box.c1; have by_f0 := HK1.out.tl.tl.tl.box.f0; have by_f1 := HK1.out.tl.tl.tl.box.f1; have br_c0 := HK1.out.tl.tl.tl.tl.box.c0; have br_c1 := HK1.out.tl.tl.tl.tl.box.c1; have br_f0 := HK1.out.tl.tl.tl.tl.box.f0; have br_f1 := HK1.out.tl.tl.tl.tl.box.f1; go_wp2_with fail
 refine (Dg.sub_any _ _ _ _ _ _ _ _ _ HK1.out.zed.zd.sl HK1.out.tl.zed.zd.sl HGE.out (by omega)).mono ?_
 rintro e w2 ⟨d0, dn, dc, rfl, hT, hB⟩; have HT := hid hT.sl; have hdb := hT.big; have HK2 := hid (HK1.out.below hB); have HB2 := hid (Below.steps HB1.out hB); clear bx_c0 bx_c1 bx_f0 bx_f1 by_c0 by_c1 by_f0 by_f1 br_c0 br_c1 br_f0 br_f1; clear HK1 HB1 hT hB; have bx_c0 := HK2.out.tl.tl.box.c0; have bx_c1 := HK2.out.tl.tl.box.c1; have bx_f0 := HK2.out.tl.tl.box.f0; have bx_f1 := HK2.out.tl.tl.box.f1; have by_c0 := HK2.out.tl.tl.tl.box.c0; have by_c1 := HK2.out.tl.tl.tl.box.c1; have by_f0 := HK2.out.tl.tl.tl.box.f0
 have by_f1 := HK2.out.tl.tl.tl.box.f1; have br_c0 := HK2.out.tl.tl.tl.tl.box.c0; have br_c1 := HK2.out.tl.tl.tl.tl.box.c1; have br_f0 := HK2.out.tl.tl.tl.tl.box.f0; have br_f1 := HK2.out.tl.tl.tl.tl.box.f1; go_wp2_with fail
 have HZ : Hid (Zd w2 (false) d0 dn dc (zOf false (x.natAbs - y.natAbs))) := Zd.of HT.out (by simp)
 have HE : Hid (zOf false (x.natAbs - y.natAbs) = x + y) := by
  have h1 := HX.out; have h2 := HY.out; have h3 := HGE.out
  unfold zOf at h1 h2
  rw [Hid]
  unfold zOf
  simp at h1 h2 ⊢
  omega
 refine bodyPost_ret (v := .agg #[.bool (false), .slice d0 dn dc]) (by simp [results, Tryz.results90, go_sem, br_c0, br_c1]) rfl ?_
 exact ⟨_, _, _, _, rfl, HE.out ▸ HZ.out.set2 HK2.out.tl.tl.tl.tl.box _ _, below_set2 HB2.out (by omega) _ _⟩
theorem zadd_lt_true [Ol] {ao bo : Option Addr} {n cap l cb : Nat} {x y : Int} {w : World} (hx : Zx w true ao n cap x) (hy : Zx w false bo l cb y) (hlt : x.natAbs < y.natAbs) :
  Calls Tryz.prog 90 #[.agg #[.bool true, .slice ao n cap], .agg #[.bool false, .slice bo l cb]] w (NewZ w (x + y)) := by
 have hle := hx.le; have hle2 := hy.le
 have HX : Hid (zOf true x.natAbs = x) := hx.zd.val
 have HY : Hid (zOf false y.natAbs = y) := hy.zd.val
 have HC : Hid (cmpN x.natAbs y.natAbs = -1) := by rw [Hid]; unfold cmpN; rw [if_pos (by omega)]
 have HGE : Hid (x.natAbs ≤ y.natAbs) := by rw [Hid]; omega
 clear hlt
 go_enter Tryz.func90, Tryz.ntmps90
 go_upto_region 1 with (fail)
 refine wp_world (fun W hW => ?_)
 have HB0 : Hid (Below w.heap.size w W) := by rw [hW]; exact step_alloc (step_alloc (below_alloc _ _))
 have hbx_bx : Box W (w.heap.size) true ao n cap := by rw [hW]; exact ((Box.new _ _ _ _ _ _ _ (by simp)).below (below_alloc _ _)).below (below_alloc _ _)
 have hbx_by : Box W (w.heap.size + 1) false bo l cb := by rw [hW]; exact (Box.new _ _ _ _ _ _ _ (by simp)).below (below_alloc _ _)
 have hbx_br : Box W (w.heap.size + 2) false none 0 0 := by rw [hW]; exact Box.new _ _ _ _ _ _ _ (by simp)
 have HK0 := hid (Live.add_zed (hx.below HB0.out) (Live.add_zed (hy.below HB0.out) (Live.add_box hbx_bx (Live.add_box hbx_by (Live.add_box hbx_br (Live.nil W)))))); clear hW hbx_bx hbx_by hbx_br; have bx_c0 := HK0.out.tl.tl.box.c0; have bx_c1 := HK0.out.tl.tl.box.c1; have bx_f0 := HK0.out.tl.tl.box.f0; have bx_f1 := HK0.out.tl.tl.box.f1; have by_c0 := HK0.out.tl.tl.tl.box.c0; have by_c1 := HK0.out.tl.tl.tl.box.c1; have by_f0 := HK0.out.tl.tl.tl.box.f0; have by_f1 := HK0.out.tl.tl.tl.box.f1; have br_c0 := HK0.out.tl.tl.tl.tl.box.c0
 have br_c1 := HK0.out.tl.tl.tl.tl.box.c1; have br_f0 := HK0.out.tl.tl.tl.tl.box.f0; have br_f1 := HK0.out.tl.tl.tl.tl.box.f1; go_wp2_with fail; refine (Dg.cmp_is (-1) _ _ _ _ _ _ _ _ _ HK0.out.zed.zd.sl HK0.out.tl.zed.zd.sl HC).mono ?_; rintro e w1 ⟨rfl, hB⟩; have HK1 := hid (HK0.out.below hB); have HB1 := hid (Below.steps HB0.out hB); clear bx_c0 bx_c1 bx_f0 bx_f1 by_c0 by_c1 by_f0 by_f1 br_c0 br_c1 br_f0 br_f1; clear HK0 HB0 hB; have bx_c0 := HK1.out.tl.tl.box.c0; have bx_c1 := HK1.out.tl.tl.box.c1
 have bx_f0 := HK1.out.tl.tl.box.f0; have bx_f1 := HK1.out.tl.tl.box.f1; have by_c0 := HK1.out.tl.tl.tl.box.c0; have by_c1 := HK1.out.tl.tl.tl.box.c1; have by_f0 := HK1.out.tl.tl.tl.box.f0; have by_f1 := HK1.out.tl.tl.tl.box.f1; have br_c0 := HK1.out.tl.tl.tl.tl.box.c0; have br_c1 := HK1.out.tl.tl.tl.tl.box.c1; have br_f0 := HK1.out.tl.tl.tl.tl.box.f0; have br_f1 := HK1.out.tl.tl.tl.tl.box.f1
 go_upto_region 5 with (fail)
 refine wp_world (fun W2 hW2 => ?_)
 have hX2 : Box W2 (w.heap.size) false bo l cb := by rw [hW2]; exact (HK1.out.tl.tl.box.set _ _ _ _).far (by omega) _ _
 have hY2 : Box W2 (w.heap.size + 1) true ao n cap := by rw [hW2]; exact (HK1.out.tl.tl.tl.box.far (by omega) _ _).set _ _ _ _
 have hR2 : Box W2 (w.heap.size + 2) false none 0 0 := by rw [hW2]; exact (HK1.out.tl.tl.tl.tl.box.far (by omega) _ _).far (by omega) _ _
 have hxs2 : Zx W2 true ao n cap x := by rw [hW2]; exact ⟨(HK1.out.zed.zd.set2 HK1.out.tl.tl.box _ _).set2 (HK1.out.tl.tl.tl.box.far (by omega) _ _) _ _, hle⟩
 have hys2 : Zx W2 false bo l cb y := by rw [hW2]; exact ⟨(HK1.out.tl.zed.zd.set2 HK1.out.tl.tl.box _ _).set2 (HK1.out.tl.tl.tl.box.far (by omega) _ _) _ _, hle2⟩
 have HB2 : Hid (Below w.heap.size w W2) := by rw [hW2]; exact below_set2 (below_set2 HB1.out (by omega) _ _) (by omega) _ _
 have HK2 := hid (Live.add_zed hxs2 (Live.add_zed hys2 (Live.add_box hX2 (Live.add_box hY2 (Live.add_box hR2 (Live.nil W2)))))); clear bx_c0 bx_c1 bx_f0 bx_f1 by_c0 by_c1 by_f0 by_f1 br_c0 br_c1 br_f0 br_f1; clear hW2 hX2 hY2 hR2 hxs2 hys2 HK1 HB1; have bx_c0 := HK2.out.tl.tl.box.c0; have bx_c1 := HK2.out.tl.tl.box.c1; have bx_f0 := HK2.out.tl.tl.box.f0; have bx_f1 := HK2.out.tl.tl.box.f1; have by_c0 := HK2.out.tl.tl.tl.box.c0; have by_c1 := HK2.out.tl.tl.tl.box.c1; have by_f0 := HK2.out.tl.tl.tl.box.f0
 have by_f1 := HK2.out.tl.tl.tl.box.f1; have br_c0 := HK2.out.tl.tl.tl.tl.box.c0; have br_c1 := HK2.out.tl.tl.tl.tl.box.c1; have br_f0 := HK2.out.tl.tl.tl.tl.box.f0; have br_f1 := HK2.out.tl.tl.tl.tl.box.f1; go_wp2_with fail
 refine (Dg.sub_any _ _ _ _ _ _ _ _ _ HK2.out.tl.zed.zd.sl HK2.out.zed.zd.sl HGE.out (by omega)).mono ?_
 rintro e w3 ⟨d0, dn, dc, rfl, hT, hB⟩; have HT := hid hT.sl; have hdb := hT.big; have HK3 := hid (HK2.out.below hB); have HB3 := hid (Below.steps HB2.out hB); clear bx_c0 bx_c1 bx_f0 bx_f1 by_c0 by_c1 by_f0 by_f1 br_c0 br_c1 br_f0 br_f1; clear HK2 HB2 hT hB; have bx_c0 := HK3.out.tl.tl.box.c0; have bx_c1 := HK3.out.tl.tl.box.c1; have bx_f0 := HK3.out.tl.tl.box.f0; have bx_f1 := HK3.out.tl.tl.box.f1; have by_c0 := HK3.out.tl.tl.tl.box.c0; have by_c1 := HK3.out.tl.tl.tl.box.c1; have by_f0 := HK3.out.tl.tl.tl.box.f0
 have by_f1 := HK3.out.tl.tl.tl.box.f1; have br_c0 := HK3.out.tl.tl.tl.tl.box.c0; have br_c1 := HK3.out.tl.tl.tl.tl.box.c1; have br_f0 := HK3.out.tl.tl.tl.tl.box.f0; have br_f1 := HK3.out.tl.tl.tl.tl.box.f1; go_wp2_with fail
 have HZ : Hid (Zd w3 (false) d0 dn dc (zOf false (y.natAbs - x.natAbs))) := Zd.of HT.out (by simp)
 have HE : Hid (zOf false (y.natAbs - x.natAbs) = x + y) := by
  have h1 := HX.out; have h2 := HY.out; have h3 := HGE.out
  unfold zOf at h1 h2
  rw [Hid]
  unfold zOf
  simp at h1 h2 ⊢
  omega
 refine bodyPost_ret (v := .agg #[.bool (false), .slice d0 dn dc]) (by simp [results, Tryz.results90, go_sem, br_c0, br_c1]) rfl ?_
 exact ⟨_, _, _, _, rfl, HE.out ▸ HZ.out.set2 HK3.out.tl.tl.tl.tl.box _ _, below_set2 HB3.out (by omega) _ _⟩
theorem zadd_lt_false [Ol] {ao bo : Option Addr} {n cap l cb : Nat} {x y : Int} {w : World} (hx : Zx w false ao n cap x) (hy : Zx w true bo l cb y) (hlt : x.natAbs < y.natAbs) :
  Calls Tryz.prog 90 #[.agg #[.bool false, .slice ao n cap], .agg #[.bool true, .slice bo l cb]] w (NewZ w (x + y)) := by
 have hle := hx.le; have hle2 := hy.le
 have HX : Hid (zOf false x.natAbs = x) := hx.zd.val
 have HY : Hid (zOf true y.natAbs = y) := hy.zd.val
 have HC : Hid (cmpN x.natAbs y.natAbs = -1) := by rw [Hid]; unfold cmpN; rw [if_pos (by omega)]
 have HGE : Hid (x.natAbs ≤ y.natAbs) := by rw [Hid]; omega
 clear hlt
 go_enter Tryz.func90, Tryz.ntmps90
 go_upto_region 1 with (fail)
 refine wp_world (fun W hW => ?_)
 have HB0 : Hid (Below w.heap.size w W) := by rw [hW]; exact step_alloc (step_alloc (below_alloc _ _))
 have hbx_bx : Box W (w.heap.size) false ao n cap := by rw [hW]; exact ((Box.new _ _ _ _ _ _ _ (by simp)).below (below_alloc _ _)).below (below_alloc _ _)
 have hbx_by : Box W (w.heap.size + 1) true bo l cb := by rw [hW]; exact (Box.new _ _ _ _ _ _ _ (by simp)).below (below_alloc _ _)
 have hbx_br : Box W (w.heap.size + 2) false none 0 0 := by rw [hW]; exact Box.new _ _ _ _ _ _ _ (by simp)
 have HK0 := hid (Live.add_zed (hx.below HB0.out) (Live.add_zed (hy.below HB0.out) (Live.add_box hbx_bx (Live.add_box hbx_by (Live.add_box hbx_br (Live.nil W)))))); clear hW hbx_bx hbx_by hbx_br; have bx_c0 := HK0.out.tl.tl.box.c0; have bx_c1 := HK0.out.tl.tl.box.c1; have bx_f0 := HK0.out.tl.tl.box.f0; have bx_f1 := HK0.out.tl.tl.box.f1; have by_c0 := HK0.out.tl.tl.tl.box.c0; have by_c1 := HK0.out.tl.tl.tl.box.c1; have by_f0 := HK0.out.tl.tl.tl.box.f0; have by_f1 := HK0.out.tl.tl.tl.box.f1; have br_c0 := HK0.out.tl.tl.tl.tl.box.c0
 have br_c1 := HK0.out.tl.tl.tl.tl.box.c1; have br_f0 := HK0.out.tl.tl.tl.tl.box.f0; have br_f1 := HK0.out.tl.tl.tl.tl.box.f1; go_wp2_with fail; refine (Dg.cmp_is (-1) _ _ _ _ _ _ _ _ _ HK0.out.zed.zd.sl HK0.out.tl.zed.zd.sl HC).mono ?_; rintro e w1 ⟨rfl, hB⟩; have HK1 := hid (HK0.out.below hB); have HB1 := hid (Below.steps HB0.out hB); clear bx_c0 bx_c1 bx_f0 bx_f1 by_c0 by_c1 by_f0 by_f1 br_c0 br_c1 br_f0 br_f1; clear HK0 HB0 hB; have bx_c0 := HK1.out.tl.tl.box.c0; have bx_c1 := HK1.out.tl.tl.box.c1
 have bx_f0 := HK1.out.tl.tl.box.f0; have bx_f1 := HK1.out.tl.tl.box.f1; have by_c0 := HK1.out.tl.tl.tl.box.c0; have by_c1 := HK1.out.tl.tl.tl.box.c1; have by_f0 := HK1.out.tl.tl.tl.box.f0; have by_f1 := HK1.out.tl.tl.tl.box.f1; have br_c0 := HK1.out.tl.tl.tl.tl.box.c0; have br_c1 := HK1.out.tl.tl.tl.tl.box.c1; have br_f0 := HK1.out.tl.tl.tl.tl.box.f0; have br_f1 := HK1.out.tl.tl.tl.tl.box.f1
 go_upto_region 5 with (fail)
 refine wp_world (fun W2 hW2 => ?_)
 have hX2 : Box W2 (w.heap.size) true bo l cb := by rw [hW2]; exact (HK1.out.tl.tl.box.set _ _ _ _).far (by omega) _ _
 have hY2 : Box W2 (w.heap.size + 1) false ao n cap := by rw [hW2]; exact (HK1.out.tl.tl.tl.box.far (by omega) _ _).set _ _ _ _
 have hR2 : Box W2 (w.heap.size + 2) false none 0 0 := by rw [hW2]; exact (HK1.out.tl.tl.tl.tl.box.far (by omega) _ _).far (by omega) _ _
 have hxs2 : Zx W2 false ao n cap x := by rw [hW2]; exact ⟨(HK1.out.zed.zd.set2 HK1.out.tl.tl.box _ _).set2 (HK1.out.tl.tl.tl.box.far (by omega) _ _) _ _, hle⟩
 have hys2 : Zx W2 true bo l cb y := by rw [hW2]; exact ⟨(HK1.out.tl.zed.zd.set2 HK1.out.tl.tl.box _ _).set2 (HK1.out.tl.tl.tl.box.far (by omega) _ _) _ _, hle2⟩
 have HB2 : Hid (Below w.heap.size w W2) := by rw [hW2]; exact below_set2 (below_set2 HB1.out (by omega) _ _) (by omega) _ _
 have HK2 := hid (Live.add_zed hxs2 (Live.add_zed hys2 (Live.add_box hX2 (Live.add_box hY2 (Live.add_box hR2 (Live.nil W2)))))); clear bx_c0 bx_c1 bx_f0 bx_f1 by_c0 by_c1 by_f0 by_f1 br_c0 br_c1 br_f0 br_f1; clear hW2 hX2 hY2 hR2 hxs2 hys2 HK1 HB1; have bx_c0 := HK2.out.tl.tl.box.c0; have bx_c1 := HK2.out.tl.tl.box.c1; have bx_f0 := HK2.out.tl.tl.box.f0; have bx_f1 := HK2.out.tl.tl.box.f1; have by_c0 := HK2.out.tl.tl.tl.box.c0; have by_c1 := HK2.out.tl.tl.tl.box.c1; have by_f0 := HK2.out.tl.tl.tl.box.f0
 have by_f1 := HK2.out.tl.tl.tl.box.f1; have br_c0 := HK2.out.tl.tl.tl.tl.box.c0; have br_c1 := HK2.out.tl.tl.tl.tl.box.c1; have br_f0 := HK2.out.tl.tl.tl.tl.box.f0; have br_f1 := HK2.out.tl.tl.tl.tl.box.f1; go_wp2_with fail
 refine (Dg.sub_any _ _ _ _ _ _ _ _ _ HK2.out.tl.zed.zd.sl HK2.out.zed.zd.sl HGE.out (by omega)).mono ?_
 rintro e w3 ⟨d0, dn, dc, rfl, hT, hB⟩; have HT := hid hT.sl; have hdb := hT.big; have HK3 := hid (HK2.out.below hB); have HB3 := hid (Below.steps HB2.out hB); clear bx_c0 bx_c1 bx_f0 bx_f1 by_c0 by_c1 by_f0 by_f1 br_c0 br_c1 br_f0 br_f1; clear HK2 HB2 hT hB; have bx_c0 := HK3.out.tl.tl.box.c0; have bx_c1 := HK3.out.tl.tl.box.c1; have bx_f0 := HK3.out.tl.tl.box.f0; have bx_f1 := HK3.out.tl.tl.box.f1; have by_c0 := HK3.out.tl.tl.tl.box.c0; have by_c1 := HK3.out.tl.tl.tl.box.c1; have by_f0 := HK3.out.tl.tl.tl.box.f0
 have by_f1 := HK3.out.tl.tl.tl.box.f1; have br_c0 := HK3.out.tl.tl.tl.tl.box.c0; have br_c1 := HK3.out.tl.tl.tl.tl.box.c1; have br_f0 := HK3.out.tl.tl.tl.tl.box.f0; have br_f1 := HK3.out.tl.tl.tl.tl.box.f1; go_wp2_with fail
 have HZ : Hid (Zd w3 (decide (0 < dn)) d0 dn dc (zOf true (y.natAbs - x.natAbs))) := Zd.of HT.out (by simp)
 have HE : Hid (zOf true (y.natAbs - x.natAbs) = x + y) := by
  have h1 := HX.out; have h2 := HY.out; have h3 := HGE.out
  unfold zOf at h1 h2
  rw [Hid]
  unfold zOf
  simp at h1 h2 ⊢
  omega
 refine bodyPost_ret (v := .agg #[.bool (decide (0 < dn)), .slice d0 dn dc]) (by simp [results, Tryz.results90, go_sem, br_c0, br_c1]) rfl ?_
 exact ⟨_, _, _, _, rfl, HE.out ▸ HZ.out.set2 HK3.out.tl.tl.tl.tl.box _ _, below_set2 HB3.out (by omega) _ _⟩
theorem zadd_any [Ol] {m k : Bool} {ao bo : Option Addr} {n cap l cb : Nat} {x y : Int} {w : World} (hx : Zx w m ao n cap x) (hy : Zx w k bo l cb y) :
  Calls Tryz.prog 90 #[.agg #[.bool m, .slice ao n cap], .agg #[.bool k, .slice bo l cb]] w (NewZ w (x + y)) := by
 by_cases hmk : k = m
 ·subst hmk; exact zadd_same hx hy
 ·by_cases h : y.natAbs ≤ x.natAbs
  ·cases m <;> cases k
   ·exact absurd rfl hmk
   ·exact zadd_ge_false hx hy h
   ·exact zadd_ge_true hx hy h
   ·exact absurd rfl hmk
  ·cases m <;> cases k
   ·exact absurd rfl hmk
   ·exact zadd_lt_false hx hy (by omega)
   ·exact zadd_lt_true hx hy (by omega)
   ·exact absurd rfl hmk
end Go.Proofs.YtmmgipcacceakaaGreat

/-
  In one: WZAdd, WZDiv.
-/
import Derived.Test.YteceomlbnajihaaGreatDoorGWZ
import Derived.Test.YteceomlbnajihaaGreatDoorGWInt
import Derived.Test.YteceomlbnajihaaGreatDoorGRef
import Derived.Deep.Cut
import Derived.Test.YteceomlbnajihaaGreatDoorGWD
import Derived.Deep.LoopGhost
set_option maxRecDepth 8192
/- The contracts of porismref04's Add, Sub, Cmp. -/
namespace Go.Proofs.YteceomlbnajihaaGreatDoor
open Go.RowKit

set_option maxHeartbeats 4000000 in
theorem zadd_same {m : Bool} {ao bo : Option Addr} {n cap l cb : Nat} {x y : Int} {w : World} (hx : Zx w m ao n cap x) (hy : Zx w m bo l cb y) :
    Calls Tryz.prog 44 #[.agg #[.bool m, .slice ao n cap], .agg #[.bool m, .slice bo l cb]] w (NewZ w (x + y)) := by
  have hle := hx.le
  have hle2 := hy.le
  have HX : Hid (zOf m x.natAbs = x) := hx.zd.val
  have HY : Hid (zOf m y.natAbs = y) := hy.zd.val
  have HNX := Lib.hid hx.zd.neg
  have HNY := Lib.hid hy.zd.neg
  go_enter Tryz.func44, Tryz.ntmps44
  go_upto_region 1 with (fail)
  refine wp_world (fun W hW => ?_)
  have HB0 : Hid (Below w.heap.size w W) := by rw [hW]; exact step_alloc (step_alloc (below_alloc _ _))
  have hbx_bx : Box W (w.heap.size) m ao n cap := by rw [hW]; exact ((Box.new _ _ _ _ _ _ _ (by simp)).below (below_alloc _ _)).below (below_alloc _ _)
  have hbx_by : Box W (w.heap.size + 1) m bo l cb := by rw [hW]; exact (Box.new _ _ _ _ _ _ _ (by simp)).below (below_alloc _ _)
  have hbx_br : Box W (w.heap.size + 2) false none 0 0 := by rw [hW]; exact Box.new _ _ _ _ _ _ _ (by simp)
  have HK0 := Lib.hid (Live.add_zed (hx.below HB0.out) (Live.add_zed (hy.below HB0.out) (Live.add_box hbx_bx (Live.add_box hbx_by (Live.add_box hbx_br (Live.nil W))))))
  clear hW hbx_bx hbx_by hbx_br
  have bx_c0 := HK0.out.tail.tail.box.c0
  have bx_c1 := HK0.out.tail.tail.box.c1
  have bx_f0 := HK0.out.tail.tail.box.f0
  have bx_f1 := HK0.out.tail.tail.box.f1
  have by_c0 := HK0.out.tail.tail.tail.box.c0
  have by_c1 := HK0.out.tail.tail.tail.box.c1
  have by_f0 := HK0.out.tail.tail.tail.box.f0
  have by_f1 := HK0.out.tail.tail.tail.box.f1
  have br_c0 := HK0.out.tail.tail.tail.tail.box.c0
  have br_c1 := HK0.out.tail.tail.tail.tail.box.c1
  have br_f0 := HK0.out.tail.tail.tail.tail.box.f0
  have br_f1 := HK0.out.tail.tail.tail.tail.box.f1
  go_wp2_with fail
  have HK0d := Lib.hid (HK0.out.below ((Below.refl _ _).drew))
  have HB0d := Lib.hid HB0.out.drew
  clear bx_c0 bx_c1 bx_f0 bx_f1 by_c0 by_c1 by_f0 by_f1 br_c0 br_c1 br_f0 br_f1
  clear HK0 HB0
  have HK0 := Lib.hid HK0d.out
  have HB0 := Lib.hid HB0d.out
  clear HK0d HB0d
  have bx_c0 := HK0.out.tail.tail.box.c0
  have bx_c1 := HK0.out.tail.tail.box.c1
  have bx_f0 := HK0.out.tail.tail.box.f0
  have bx_f1 := HK0.out.tail.tail.box.f1
  have by_c0 := HK0.out.tail.tail.tail.box.c0
  have by_c1 := HK0.out.tail.tail.tail.box.c1
  have by_f0 := HK0.out.tail.tail.tail.box.f0
  have by_f1 := HK0.out.tail.tail.tail.box.f1
  have br_c0 := HK0.out.tail.tail.tail.tail.box.c0
  have br_c1 := HK0.out.tail.tail.tail.tail.box.c1
  have br_f0 := HK0.out.tail.tail.tail.tail.box.f0
  have br_f1 := HK0.out.tail.tail.tail.tail.box.f1
  refine wp_region_held_drew (S := fun w' => w'.cell? ⟨w.heap.size, 0, none⟩ = some (.bool m) ∧ w'.cell? ⟨w.heap.size, 1, none⟩ = some (.slice ao n cap) ∧ w'.cell? ⟨w.heap.size + 1, 0, none⟩ = some (.bool m) ∧ w'.cell? ⟨w.heap.size + 1, 1, none⟩ = some (.slice bo l cb)) (by kernel_rfl) (And.intro HK0.out.tail.tail.box.c0 (And.intro HK0.out.tail.tail.box.c1 (And.intro HK0.out.tail.tail.tail.box.c0 (HK0.out.tail.tail.tail.box.c1)))) (fun hHeld => ?_)
  refine step_on 0 rfl (by kernel_rfl) (fun _ _ _ h => h) (by rfl) hHeld (by intro w hSw; first | (go_simp; done) | (go_simp; with_reducible rfl)) ?_
  try simp only [Act.put, List.setIfInBounds_toArray, List.set_cons_zero, List.set_cons_succ]
  refine step_on 1 rfl (by kernel_rfl) (fun _ _ _ h => h) (by rfl) hHeld (by intro w hSw; first | (go_simp; done) | (go_simp; with_reducible rfl)) ?_
  try simp only [Act.put, List.setIfInBounds_toArray, List.set_cons_zero, List.set_cons_succ]
  refine step_on 2 rfl (by kernel_rfl) (fun _ _ _ h => h) (by rfl) hHeld (by intro w hSw; first | (go_simp; done) | (go_simp; with_reducible rfl)) ?_
  try simp only [Act.put, List.setIfInBounds_toArray, List.set_cons_zero, List.set_cons_succ]
  refine step_on 3 rfl (by kernel_rfl) (fun _ _ _ h => h) (by rfl) hHeld (by intro w hSw; first | (go_simp; done) | (go_simp; with_reducible rfl)) ?_
  try simp only [Act.put, List.setIfInBounds_toArray, List.set_cons_zero, List.set_cons_succ]
  refine step_on 4 rfl (by kernel_rfl) (fun _ _ _ h => h) (by rfl) hHeld (by intro w hSw; first | (go_simp; done) | (go_simp; with_reducible rfl)) ?_
  try simp only [Act.put, List.setIfInBounds_toArray, List.set_cons_zero, List.set_cons_succ]
  refine step_on 5 rfl (by kernel_rfl) (fun _ _ _ h => h) (by rfl) hHeld (by intro w hSw; first | (go_simp; done) | (go_simp; with_reducible rfl)) ?_
  try simp only [Act.put, List.setIfInBounds_toArray, List.set_cons_zero, List.set_cons_succ]
  refine step_one 6 rfl (by kernel_rfl) (fun K hK => ?_)
  go_simp
  refine (Dg.add_any _ _ _ _ _ _ _ _ _ HK0.out.zed.zd.sl HK0.out.tail.zed.zd.sl (by omega) (by omega)).mono ?_
  rintro e w1 ⟨d0, dn, dc, rfl, hT, hB⟩
  rw [Dg.val_limbs, Dg.val_limbs] at hT
  have HT := Lib.hid hT.sl
  have HK1 := Lib.hid (HK0.out.below hB)
  have HB1 := Lib.hid (Below.steps HB0.out hB)
  clear bx_c0 bx_c1 bx_f0 bx_f1 by_c0 by_c1 by_f0 by_f1 br_c0 br_c1 br_f0 br_f1
  clear HK0 HB0 hT hB
  have bx_c0 := HK1.out.tail.tail.box.c0
  have bx_c1 := HK1.out.tail.tail.box.c1
  have bx_f0 := HK1.out.tail.tail.box.f0
  have bx_f1 := HK1.out.tail.tail.box.f1
  have by_c0 := HK1.out.tail.tail.tail.box.c0
  have by_c1 := HK1.out.tail.tail.tail.box.c1
  have by_f0 := HK1.out.tail.tail.tail.box.f0
  have by_f1 := HK1.out.tail.tail.tail.box.f1
  have br_c0 := HK1.out.tail.tail.tail.tail.box.c0
  have br_c1 := HK1.out.tail.tail.tail.tail.box.c1
  have br_f0 := HK1.out.tail.tail.tail.tail.box.f0
  have br_f1 := HK1.out.tail.tail.tail.tail.box.f1
  go_wp2_with fail
  refine hK.out _ _ (And.intro HK1.out.tail.tail.box.c0 (And.intro HK1.out.tail.tail.box.c1 (And.intro HK1.out.tail.tail.tail.box.c0 (HK1.out.tail.tail.tail.box.c1)))) (fun hHeld2 => ?_)
  clear hK K hHeld
  have hHeld := hHeld2
  clear hHeld2
  try simp only [Act.put, List.setIfInBounds_toArray, List.set_cons_zero, List.set_cons_succ]
  refine step_on 7 rfl (by kernel_rfl) (fun _ _ _ h => h) (by rfl) hHeld (by intro w hSw; first | (go_simp; done) | (go_simp; with_reducible rfl)) ?_
  try simp only [Act.put, List.setIfInBounds_toArray, List.set_cons_zero, List.set_cons_succ]
  refine step_one 8 rfl (by kernel_rfl) (fun K hK => ?_)
  go_simp
  refine hK.out _ _ ((And.intro ((cell_set2 (fun e => by have e2 : w.heap.size = w.heap.size + 2 := e; omega) _ _).trans bx_c0) (And.intro ((cell_set2 (fun e => by have e2 : w.heap.size = w.heap.size + 2 := e; omega) _ _).trans bx_c1) (And.intro ((cell_set2 (fun e => by have e2 : w.heap.size + 1 = w.heap.size + 2 := e; omega) _ _).trans by_c0) ((cell_set2 (fun e => by have e2 : w.heap.size + 1 = w.heap.size + 2 := e; omega) _ _).trans by_c1))))) (fun hHeld2 => ?_)
  clear hK K hHeld
  try simp only [Act.put, List.setIfInBounds_toArray, List.set_cons_zero, List.set_cons_succ]
  refine wpAnyH_done (by kernel_rfl) ?_ _
  go_wp2_with fail
  have HC : Hid (Zd w1 m d0 dn dc (x + y)) := by
    have h1 := HX.out
    have h2 := HY.out
    have h3 := HNX.out
    have h4 := HNY.out
    have e : (x + y).natAbs = x.natAbs + y.natAbs := by cases m <;> simp at h3 h4 <;> omega
    exact ⟨by cases m <;> simp at h3 h4 ⊢ <;> omega, by rw [e]; exact HT.out⟩
  refine bodyPost_ret (v := .agg #[.bool m, .slice d0 dn dc]) (by simp [results, Tryz.results44, go_sem, br_c0, br_c1]) rfl ?_
  exact ⟨_, _, _, _, rfl, HC.out.set2 HK1.out.tail.tail.tail.tail.box _ _, below_set2 HB1.out (by omega) _ _⟩

set_option maxHeartbeats 4000000 in
theorem zadd_ge_true {ao bo : Option Addr} {n cap l cb : Nat} {x y : Int} {w : World} (hx : Zx w true ao n cap x) (hy : Zx w false bo l cb y) (hge : y.natAbs ≤ x.natAbs) :
    Calls Tryz.prog 44 #[.agg #[.bool true, .slice ao n cap], .agg #[.bool false, .slice bo l cb]] w (NewZ w (x + y)) := by
  have hle := hx.le
  have hle2 := hy.le
  have HX : Hid (zOf true x.natAbs = x) := hx.zd.val
  have HY : Hid (zOf false y.natAbs = y) := hy.zd.val
  obtain ⟨c, hc⟩ : ∃ c, c = cmpN x.natAbs y.natAbs := ⟨_, rfl⟩
  have hc0 : decide (c < 0) = false := by
    rw [hc]; unfold cmpN; rw [if_neg (by omega)]; split <;> simp
  have HC := Lib.hid hc.symm
  have HGE := Lib.hid hge
  clear hc hge
  go_enter Tryz.func44, Tryz.ntmps44
  go_upto_region 1 with (fail)
  refine wp_world (fun W hW => ?_)
  have HB0 : Hid (Below w.heap.size w W) := by rw [hW]; exact step_alloc (step_alloc (below_alloc _ _))
  have hbx_bx : Box W (w.heap.size) true ao n cap := by rw [hW]; exact ((Box.new _ _ _ _ _ _ _ (by simp)).below (below_alloc _ _)).below (below_alloc _ _)
  have hbx_by : Box W (w.heap.size + 1) false bo l cb := by rw [hW]; exact (Box.new _ _ _ _ _ _ _ (by simp)).below (below_alloc _ _)
  have hbx_br : Box W (w.heap.size + 2) false none 0 0 := by rw [hW]; exact Box.new _ _ _ _ _ _ _ (by simp)
  have HK0 := Lib.hid (Live.add_zed (hx.below HB0.out) (Live.add_zed (hy.below HB0.out) (Live.add_box hbx_bx (Live.add_box hbx_by (Live.add_box hbx_br (Live.nil W))))))
  clear hW hbx_bx hbx_by hbx_br
  have bx_c0 := HK0.out.tail.tail.box.c0
  have bx_c1 := HK0.out.tail.tail.box.c1
  have bx_f0 := HK0.out.tail.tail.box.f0
  have bx_f1 := HK0.out.tail.tail.box.f1
  have by_c0 := HK0.out.tail.tail.tail.box.c0
  have by_c1 := HK0.out.tail.tail.tail.box.c1
  have by_f0 := HK0.out.tail.tail.tail.box.f0
  have by_f1 := HK0.out.tail.tail.tail.box.f1
  have br_c0 := HK0.out.tail.tail.tail.tail.box.c0
  have br_c1 := HK0.out.tail.tail.tail.tail.box.c1
  have br_f0 := HK0.out.tail.tail.tail.tail.box.f0
  have br_f1 := HK0.out.tail.tail.tail.tail.box.f1
  go_wp2_with fail
  refine (Dg.cmp_is c _ _ _ _ _ _ _ _ _ HK0.out.zed.zd.sl HK0.out.tail.zed.zd.sl HC).mono ?_
  rintro e w1 ⟨rfl, hB⟩
  have HK1 := Lib.hid (HK0.out.below hB)
  have HB1 := Lib.hid (Below.steps HB0.out hB)
  clear bx_c0 bx_c1 bx_f0 bx_f1 by_c0 by_c1 by_f0 by_f1 br_c0 br_c1 br_f0 br_f1
  clear HK0 HB0 hB
  have bx_c0 := HK1.out.tail.tail.box.c0
  have bx_c1 := HK1.out.tail.tail.box.c1
  have bx_f0 := HK1.out.tail.tail.box.f0
  have bx_f1 := HK1.out.tail.tail.box.f1
  have by_c0 := HK1.out.tail.tail.tail.box.c0
  have by_c1 := HK1.out.tail.tail.tail.box.c1
  have by_f0 := HK1.out.tail.tail.tail.box.f0
  have by_f1 := HK1.out.tail.tail.tail.box.f1
  have br_c0 := HK1.out.tail.tail.tail.tail.box.c0
  have br_c1 := HK1.out.tail.tail.tail.tail.box.c1
  have br_f0 := HK1.out.tail.tail.tail.tail.box.f0
  have br_f1 := HK1.out.tail.tail.tail.tail.box.f1
  go_wp2_with fail
  refine (Dg.sub_any _ _ _ _ _ _ _ _ _ HK1.out.zed.zd.sl HK1.out.tail.zed.zd.sl HGE.out (by omega)).mono ?_
  rintro e w2 ⟨d0, dn, dc, rfl, hT, hB⟩
  have HT := Lib.hid hT.sl
  have hdb := hT.big
  have HK2 := Lib.hid (HK1.out.below hB)
  have HB2 := Lib.hid (Below.steps HB1.out hB)
  clear bx_c0 bx_c1 bx_f0 bx_f1 by_c0 by_c1 by_f0 by_f1 br_c0 br_c1 br_f0 br_f1
  clear HK1 HB1 hT hB
  have bx_c0 := HK2.out.tail.tail.box.c0
  have bx_c1 := HK2.out.tail.tail.box.c1
  have bx_f0 := HK2.out.tail.tail.box.f0
  have bx_f1 := HK2.out.tail.tail.box.f1
  have by_c0 := HK2.out.tail.tail.tail.box.c0
  have by_c1 := HK2.out.tail.tail.tail.box.c1
  have by_f0 := HK2.out.tail.tail.tail.box.f0
  have by_f1 := HK2.out.tail.tail.tail.box.f1
  have br_c0 := HK2.out.tail.tail.tail.tail.box.c0
  have br_c1 := HK2.out.tail.tail.tail.tail.box.c1
  have br_f0 := HK2.out.tail.tail.tail.tail.box.f0
  have br_f1 := HK2.out.tail.tail.tail.tail.box.f1
  go_wp2_with fail
  have HZ : Hid (Zd w2 (decide (0 < dn)) d0 dn dc (zOf true (x.natAbs - y.natAbs))) := Zd.of HT.out (by simp)
  have HE : Hid (zOf true (x.natAbs - y.natAbs) = x + y) := by
    have h1 := HX.out
    have h2 := HY.out
    have h3 := HGE.out
    unfold zOf at h1 h2
    rw [Hid]
    unfold zOf
    simp at h1 h2 ⊢
    omega
  refine bodyPost_ret (v := .agg #[.bool (decide (0 < dn)), .slice d0 dn dc]) (by simp [results, Tryz.results44, go_sem, br_c0, br_c1]) rfl ?_
  exact ⟨_, _, _, _, rfl, HE.out ▸ HZ.out.set2 HK2.out.tail.tail.tail.tail.box _ _, below_set2 HB2.out (by omega) _ _⟩

set_option maxHeartbeats 4000000 in
theorem zadd_ge_false {ao bo : Option Addr} {n cap l cb : Nat} {x y : Int} {w : World} (hx : Zx w false ao n cap x) (hy : Zx w true bo l cb y) (hge : y.natAbs ≤ x.natAbs) :
    Calls Tryz.prog 44 #[.agg #[.bool false, .slice ao n cap], .agg #[.bool true, .slice bo l cb]] w (NewZ w (x + y)) := by
  have hle := hx.le
  have hle2 := hy.le
  have HX : Hid (zOf false x.natAbs = x) := hx.zd.val
  have HY : Hid (zOf true y.natAbs = y) := hy.zd.val
  obtain ⟨c, hc⟩ : ∃ c, c = cmpN x.natAbs y.natAbs := ⟨_, rfl⟩
  have hc0 : decide (c < 0) = false := by
    rw [hc]; unfold cmpN; rw [if_neg (by omega)]; split <;> simp
  have HC := Lib.hid hc.symm
  have HGE := Lib.hid hge
  clear hc hge
  go_enter Tryz.func44, Tryz.ntmps44
  go_upto_region 1 with (fail)
  refine wp_world (fun W hW => ?_)
  have HB0 : Hid (Below w.heap.size w W) := by rw [hW]; exact step_alloc (step_alloc (below_alloc _ _))
  have hbx_bx : Box W (w.heap.size) false ao n cap := by rw [hW]; exact ((Box.new _ _ _ _ _ _ _ (by simp)).below (below_alloc _ _)).below (below_alloc _ _)
  have hbx_by : Box W (w.heap.size + 1) true bo l cb := by rw [hW]; exact (Box.new _ _ _ _ _ _ _ (by simp)).below (below_alloc _ _)
  have hbx_br : Box W (w.heap.size + 2) false none 0 0 := by rw [hW]; exact Box.new _ _ _ _ _ _ _ (by simp)
  have HK0 := Lib.hid (Live.add_zed (hx.below HB0.out) (Live.add_zed (hy.below HB0.out) (Live.add_box hbx_bx (Live.add_box hbx_by (Live.add_box hbx_br (Live.nil W))))))
  clear hW hbx_bx hbx_by hbx_br
  have bx_c0 := HK0.out.tail.tail.box.c0
  have bx_c1 := HK0.out.tail.tail.box.c1
  have bx_f0 := HK0.out.tail.tail.box.f0
  have bx_f1 := HK0.out.tail.tail.box.f1
  have by_c0 := HK0.out.tail.tail.tail.box.c0
  have by_c1 := HK0.out.tail.tail.tail.box.c1
  have by_f0 := HK0.out.tail.tail.tail.box.f0
  have by_f1 := HK0.out.tail.tail.tail.box.f1
  have br_c0 := HK0.out.tail.tail.tail.tail.box.c0
  have br_c1 := HK0.out.tail.tail.tail.tail.box.c1
  have br_f0 := HK0.out.tail.tail.tail.tail.box.f0
  have br_f1 := HK0.out.tail.tail.tail.tail.box.f1
  go_wp2_with fail
  refine (Dg.cmp_is c _ _ _ _ _ _ _ _ _ HK0.out.zed.zd.sl HK0.out.tail.zed.zd.sl HC).mono ?_
  rintro e w1 ⟨rfl, hB⟩
  have HK1 := Lib.hid (HK0.out.below hB)
  have HB1 := Lib.hid (Below.steps HB0.out hB)
  clear bx_c0 bx_c1 bx_f0 bx_f1 by_c0 by_c1 by_f0 by_f1 br_c0 br_c1 br_f0 br_f1
  clear HK0 HB0 hB
  have bx_c0 := HK1.out.tail.tail.box.c0
  have bx_c1 := HK1.out.tail.tail.box.c1
  have bx_f0 := HK1.out.tail.tail.box.f0
  have bx_f1 := HK1.out.tail.tail.box.f1
  have by_c0 := HK1.out.tail.tail.tail.box.c0
  have by_c1 := HK1.out.tail.tail.tail.box.c1
  have by_f0 := HK1.out.tail.tail.tail.box.f0
  have by_f1 := HK1.out.tail.tail.tail.box.f1
  have br_c0 := HK1.out.tail.tail.tail.tail.box.c0
  have br_c1 := HK1.out.tail.tail.tail.tail.box.c1
  have br_f0 := HK1.out.tail.tail.tail.tail.box.f0
  have br_f1 := HK1.out.tail.tail.tail.tail.box.f1
  go_wp2_with fail
  refine (Dg.sub_any _ _ _ _ _ _ _ _ _ HK1.out.zed.zd.sl HK1.out.tail.zed.zd.sl HGE.out (by omega)).mono ?_
  rintro e w2 ⟨d0, dn, dc, rfl, hT, hB⟩
  have HT := Lib.hid hT.sl
  have hdb := hT.big
  have HK2 := Lib.hid (HK1.out.below hB)
  have HB2 := Lib.hid (Below.steps HB1.out hB)
  clear bx_c0 bx_c1 bx_f0 bx_f1 by_c0 by_c1 by_f0 by_f1 br_c0 br_c1 br_f0 br_f1
  clear HK1 HB1 hT hB
  have bx_c0 := HK2.out.tail.tail.box.c0
  have bx_c1 := HK2.out.tail.tail.box.c1
  have bx_f0 := HK2.out.tail.tail.box.f0
  have bx_f1 := HK2.out.tail.tail.box.f1
  have by_c0 := HK2.out.tail.tail.tail.box.c0
  have by_c1 := HK2.out.tail.tail.tail.box.c1
  have by_f0 := HK2.out.tail.tail.tail.box.f0
  have by_f1 := HK2.out.tail.tail.tail.box.f1
  have br_c0 := HK2.out.tail.tail.tail.tail.box.c0
  have br_c1 := HK2.out.tail.tail.tail.tail.box.c1
  have br_f0 := HK2.out.tail.tail.tail.tail.box.f0
  have br_f1 := HK2.out.tail.tail.tail.tail.box.f1
  go_wp2_with fail
  have HZ : Hid (Zd w2 (false) d0 dn dc (zOf false (x.natAbs - y.natAbs))) := Zd.of HT.out (by simp)
  have HE : Hid (zOf false (x.natAbs - y.natAbs) = x + y) := by
    have h1 := HX.out
    have h2 := HY.out
    have h3 := HGE.out
    unfold zOf at h1 h2
    rw [Hid]
    unfold zOf
    simp at h1 h2 ⊢
    omega
  refine bodyPost_ret (v := .agg #[.bool (false), .slice d0 dn dc]) (by simp [results, Tryz.results44, go_sem, br_c0, br_c1]) rfl ?_
  exact ⟨_, _, _, _, rfl, HE.out ▸ HZ.out.set2 HK2.out.tail.tail.tail.tail.box _ _, below_set2 HB2.out (by omega) _ _⟩

set_option maxHeartbeats 4000000 in
theorem zadd_lt_true {ao bo : Option Addr} {n cap l cb : Nat} {x y : Int} {w : World} (hx : Zx w true ao n cap x) (hy : Zx w false bo l cb y) (hlt : x.natAbs < y.natAbs) :
    Calls Tryz.prog 44 #[.agg #[.bool true, .slice ao n cap], .agg #[.bool false, .slice bo l cb]] w (NewZ w (x + y)) := by
  have hle := hx.le
  have hle2 := hy.le
  have HX : Hid (zOf true x.natAbs = x) := hx.zd.val
  have HY : Hid (zOf false y.natAbs = y) := hy.zd.val
  have HC : Hid (cmpN x.natAbs y.natAbs = -1) := by rw [Hid]; unfold cmpN; rw [if_pos (by omega)]
  have HGE : Hid (x.natAbs ≤ y.natAbs) := by rw [Hid]; omega
  clear hlt
  go_enter Tryz.func44, Tryz.ntmps44
  go_upto_region 1 with (fail)
  refine wp_world (fun W hW => ?_)
  have HB0 : Hid (Below w.heap.size w W) := by rw [hW]; exact step_alloc (step_alloc (below_alloc _ _))
  have hbx_bx : Box W (w.heap.size) true ao n cap := by rw [hW]; exact ((Box.new _ _ _ _ _ _ _ (by simp)).below (below_alloc _ _)).below (below_alloc _ _)
  have hbx_by : Box W (w.heap.size + 1) false bo l cb := by rw [hW]; exact (Box.new _ _ _ _ _ _ _ (by simp)).below (below_alloc _ _)
  have hbx_br : Box W (w.heap.size + 2) false none 0 0 := by rw [hW]; exact Box.new _ _ _ _ _ _ _ (by simp)
  have HK0 := Lib.hid (Live.add_zed (hx.below HB0.out) (Live.add_zed (hy.below HB0.out) (Live.add_box hbx_bx (Live.add_box hbx_by (Live.add_box hbx_br (Live.nil W))))))
  clear hW hbx_bx hbx_by hbx_br
  have bx_c0 := HK0.out.tail.tail.box.c0
  have bx_c1 := HK0.out.tail.tail.box.c1
  have bx_f0 := HK0.out.tail.tail.box.f0
  have bx_f1 := HK0.out.tail.tail.box.f1
  have by_c0 := HK0.out.tail.tail.tail.box.c0
  have by_c1 := HK0.out.tail.tail.tail.box.c1
  have by_f0 := HK0.out.tail.tail.tail.box.f0
  have by_f1 := HK0.out.tail.tail.tail.box.f1
  have br_c0 := HK0.out.tail.tail.tail.tail.box.c0
  have br_c1 := HK0.out.tail.tail.tail.tail.box.c1
  have br_f0 := HK0.out.tail.tail.tail.tail.box.f0
  have br_f1 := HK0.out.tail.tail.tail.tail.box.f1
  go_wp2_with fail
  refine (Dg.cmp_is (-1) _ _ _ _ _ _ _ _ _ HK0.out.zed.zd.sl HK0.out.tail.zed.zd.sl HC).mono ?_
  rintro e w1 ⟨rfl, hB⟩
  have HK1 := Lib.hid (HK0.out.below hB)
  have HB1 := Lib.hid (Below.steps HB0.out hB)
  clear bx_c0 bx_c1 bx_f0 bx_f1 by_c0 by_c1 by_f0 by_f1 br_c0 br_c1 br_f0 br_f1
  clear HK0 HB0 hB
  have bx_c0 := HK1.out.tail.tail.box.c0
  have bx_c1 := HK1.out.tail.tail.box.c1
  have bx_f0 := HK1.out.tail.tail.box.f0
  have bx_f1 := HK1.out.tail.tail.box.f1
  have by_c0 := HK1.out.tail.tail.tail.box.c0
  have by_c1 := HK1.out.tail.tail.tail.box.c1
  have by_f0 := HK1.out.tail.tail.tail.box.f0
  have by_f1 := HK1.out.tail.tail.tail.box.f1
  have br_c0 := HK1.out.tail.tail.tail.tail.box.c0
  have br_c1 := HK1.out.tail.tail.tail.tail.box.c1
  have br_f0 := HK1.out.tail.tail.tail.tail.box.f0
  have br_f1 := HK1.out.tail.tail.tail.tail.box.f1
  go_upto_region 5 with (fail)
  refine wp_world (fun W2 hW2 => ?_)
  have hX2 : Box W2 (w.heap.size) false bo l cb := by rw [hW2]; exact (HK1.out.tail.tail.box.set _ _ _ _).far (by omega) _ _
  have hY2 : Box W2 (w.heap.size + 1) true ao n cap := by rw [hW2]; exact (HK1.out.tail.tail.tail.box.far (by omega) _ _).set _ _ _ _
  have hR2 : Box W2 (w.heap.size + 2) false none 0 0 := by rw [hW2]; exact (HK1.out.tail.tail.tail.tail.box.far (by omega) _ _).far (by omega) _ _
  have hxs2 : Zx W2 true ao n cap x := by rw [hW2]; exact ⟨(HK1.out.zed.zd.set2 HK1.out.tail.tail.box _ _).set2 (HK1.out.tail.tail.tail.box.far (by omega) _ _) _ _, hle⟩
  have hys2 : Zx W2 false bo l cb y := by rw [hW2]; exact ⟨(HK1.out.tail.zed.zd.set2 HK1.out.tail.tail.box _ _).set2 (HK1.out.tail.tail.tail.box.far (by omega) _ _) _ _, hle2⟩
  have HB2 : Hid (Below w.heap.size w W2) := by rw [hW2]; exact below_set2 (below_set2 HB1.out (by omega) _ _) (by omega) _ _
  have HK2 := Lib.hid (Live.add_zed hxs2 (Live.add_zed hys2 (Live.add_box hX2 (Live.add_box hY2 (Live.add_box hR2 (Live.nil W2))))))
  clear bx_c0 bx_c1 bx_f0 bx_f1 by_c0 by_c1 by_f0 by_f1 br_c0 br_c1 br_f0 br_f1
  clear hW2 hX2 hY2 hR2 hxs2 hys2 HK1 HB1
  have bx_c0 := HK2.out.tail.tail.box.c0
  have bx_c1 := HK2.out.tail.tail.box.c1
  have bx_f0 := HK2.out.tail.tail.box.f0
  have bx_f1 := HK2.out.tail.tail.box.f1
  have by_c0 := HK2.out.tail.tail.tail.box.c0
  have by_c1 := HK2.out.tail.tail.tail.box.c1
  have by_f0 := HK2.out.tail.tail.tail.box.f0
  have by_f1 := HK2.out.tail.tail.tail.box.f1
  have br_c0 := HK2.out.tail.tail.tail.tail.box.c0
  have br_c1 := HK2.out.tail.tail.tail.tail.box.c1
  have br_f0 := HK2.out.tail.tail.tail.tail.box.f0
  have br_f1 := HK2.out.tail.tail.tail.tail.box.f1
  go_wp2_with fail
  refine (Dg.sub_any _ _ _ _ _ _ _ _ _ HK2.out.tail.zed.zd.sl HK2.out.zed.zd.sl HGE.out (by omega)).mono ?_
  rintro e w3 ⟨d0, dn, dc, rfl, hT, hB⟩
  have HT := Lib.hid hT.sl
  have hdb := hT.big
  have HK3 := Lib.hid (HK2.out.below hB)
  have HB3 := Lib.hid (Below.steps HB2.out hB)
  clear bx_c0 bx_c1 bx_f0 bx_f1 by_c0 by_c1 by_f0 by_f1 br_c0 br_c1 br_f0 br_f1
  clear HK2 HB2 hT hB
  have bx_c0 := HK3.out.tail.tail.box.c0
  have bx_c1 := HK3.out.tail.tail.box.c1
  have bx_f0 := HK3.out.tail.tail.box.f0
  have bx_f1 := HK3.out.tail.tail.box.f1
  have by_c0 := HK3.out.tail.tail.tail.box.c0
  have by_c1 := HK3.out.tail.tail.tail.box.c1
  have by_f0 := HK3.out.tail.tail.tail.box.f0
  have by_f1 := HK3.out.tail.tail.tail.box.f1
  have br_c0 := HK3.out.tail.tail.tail.tail.box.c0
  have br_c1 := HK3.out.tail.tail.tail.tail.box.c1
  have br_f0 := HK3.out.tail.tail.tail.tail.box.f0
  have br_f1 := HK3.out.tail.tail.tail.tail.box.f1
  go_wp2_with fail
  have HZ : Hid (Zd w3 (false) d0 dn dc (zOf false (y.natAbs - x.natAbs))) := Zd.of HT.out (by simp)
  have HE : Hid (zOf false (y.natAbs - x.natAbs) = x + y) := by
    have h1 := HX.out
    have h2 := HY.out
    have h3 := HGE.out
    unfold zOf at h1 h2
    rw [Hid]
    unfold zOf
    simp at h1 h2 ⊢
    omega
  refine bodyPost_ret (v := .agg #[.bool (false), .slice d0 dn dc]) (by simp [results, Tryz.results44, go_sem, br_c0, br_c1]) rfl ?_
  exact ⟨_, _, _, _, rfl, HE.out ▸ HZ.out.set2 HK3.out.tail.tail.tail.tail.box _ _, below_set2 HB3.out (by omega) _ _⟩

set_option maxHeartbeats 4000000 in
theorem zadd_lt_false {ao bo : Option Addr} {n cap l cb : Nat} {x y : Int} {w : World} (hx : Zx w false ao n cap x) (hy : Zx w true bo l cb y) (hlt : x.natAbs < y.natAbs) :
    Calls Tryz.prog 44 #[.agg #[.bool false, .slice ao n cap], .agg #[.bool true, .slice bo l cb]] w (NewZ w (x + y)) := by
  have hle := hx.le
  have hle2 := hy.le
  have HX : Hid (zOf false x.natAbs = x) := hx.zd.val
  have HY : Hid (zOf true y.natAbs = y) := hy.zd.val
  have HC : Hid (cmpN x.natAbs y.natAbs = -1) := by rw [Hid]; unfold cmpN; rw [if_pos (by omega)]
  have HGE : Hid (x.natAbs ≤ y.natAbs) := by rw [Hid]; omega
  clear hlt
  go_enter Tryz.func44, Tryz.ntmps44
  go_upto_region 1 with (fail)
  refine wp_world (fun W hW => ?_)
  have HB0 : Hid (Below w.heap.size w W) := by rw [hW]; exact step_alloc (step_alloc (below_alloc _ _))
  have hbx_bx : Box W (w.heap.size) false ao n cap := by rw [hW]; exact ((Box.new _ _ _ _ _ _ _ (by simp)).below (below_alloc _ _)).below (below_alloc _ _)
  have hbx_by : Box W (w.heap.size + 1) true bo l cb := by rw [hW]; exact (Box.new _ _ _ _ _ _ _ (by simp)).below (below_alloc _ _)
  have hbx_br : Box W (w.heap.size + 2) false none 0 0 := by rw [hW]; exact Box.new _ _ _ _ _ _ _ (by simp)
  have HK0 := Lib.hid (Live.add_zed (hx.below HB0.out) (Live.add_zed (hy.below HB0.out) (Live.add_box hbx_bx (Live.add_box hbx_by (Live.add_box hbx_br (Live.nil W))))))
  clear hW hbx_bx hbx_by hbx_br
  have bx_c0 := HK0.out.tail.tail.box.c0
  have bx_c1 := HK0.out.tail.tail.box.c1
  have bx_f0 := HK0.out.tail.tail.box.f0
  have bx_f1 := HK0.out.tail.tail.box.f1
  have by_c0 := HK0.out.tail.tail.tail.box.c0
  have by_c1 := HK0.out.tail.tail.tail.box.c1
  have by_f0 := HK0.out.tail.tail.tail.box.f0
  have by_f1 := HK0.out.tail.tail.tail.box.f1
  have br_c0 := HK0.out.tail.tail.tail.tail.box.c0
  have br_c1 := HK0.out.tail.tail.tail.tail.box.c1
  have br_f0 := HK0.out.tail.tail.tail.tail.box.f0
  have br_f1 := HK0.out.tail.tail.tail.tail.box.f1
  go_wp2_with fail
  refine (Dg.cmp_is (-1) _ _ _ _ _ _ _ _ _ HK0.out.zed.zd.sl HK0.out.tail.zed.zd.sl HC).mono ?_
  rintro e w1 ⟨rfl, hB⟩
  have HK1 := Lib.hid (HK0.out.below hB)
  have HB1 := Lib.hid (Below.steps HB0.out hB)
  clear bx_c0 bx_c1 bx_f0 bx_f1 by_c0 by_c1 by_f0 by_f1 br_c0 br_c1 br_f0 br_f1
  clear HK0 HB0 hB
  have bx_c0 := HK1.out.tail.tail.box.c0
  have bx_c1 := HK1.out.tail.tail.box.c1
  have bx_f0 := HK1.out.tail.tail.box.f0
  have bx_f1 := HK1.out.tail.tail.box.f1
  have by_c0 := HK1.out.tail.tail.tail.box.c0
  have by_c1 := HK1.out.tail.tail.tail.box.c1
  have by_f0 := HK1.out.tail.tail.tail.box.f0
  have by_f1 := HK1.out.tail.tail.tail.box.f1
  have br_c0 := HK1.out.tail.tail.tail.tail.box.c0
  have br_c1 := HK1.out.tail.tail.tail.tail.box.c1
  have br_f0 := HK1.out.tail.tail.tail.tail.box.f0
  have br_f1 := HK1.out.tail.tail.tail.tail.box.f1
  go_upto_region 5 with (fail)
  refine wp_world (fun W2 hW2 => ?_)
  have hX2 : Box W2 (w.heap.size) true bo l cb := by rw [hW2]; exact (HK1.out.tail.tail.box.set _ _ _ _).far (by omega) _ _
  have hY2 : Box W2 (w.heap.size + 1) false ao n cap := by rw [hW2]; exact (HK1.out.tail.tail.tail.box.far (by omega) _ _).set _ _ _ _
  have hR2 : Box W2 (w.heap.size + 2) false none 0 0 := by rw [hW2]; exact (HK1.out.tail.tail.tail.tail.box.far (by omega) _ _).far (by omega) _ _
  have hxs2 : Zx W2 false ao n cap x := by rw [hW2]; exact ⟨(HK1.out.zed.zd.set2 HK1.out.tail.tail.box _ _).set2 (HK1.out.tail.tail.tail.box.far (by omega) _ _) _ _, hle⟩
  have hys2 : Zx W2 true bo l cb y := by rw [hW2]; exact ⟨(HK1.out.tail.zed.zd.set2 HK1.out.tail.tail.box _ _).set2 (HK1.out.tail.tail.tail.box.far (by omega) _ _) _ _, hle2⟩
  have HB2 : Hid (Below w.heap.size w W2) := by rw [hW2]; exact below_set2 (below_set2 HB1.out (by omega) _ _) (by omega) _ _
  have HK2 := Lib.hid (Live.add_zed hxs2 (Live.add_zed hys2 (Live.add_box hX2 (Live.add_box hY2 (Live.add_box hR2 (Live.nil W2))))))
  clear bx_c0 bx_c1 bx_f0 bx_f1 by_c0 by_c1 by_f0 by_f1 br_c0 br_c1 br_f0 br_f1
  clear hW2 hX2 hY2 hR2 hxs2 hys2 HK1 HB1
  have bx_c0 := HK2.out.tail.tail.box.c0
  have bx_c1 := HK2.out.tail.tail.box.c1
  have bx_f0 := HK2.out.tail.tail.box.f0
  have bx_f1 := HK2.out.tail.tail.box.f1
  have by_c0 := HK2.out.tail.tail.tail.box.c0
  have by_c1 := HK2.out.tail.tail.tail.box.c1
  have by_f0 := HK2.out.tail.tail.tail.box.f0
  have by_f1 := HK2.out.tail.tail.tail.box.f1
  have br_c0 := HK2.out.tail.tail.tail.tail.box.c0
  have br_c1 := HK2.out.tail.tail.tail.tail.box.c1
  have br_f0 := HK2.out.tail.tail.tail.tail.box.f0
  have br_f1 := HK2.out.tail.tail.tail.tail.box.f1
  go_wp2_with fail
  refine (Dg.sub_any _ _ _ _ _ _ _ _ _ HK2.out.tail.zed.zd.sl HK2.out.zed.zd.sl HGE.out (by omega)).mono ?_
  rintro e w3 ⟨d0, dn, dc, rfl, hT, hB⟩
  have HT := Lib.hid hT.sl
  have hdb := hT.big
  have HK3 := Lib.hid (HK2.out.below hB)
  have HB3 := Lib.hid (Below.steps HB2.out hB)
  clear bx_c0 bx_c1 bx_f0 bx_f1 by_c0 by_c1 by_f0 by_f1 br_c0 br_c1 br_f0 br_f1
  clear HK2 HB2 hT hB
  have bx_c0 := HK3.out.tail.tail.box.c0
  have bx_c1 := HK3.out.tail.tail.box.c1
  have bx_f0 := HK3.out.tail.tail.box.f0
  have bx_f1 := HK3.out.tail.tail.box.f1
  have by_c0 := HK3.out.tail.tail.tail.box.c0
  have by_c1 := HK3.out.tail.tail.tail.box.c1
  have by_f0 := HK3.out.tail.tail.tail.box.f0
  have by_f1 := HK3.out.tail.tail.tail.box.f1
  have br_c0 := HK3.out.tail.tail.tail.tail.box.c0
  have br_c1 := HK3.out.tail.tail.tail.tail.box.c1
  have br_f0 := HK3.out.tail.tail.tail.tail.box.f0
  have br_f1 := HK3.out.tail.tail.tail.tail.box.f1
  go_wp2_with fail
  have HZ : Hid (Zd w3 (decide (0 < dn)) d0 dn dc (zOf true (y.natAbs - x.natAbs))) := Zd.of HT.out (by simp)
  have HE : Hid (zOf true (y.natAbs - x.natAbs) = x + y) := by
    have h1 := HX.out
    have h2 := HY.out
    have h3 := HGE.out
    unfold zOf at h1 h2
    rw [Hid]
    unfold zOf
    simp at h1 h2 ⊢
    omega
  refine bodyPost_ret (v := .agg #[.bool (decide (0 < dn)), .slice d0 dn dc]) (by simp [results, Tryz.results44, go_sem, br_c0, br_c1]) rfl ?_
  exact ⟨_, _, _, _, rfl, HE.out ▸ HZ.out.set2 HK3.out.tail.tail.tail.tail.box _ _, below_set2 HB3.out (by omega) _ _⟩

theorem zadd_any {m k : Bool} {ao bo : Option Addr} {n cap l cb : Nat} {x y : Int} {w : World} (hx : Zx w m ao n cap x) (hy : Zx w k bo l cb y) :
    Calls Tryz.prog 44 #[.agg #[.bool m, .slice ao n cap], .agg #[.bool k, .slice bo l cb]] w (NewZ w (x + y)) := by
  by_cases hmk : k = m
  · subst hmk; exact zadd_same hx hy
  · by_cases h : y.natAbs ≤ x.natAbs
    · cases m <;> cases k
      · exact absurd rfl hmk
      · exact zadd_ge_false hx hy h
      · exact zadd_ge_true hx hy h
      · exact absurd rfl hmk
    · cases m <;> cases k
      · exact absurd rfl hmk
      · exact zadd_lt_false hx hy (by omega)
      · exact zadd_lt_true hx hy (by omega)
      · exact absurd rfl hmk

theorem neg_zx {w : World} {k m : Bool} {ao bo : Option Addr} {n cap l cb : Nat} {y : Int} (h : Zd w m ao n cap (-y)) (hl : l ≤ 1000000) (hy : Zx w k bo l cb y) : Zx w m ao n cap (-y) :=
  ⟨h, by have h1 := h.sl.len; have h2 := hy.zd.sl.len; rw [Int.natAbs_neg] at h1; omega⟩

end Go.Proofs.YteceomlbnajihaaGreatDoor

/- The contracts of porismref04.DivMod and porismref04.Gcd. -/
namespace Go.Proofs.YteceomlbnajihaaGreatDoor
open Go.RowKit

/-- What the reference's division leaves. -/
def NewZ2 (w : World) (q r : Int) (e : Ending) (w' : World) : Prop :=
  ∃ m ao n cap k bo l cb, e = .returned (.tuple #[.agg #[.bool m, .slice ao n cap], .agg #[.bool k, .slice bo l cb]]) ∧ Zd w' m ao n cap q ∧ Zd w' k bo l cb r ∧ Below w.heap.size w w'

set_option maxHeartbeats 4000000 in
theorem zdivmod_true_true {ao bo : Option Addr} {n cap l cb : Nat} {x y : Int} {w : World} (hx : Zx w true ao n cap x) (hy : Zx w true bo l cb y) (h0 : y ≠ 0) :
    Calls Tryz.prog 49 #[.agg #[.bool true, .slice ao n cap], .agg #[.bool true, .slice bo l cb]] w (NewZ2 w (x.tdiv y) (x.tmod y)) := by
  have hle := hx.le
  have hle2 := hy.le
  have HX : Hid (zOf true x.natAbs = x) := hx.zd.val
  have HY : Hid (zOf true y.natAbs = y) := hy.zd.val
  have H0 : Hid (0 < y.natAbs) := by rw [Hid]; omega
  clear h0
  go_enter Tryz.func49, Tryz.ntmps49
  go_upto_region 1 with (fail)
  refine wp_world (fun W hW => ?_)
  have HB0 : Hid (Below w.heap.size w W) := by rw [hW]; exact step_alloc (step_alloc (step_alloc (below_alloc _ _)))
  have hbx_bx : Box W (w.heap.size) true ao n cap := by rw [hW]; exact (((Box.new _ _ _ _ _ _ _ (by simp)).below (below_alloc _ _)).below (below_alloc _ _)).below (below_alloc _ _)
  have hbx_by : Box W (w.heap.size + 1) true bo l cb := by rw [hW]; exact ((Box.new _ _ _ _ _ _ _ (by simp)).below (below_alloc _ _)).below (below_alloc _ _)
  have hbx_bq : Box W (w.heap.size + 2) false none 0 0 := by rw [hW]; exact (Box.new _ _ _ _ _ _ _ (by simp)).below (below_alloc _ _)
  have hbx_br : Box W (w.heap.size + 3) false none 0 0 := by rw [hW]; exact Box.new _ _ _ _ _ _ _ (by simp)
  have HK0 := Lib.hid (Live.add_zed (hx.below HB0.out) (Live.add_zed (hy.below HB0.out) (Live.add_box hbx_bx (Live.add_box hbx_by (Live.add_box hbx_bq (Live.add_box hbx_br (Live.nil W)))))))
  clear hW hbx_bx hbx_by hbx_bq hbx_br
  have bx_c0 := HK0.out.tail.tail.box.c0
  have bx_c1 := HK0.out.tail.tail.box.c1
  have bx_f0 := HK0.out.tail.tail.box.f0
  have bx_f1 := HK0.out.tail.tail.box.f1
  have by_c0 := HK0.out.tail.tail.tail.box.c0
  have by_c1 := HK0.out.tail.tail.tail.box.c1
  have by_f0 := HK0.out.tail.tail.tail.box.f0
  have by_f1 := HK0.out.tail.tail.tail.box.f1
  have bq_c0 := HK0.out.tail.tail.tail.tail.box.c0
  have bq_c1 := HK0.out.tail.tail.tail.tail.box.c1
  have bq_f0 := HK0.out.tail.tail.tail.tail.box.f0
  have bq_f1 := HK0.out.tail.tail.tail.tail.box.f1
  have br_c0 := HK0.out.tail.tail.tail.tail.tail.box.c0
  have br_c1 := HK0.out.tail.tail.tail.tail.tail.box.c1
  have br_f0 := HK0.out.tail.tail.tail.tail.tail.box.f0
  have br_f1 := HK0.out.tail.tail.tail.tail.tail.box.f1
  go_wp2_with fail
  refine (Dg.divmod_any _ _ _ _ _ _ _ _ _ HK0.out.zed.zd.sl HK0.out.tail.zed.zd.sl H0.out (by omega) (by omega)).mono ?_
  rintro e w1 ⟨q0, qn, qc, s0, sn, sc, rfl, hQ, hS, hB⟩
  rw [Dg.val_limbs] at hQ hS
  have HQ := Lib.hid hQ
  have HS := Lib.hid hS
  have hqb := hQ.big
  have hsb := hS.big
  have HK1 := Lib.hid (HK0.out.below hB)
  have HB1 := Lib.hid (Below.steps HB0.out hB)
  clear bx_c0 bx_c1 bx_f0 bx_f1 by_c0 by_c1 by_f0 by_f1 bq_c0 bq_c1 bq_f0 bq_f1 br_c0 br_c1 br_f0 br_f1
  clear HK0 HB0 hQ hS hB
  have bx_c0 := HK1.out.tail.tail.box.c0
  have bx_c1 := HK1.out.tail.tail.box.c1
  have bx_f0 := HK1.out.tail.tail.box.f0
  have bx_f1 := HK1.out.tail.tail.box.f1
  have by_c0 := HK1.out.tail.tail.tail.box.c0
  have by_c1 := HK1.out.tail.tail.tail.box.c1
  have by_f0 := HK1.out.tail.tail.tail.box.f0
  have by_f1 := HK1.out.tail.tail.tail.box.f1
  have bq_c0 := HK1.out.tail.tail.tail.tail.box.c0
  have bq_c1 := HK1.out.tail.tail.tail.tail.box.c1
  have bq_f0 := HK1.out.tail.tail.tail.tail.box.f0
  have bq_f1 := HK1.out.tail.tail.tail.tail.box.f1
  have br_c0 := HK1.out.tail.tail.tail.tail.tail.box.c0
  have br_c1 := HK1.out.tail.tail.tail.tail.tail.box.c1
  have br_f0 := HK1.out.tail.tail.tail.tail.tail.box.f0
  have br_f1 := HK1.out.tail.tail.tail.tail.tail.box.f1
  go_wp2_with fail
  have HU : Hid (Zd w1 (false) q0 qn qc (zOf (true != true) (x.natAbs / y.natAbs))) := Zd.of HQ.out (by simp)
  have HV : Hid (Zd w1 (decide (0 < sn)) s0 sn sc (zOf true (x.natAbs % y.natAbs))) := Zd.of HS.out (by simp)
  have HE1 : Hid (zOf (true != true) (x.natAbs / y.natAbs) = x.tdiv y) := by rw [Hid, zOf_div, HX.out, HY.out]
  have HE2 : Hid (zOf true (x.natAbs % y.natAbs) = x.tmod y) := by rw [Hid, zOf_mod true true, HX.out, HY.out]
  have HB9 := Lib.hid (below_set2 (below_set2 HB1.out (b := w.heap.size + 2) (by omega) (.bool (false)) (.slice q0 qn qc)) (b := w.heap.size + 3) (by omega) (.bool (decide (0 < sn))) (.slice s0 sn sc))
  have HU9 : Hid (Zd _ (false) q0 qn qc (x.tdiv y)) := Lib.hid (HE1.out ▸ (HU.out.set2 HK1.out.tail.tail.tail.tail.box (.bool (false)) (.slice q0 qn qc)).set2 (HK1.out.tail.tail.tail.tail.tail.box.far (by omega) _ _) (.bool (decide (0 < sn))) (.slice s0 sn sc))
  have HV9 : Hid (Zd _ (decide (0 < sn)) s0 sn sc (x.tmod y)) := Lib.hid (HE2.out ▸ (HV.out.set2 HK1.out.tail.tail.tail.tail.box (.bool (false)) (.slice q0 qn qc)).set2 (HK1.out.tail.tail.tail.tail.tail.box.far (by omega) _ _) (.bool (decide (0 < sn))) (.slice s0 sn sc))
  refine bodyPost_ret (v := .tuple #[.agg #[.bool (false), .slice q0 qn qc], .agg #[.bool (decide (0 < sn)), .slice s0 sn sc]]) (by simp [results, Tryz.results49, go_sem, bq_c0, bq_c1, br_c0, br_c1]) rfl ?_
  exact ⟨_, _, _, _, _, _, _, _, rfl, HU9.out, HV9.out, HB9.out⟩

set_option maxHeartbeats 4000000 in
theorem zdivmod_true_false {ao bo : Option Addr} {n cap l cb : Nat} {x y : Int} {w : World} (hx : Zx w true ao n cap x) (hy : Zx w false bo l cb y) (h0 : y ≠ 0) :
    Calls Tryz.prog 49 #[.agg #[.bool true, .slice ao n cap], .agg #[.bool false, .slice bo l cb]] w (NewZ2 w (x.tdiv y) (x.tmod y)) := by
  have hle := hx.le
  have hle2 := hy.le
  have HX : Hid (zOf true x.natAbs = x) := hx.zd.val
  have HY : Hid (zOf false y.natAbs = y) := hy.zd.val
  have H0 : Hid (0 < y.natAbs) := by rw [Hid]; omega
  clear h0
  go_enter Tryz.func49, Tryz.ntmps49
  go_upto_region 1 with (fail)
  refine wp_world (fun W hW => ?_)
  have HB0 : Hid (Below w.heap.size w W) := by rw [hW]; exact step_alloc (step_alloc (step_alloc (below_alloc _ _)))
  have hbx_bx : Box W (w.heap.size) true ao n cap := by rw [hW]; exact (((Box.new _ _ _ _ _ _ _ (by simp)).below (below_alloc _ _)).below (below_alloc _ _)).below (below_alloc _ _)
  have hbx_by : Box W (w.heap.size + 1) false bo l cb := by rw [hW]; exact ((Box.new _ _ _ _ _ _ _ (by simp)).below (below_alloc _ _)).below (below_alloc _ _)
  have hbx_bq : Box W (w.heap.size + 2) false none 0 0 := by rw [hW]; exact (Box.new _ _ _ _ _ _ _ (by simp)).below (below_alloc _ _)
  have hbx_br : Box W (w.heap.size + 3) false none 0 0 := by rw [hW]; exact Box.new _ _ _ _ _ _ _ (by simp)
  have HK0 := Lib.hid (Live.add_zed (hx.below HB0.out) (Live.add_zed (hy.below HB0.out) (Live.add_box hbx_bx (Live.add_box hbx_by (Live.add_box hbx_bq (Live.add_box hbx_br (Live.nil W)))))))
  clear hW hbx_bx hbx_by hbx_bq hbx_br
  have bx_c0 := HK0.out.tail.tail.box.c0
  have bx_c1 := HK0.out.tail.tail.box.c1
  have bx_f0 := HK0.out.tail.tail.box.f0
  have bx_f1 := HK0.out.tail.tail.box.f1
  have by_c0 := HK0.out.tail.tail.tail.box.c0
  have by_c1 := HK0.out.tail.tail.tail.box.c1
  have by_f0 := HK0.out.tail.tail.tail.box.f0
  have by_f1 := HK0.out.tail.tail.tail.box.f1
  have bq_c0 := HK0.out.tail.tail.tail.tail.box.c0
  have bq_c1 := HK0.out.tail.tail.tail.tail.box.c1
  have bq_f0 := HK0.out.tail.tail.tail.tail.box.f0
  have bq_f1 := HK0.out.tail.tail.tail.tail.box.f1
  have br_c0 := HK0.out.tail.tail.tail.tail.tail.box.c0
  have br_c1 := HK0.out.tail.tail.tail.tail.tail.box.c1
  have br_f0 := HK0.out.tail.tail.tail.tail.tail.box.f0
  have br_f1 := HK0.out.tail.tail.tail.tail.tail.box.f1
  go_wp2_with fail
  refine (Dg.divmod_any _ _ _ _ _ _ _ _ _ HK0.out.zed.zd.sl HK0.out.tail.zed.zd.sl H0.out (by omega) (by omega)).mono ?_
  rintro e w1 ⟨q0, qn, qc, s0, sn, sc, rfl, hQ, hS, hB⟩
  rw [Dg.val_limbs] at hQ hS
  have HQ := Lib.hid hQ
  have HS := Lib.hid hS
  have hqb := hQ.big
  have hsb := hS.big
  have HK1 := Lib.hid (HK0.out.below hB)
  have HB1 := Lib.hid (Below.steps HB0.out hB)
  clear bx_c0 bx_c1 bx_f0 bx_f1 by_c0 by_c1 by_f0 by_f1 bq_c0 bq_c1 bq_f0 bq_f1 br_c0 br_c1 br_f0 br_f1
  clear HK0 HB0 hQ hS hB
  have bx_c0 := HK1.out.tail.tail.box.c0
  have bx_c1 := HK1.out.tail.tail.box.c1
  have bx_f0 := HK1.out.tail.tail.box.f0
  have bx_f1 := HK1.out.tail.tail.box.f1
  have by_c0 := HK1.out.tail.tail.tail.box.c0
  have by_c1 := HK1.out.tail.tail.tail.box.c1
  have by_f0 := HK1.out.tail.tail.tail.box.f0
  have by_f1 := HK1.out.tail.tail.tail.box.f1
  have bq_c0 := HK1.out.tail.tail.tail.tail.box.c0
  have bq_c1 := HK1.out.tail.tail.tail.tail.box.c1
  have bq_f0 := HK1.out.tail.tail.tail.tail.box.f0
  have bq_f1 := HK1.out.tail.tail.tail.tail.box.f1
  have br_c0 := HK1.out.tail.tail.tail.tail.tail.box.c0
  have br_c1 := HK1.out.tail.tail.tail.tail.tail.box.c1
  have br_f0 := HK1.out.tail.tail.tail.tail.tail.box.f0
  have br_f1 := HK1.out.tail.tail.tail.tail.tail.box.f1
  go_wp2_with fail
  have HU : Hid (Zd w1 (decide (0 < qn)) q0 qn qc (zOf (true != false) (x.natAbs / y.natAbs))) := Zd.of HQ.out (by simp)
  have HV : Hid (Zd w1 (decide (0 < sn)) s0 sn sc (zOf true (x.natAbs % y.natAbs))) := Zd.of HS.out (by simp)
  have HE1 : Hid (zOf (true != false) (x.natAbs / y.natAbs) = x.tdiv y) := by rw [Hid, zOf_div, HX.out, HY.out]
  have HE2 : Hid (zOf true (x.natAbs % y.natAbs) = x.tmod y) := by rw [Hid, zOf_mod true false, HX.out, HY.out]
  have HB9 := Lib.hid (below_set2 (below_set2 HB1.out (b := w.heap.size + 2) (by omega) (.bool (decide (0 < qn))) (.slice q0 qn qc)) (b := w.heap.size + 3) (by omega) (.bool (decide (0 < sn))) (.slice s0 sn sc))
  have HU9 : Hid (Zd _ (decide (0 < qn)) q0 qn qc (x.tdiv y)) := Lib.hid (HE1.out ▸ (HU.out.set2 HK1.out.tail.tail.tail.tail.box (.bool (decide (0 < qn))) (.slice q0 qn qc)).set2 (HK1.out.tail.tail.tail.tail.tail.box.far (by omega) _ _) (.bool (decide (0 < sn))) (.slice s0 sn sc))
  have HV9 : Hid (Zd _ (decide (0 < sn)) s0 sn sc (x.tmod y)) := Lib.hid (HE2.out ▸ (HV.out.set2 HK1.out.tail.tail.tail.tail.box (.bool (decide (0 < qn))) (.slice q0 qn qc)).set2 (HK1.out.tail.tail.tail.tail.tail.box.far (by omega) _ _) (.bool (decide (0 < sn))) (.slice s0 sn sc))
  refine bodyPost_ret (v := .tuple #[.agg #[.bool (decide (0 < qn)), .slice q0 qn qc], .agg #[.bool (decide (0 < sn)), .slice s0 sn sc]]) (by simp [results, Tryz.results49, go_sem, bq_c0, bq_c1, br_c0, br_c1]) rfl ?_
  exact ⟨_, _, _, _, _, _, _, _, rfl, HU9.out, HV9.out, HB9.out⟩

set_option maxHeartbeats 4000000 in
theorem zdivmod_false_true {ao bo : Option Addr} {n cap l cb : Nat} {x y : Int} {w : World} (hx : Zx w false ao n cap x) (hy : Zx w true bo l cb y) (h0 : y ≠ 0) :
    Calls Tryz.prog 49 #[.agg #[.bool false, .slice ao n cap], .agg #[.bool true, .slice bo l cb]] w (NewZ2 w (x.tdiv y) (x.tmod y)) := by
  have hle := hx.le
  have hle2 := hy.le
  have HX : Hid (zOf false x.natAbs = x) := hx.zd.val
  have HY : Hid (zOf true y.natAbs = y) := hy.zd.val
  have H0 : Hid (0 < y.natAbs) := by rw [Hid]; omega
  clear h0
  go_enter Tryz.func49, Tryz.ntmps49
  go_upto_region 1 with (fail)
  refine wp_world (fun W hW => ?_)
  have HB0 : Hid (Below w.heap.size w W) := by rw [hW]; exact step_alloc (step_alloc (step_alloc (below_alloc _ _)))
  have hbx_bx : Box W (w.heap.size) false ao n cap := by rw [hW]; exact (((Box.new _ _ _ _ _ _ _ (by simp)).below (below_alloc _ _)).below (below_alloc _ _)).below (below_alloc _ _)
  have hbx_by : Box W (w.heap.size + 1) true bo l cb := by rw [hW]; exact ((Box.new _ _ _ _ _ _ _ (by simp)).below (below_alloc _ _)).below (below_alloc _ _)
  have hbx_bq : Box W (w.heap.size + 2) false none 0 0 := by rw [hW]; exact (Box.new _ _ _ _ _ _ _ (by simp)).below (below_alloc _ _)
  have hbx_br : Box W (w.heap.size + 3) false none 0 0 := by rw [hW]; exact Box.new _ _ _ _ _ _ _ (by simp)
  have HK0 := Lib.hid (Live.add_zed (hx.below HB0.out) (Live.add_zed (hy.below HB0.out) (Live.add_box hbx_bx (Live.add_box hbx_by (Live.add_box hbx_bq (Live.add_box hbx_br (Live.nil W)))))))
  clear hW hbx_bx hbx_by hbx_bq hbx_br
  have bx_c0 := HK0.out.tail.tail.box.c0
  have bx_c1 := HK0.out.tail.tail.box.c1
  have bx_f0 := HK0.out.tail.tail.box.f0
  have bx_f1 := HK0.out.tail.tail.box.f1
  have by_c0 := HK0.out.tail.tail.tail.box.c0
  have by_c1 := HK0.out.tail.tail.tail.box.c1
  have by_f0 := HK0.out.tail.tail.tail.box.f0
  have by_f1 := HK0.out.tail.tail.tail.box.f1
  have bq_c0 := HK0.out.tail.tail.tail.tail.box.c0
  have bq_c1 := HK0.out.tail.tail.tail.tail.box.c1
  have bq_f0 := HK0.out.tail.tail.tail.tail.box.f0
  have bq_f1 := HK0.out.tail.tail.tail.tail.box.f1
  have br_c0 := HK0.out.tail.tail.tail.tail.tail.box.c0
  have br_c1 := HK0.out.tail.tail.tail.tail.tail.box.c1
  have br_f0 := HK0.out.tail.tail.tail.tail.tail.box.f0
  have br_f1 := HK0.out.tail.tail.tail.tail.tail.box.f1
  go_wp2_with fail
  refine (Dg.divmod_any _ _ _ _ _ _ _ _ _ HK0.out.zed.zd.sl HK0.out.tail.zed.zd.sl H0.out (by omega) (by omega)).mono ?_
  rintro e w1 ⟨q0, qn, qc, s0, sn, sc, rfl, hQ, hS, hB⟩
  rw [Dg.val_limbs] at hQ hS
  have HQ := Lib.hid hQ
  have HS := Lib.hid hS
  have hqb := hQ.big
  have hsb := hS.big
  have HK1 := Lib.hid (HK0.out.below hB)
  have HB1 := Lib.hid (Below.steps HB0.out hB)
  clear bx_c0 bx_c1 bx_f0 bx_f1 by_c0 by_c1 by_f0 by_f1 bq_c0 bq_c1 bq_f0 bq_f1 br_c0 br_c1 br_f0 br_f1
  clear HK0 HB0 hQ hS hB
  have bx_c0 := HK1.out.tail.tail.box.c0
  have bx_c1 := HK1.out.tail.tail.box.c1
  have bx_f0 := HK1.out.tail.tail.box.f0
  have bx_f1 := HK1.out.tail.tail.box.f1
  have by_c0 := HK1.out.tail.tail.tail.box.c0
  have by_c1 := HK1.out.tail.tail.tail.box.c1
  have by_f0 := HK1.out.tail.tail.tail.box.f0
  have by_f1 := HK1.out.tail.tail.tail.box.f1
  have bq_c0 := HK1.out.tail.tail.tail.tail.box.c0
  have bq_c1 := HK1.out.tail.tail.tail.tail.box.c1
  have bq_f0 := HK1.out.tail.tail.tail.tail.box.f0
  have bq_f1 := HK1.out.tail.tail.tail.tail.box.f1
  have br_c0 := HK1.out.tail.tail.tail.tail.tail.box.c0
  have br_c1 := HK1.out.tail.tail.tail.tail.tail.box.c1
  have br_f0 := HK1.out.tail.tail.tail.tail.tail.box.f0
  have br_f1 := HK1.out.tail.tail.tail.tail.tail.box.f1
  go_wp2_with fail
  have HU : Hid (Zd w1 (decide (0 < qn)) q0 qn qc (zOf (false != true) (x.natAbs / y.natAbs))) := Zd.of HQ.out (by simp)
  have HV : Hid (Zd w1 (false) s0 sn sc (zOf false (x.natAbs % y.natAbs))) := Zd.of HS.out (by simp)
  have HE1 : Hid (zOf (false != true) (x.natAbs / y.natAbs) = x.tdiv y) := by rw [Hid, zOf_div, HX.out, HY.out]
  have HE2 : Hid (zOf false (x.natAbs % y.natAbs) = x.tmod y) := by rw [Hid, zOf_mod false true, HX.out, HY.out]
  have HB9 := Lib.hid (below_set2 (below_set2 HB1.out (b := w.heap.size + 2) (by omega) (.bool (decide (0 < qn))) (.slice q0 qn qc)) (b := w.heap.size + 3) (by omega) (.bool (false)) (.slice s0 sn sc))
  have HU9 : Hid (Zd _ (decide (0 < qn)) q0 qn qc (x.tdiv y)) := Lib.hid (HE1.out ▸ (HU.out.set2 HK1.out.tail.tail.tail.tail.box (.bool (decide (0 < qn))) (.slice q0 qn qc)).set2 (HK1.out.tail.tail.tail.tail.tail.box.far (by omega) _ _) (.bool (false)) (.slice s0 sn sc))
  have HV9 : Hid (Zd _ (false) s0 sn sc (x.tmod y)) := Lib.hid (HE2.out ▸ (HV.out.set2 HK1.out.tail.tail.tail.tail.box (.bool (decide (0 < qn))) (.slice q0 qn qc)).set2 (HK1.out.tail.tail.tail.tail.tail.box.far (by omega) _ _) (.bool (false)) (.slice s0 sn sc))
  refine bodyPost_ret (v := .tuple #[.agg #[.bool (decide (0 < qn)), .slice q0 qn qc], .agg #[.bool (false), .slice s0 sn sc]]) (by simp [results, Tryz.results49, go_sem, bq_c0, bq_c1, br_c0, br_c1]) rfl ?_
  exact ⟨_, _, _, _, _, _, _, _, rfl, HU9.out, HV9.out, HB9.out⟩

set_option maxHeartbeats 4000000 in
theorem zdivmod_false_false {ao bo : Option Addr} {n cap l cb : Nat} {x y : Int} {w : World} (hx : Zx w false ao n cap x) (hy : Zx w false bo l cb y) (h0 : y ≠ 0) :
    Calls Tryz.prog 49 #[.agg #[.bool false, .slice ao n cap], .agg #[.bool false, .slice bo l cb]] w (NewZ2 w (x.tdiv y) (x.tmod y)) := by
  have hle := hx.le
  have hle2 := hy.le
  have HX : Hid (zOf false x.natAbs = x) := hx.zd.val
  have HY : Hid (zOf false y.natAbs = y) := hy.zd.val
  have H0 : Hid (0 < y.natAbs) := by rw [Hid]; omega
  clear h0
  go_enter Tryz.func49, Tryz.ntmps49
  go_upto_region 1 with (fail)
  refine wp_world (fun W hW => ?_)
  have HB0 : Hid (Below w.heap.size w W) := by rw [hW]; exact step_alloc (step_alloc (step_alloc (below_alloc _ _)))
  have hbx_bx : Box W (w.heap.size) false ao n cap := by rw [hW]; exact (((Box.new _ _ _ _ _ _ _ (by simp)).below (below_alloc _ _)).below (below_alloc _ _)).below (below_alloc _ _)
  have hbx_by : Box W (w.heap.size + 1) false bo l cb := by rw [hW]; exact ((Box.new _ _ _ _ _ _ _ (by simp)).below (below_alloc _ _)).below (below_alloc _ _)
  have hbx_bq : Box W (w.heap.size + 2) false none 0 0 := by rw [hW]; exact (Box.new _ _ _ _ _ _ _ (by simp)).below (below_alloc _ _)
  have hbx_br : Box W (w.heap.size + 3) false none 0 0 := by rw [hW]; exact Box.new _ _ _ _ _ _ _ (by simp)
  have HK0 := Lib.hid (Live.add_zed (hx.below HB0.out) (Live.add_zed (hy.below HB0.out) (Live.add_box hbx_bx (Live.add_box hbx_by (Live.add_box hbx_bq (Live.add_box hbx_br (Live.nil W)))))))
  clear hW hbx_bx hbx_by hbx_bq hbx_br
  have bx_c0 := HK0.out.tail.tail.box.c0
  have bx_c1 := HK0.out.tail.tail.box.c1
  have bx_f0 := HK0.out.tail.tail.box.f0
  have bx_f1 := HK0.out.tail.tail.box.f1
  have by_c0 := HK0.out.tail.tail.tail.box.c0
  have by_c1 := HK0.out.tail.tail.tail.box.c1
  have by_f0 := HK0.out.tail.tail.tail.box.f0
  have by_f1 := HK0.out.tail.tail.tail.box.f1
  have bq_c0 := HK0.out.tail.tail.tail.tail.box.c0
  have bq_c1 := HK0.out.tail.tail.tail.tail.box.c1
  have bq_f0 := HK0.out.tail.tail.tail.tail.box.f0
  have bq_f1 := HK0.out.tail.tail.tail.tail.box.f1
  have br_c0 := HK0.out.tail.tail.tail.tail.tail.box.c0
  have br_c1 := HK0.out.tail.tail.tail.tail.tail.box.c1
  have br_f0 := HK0.out.tail.tail.tail.tail.tail.box.f0
  have br_f1 := HK0.out.tail.tail.tail.tail.tail.box.f1
  go_wp2_with fail
  refine (Dg.divmod_any _ _ _ _ _ _ _ _ _ HK0.out.zed.zd.sl HK0.out.tail.zed.zd.sl H0.out (by omega) (by omega)).mono ?_
  rintro e w1 ⟨q0, qn, qc, s0, sn, sc, rfl, hQ, hS, hB⟩
  rw [Dg.val_limbs] at hQ hS
  have HQ := Lib.hid hQ
  have HS := Lib.hid hS
  have hqb := hQ.big
  have hsb := hS.big
  have HK1 := Lib.hid (HK0.out.below hB)
  have HB1 := Lib.hid (Below.steps HB0.out hB)
  clear bx_c0 bx_c1 bx_f0 bx_f1 by_c0 by_c1 by_f0 by_f1 bq_c0 bq_c1 bq_f0 bq_f1 br_c0 br_c1 br_f0 br_f1
  clear HK0 HB0 hQ hS hB
  have bx_c0 := HK1.out.tail.tail.box.c0
  have bx_c1 := HK1.out.tail.tail.box.c1
  have bx_f0 := HK1.out.tail.tail.box.f0
  have bx_f1 := HK1.out.tail.tail.box.f1
  have by_c0 := HK1.out.tail.tail.tail.box.c0
  have by_c1 := HK1.out.tail.tail.tail.box.c1
  have by_f0 := HK1.out.tail.tail.tail.box.f0
  have by_f1 := HK1.out.tail.tail.tail.box.f1
  have bq_c0 := HK1.out.tail.tail.tail.tail.box.c0
  have bq_c1 := HK1.out.tail.tail.tail.tail.box.c1
  have bq_f0 := HK1.out.tail.tail.tail.tail.box.f0
  have bq_f1 := HK1.out.tail.tail.tail.tail.box.f1
  have br_c0 := HK1.out.tail.tail.tail.tail.tail.box.c0
  have br_c1 := HK1.out.tail.tail.tail.tail.tail.box.c1
  have br_f0 := HK1.out.tail.tail.tail.tail.tail.box.f0
  have br_f1 := HK1.out.tail.tail.tail.tail.tail.box.f1
  go_wp2_with fail
  have HU : Hid (Zd w1 (false) q0 qn qc (zOf (false != false) (x.natAbs / y.natAbs))) := Zd.of HQ.out (by simp)
  have HV : Hid (Zd w1 (false) s0 sn sc (zOf false (x.natAbs % y.natAbs))) := Zd.of HS.out (by simp)
  have HE1 : Hid (zOf (false != false) (x.natAbs / y.natAbs) = x.tdiv y) := by rw [Hid, zOf_div, HX.out, HY.out]
  have HE2 : Hid (zOf false (x.natAbs % y.natAbs) = x.tmod y) := by rw [Hid, zOf_mod false false, HX.out, HY.out]
  have HB9 := Lib.hid (below_set2 (below_set2 HB1.out (b := w.heap.size + 2) (by omega) (.bool (false)) (.slice q0 qn qc)) (b := w.heap.size + 3) (by omega) (.bool (false)) (.slice s0 sn sc))
  have HU9 : Hid (Zd _ (false) q0 qn qc (x.tdiv y)) := Lib.hid (HE1.out ▸ (HU.out.set2 HK1.out.tail.tail.tail.tail.box (.bool (false)) (.slice q0 qn qc)).set2 (HK1.out.tail.tail.tail.tail.tail.box.far (by omega) _ _) (.bool (false)) (.slice s0 sn sc))
  have HV9 : Hid (Zd _ (false) s0 sn sc (x.tmod y)) := Lib.hid (HE2.out ▸ (HV.out.set2 HK1.out.tail.tail.tail.tail.box (.bool (false)) (.slice q0 qn qc)).set2 (HK1.out.tail.tail.tail.tail.tail.box.far (by omega) _ _) (.bool (false)) (.slice s0 sn sc))
  refine bodyPost_ret (v := .tuple #[.agg #[.bool (false), .slice q0 qn qc], .agg #[.bool (false), .slice s0 sn sc]]) (by simp [results, Tryz.results49, go_sem, bq_c0, bq_c1, br_c0, br_c1]) rfl ?_
  exact ⟨_, _, _, _, _, _, _, _, rfl, HU9.out, HV9.out, HB9.out⟩

theorem zdivmod_any {m k : Bool} {ao bo : Option Addr} {n cap l cb : Nat} {x y : Int} {w : World} (hx : Zx w m ao n cap x) (hy : Zx w k bo l cb y) (h0 : y ≠ 0) :
    Calls Tryz.prog 49 #[.agg #[.bool m, .slice ao n cap], .agg #[.bool k, .slice bo l cb]] w (NewZ2 w (x.tdiv y) (x.tmod y)) := by
  cases m <;> cases k
  · exact zdivmod_false_false hx hy h0
  · exact zdivmod_false_true hx hy h0
  · exact zdivmod_true_false hx hy h0
  · exact zdivmod_true_true hx hy h0

set_option maxHeartbeats 4000000 in
theorem zgcd_any {m k : Bool} {ao bo : Option Addr} {n cap l cb : Nat} {x y : Int} {w : World} (hx : Zx w m ao n cap x) (hy : Zx w k bo l cb y) :
    Calls Tryz.prog 48 #[.agg #[.bool m, .slice ao n cap], .agg #[.bool k, .slice bo l cb]] w (NewZ w ((x.gcd y : Nat) : Int)) := by
  have hle := hx.le
  have hle2 := hy.le
  obtain ⟨G, hG⟩ : ∃ G, G = x.gcd y := ⟨_, rfl⟩
  rw [← hG]
  have HG0 := Lib.hid hG
  clear hG
  go_enter Tryz.func48, Tryz.ntmps48
  go_upto_region 1 with (fail)
  refine wp_world (fun W hW => ?_)
  have HB0 : Hid (Below w.heap.size w W) := by rw [hW]; exact step_alloc (step_alloc (below_alloc _ _))
  have hbx_bx : Box W (w.heap.size) m ao n cap := by rw [hW]; exact ((Box.new _ _ _ _ _ _ _ (by simp)).below (below_alloc _ _)).below (below_alloc _ _)
  have hbx_by : Box W (w.heap.size + 1) k bo l cb := by rw [hW]; exact (Box.new _ _ _ _ _ _ _ (by simp)).below (below_alloc _ _)
  have hbx_br : Box W (w.heap.size + 2) false none 0 0 := by rw [hW]; exact Box.new _ _ _ _ _ _ _ (by simp)
  have HK0 := Lib.hid (Live.add_zed (hx.below HB0.out) (Live.add_zed (hy.below HB0.out) (Live.add_box hbx_bx (Live.add_box hbx_by (Live.add_box hbx_br (Live.nil W))))))
  clear hW hbx_bx hbx_by hbx_br
  have bx_c0 := HK0.out.tail.tail.box.c0
  have bx_c1 := HK0.out.tail.tail.box.c1
  have bx_f0 := HK0.out.tail.tail.box.f0
  have bx_f1 := HK0.out.tail.tail.box.f1
  have by_c0 := HK0.out.tail.tail.tail.box.c0
  have by_c1 := HK0.out.tail.tail.tail.box.c1
  have by_f0 := HK0.out.tail.tail.tail.box.f0
  have by_f1 := HK0.out.tail.tail.tail.box.f1
  have br_c0 := HK0.out.tail.tail.tail.tail.box.c0
  have br_c1 := HK0.out.tail.tail.tail.tail.box.c1
  have br_f0 := HK0.out.tail.tail.tail.tail.box.f0
  have br_f1 := HK0.out.tail.tail.tail.tail.box.f1
  have HK0d := Lib.hid (HK0.out.below ((Below.refl _ _).drew))
  have HB0d := Lib.hid HB0.out.drew
  clear bx_c0 bx_c1 bx_f0 bx_f1 by_c0 by_c1 by_f0 by_f1 br_c0 br_c1 br_f0 br_f1
  clear HK0 HB0
  have HK0 := Lib.hid HK0d.out
  have HB0 := Lib.hid HB0d.out
  clear HK0d HB0d
  have bx_c0 := HK0.out.tail.tail.box.c0
  have bx_c1 := HK0.out.tail.tail.box.c1
  have bx_f0 := HK0.out.tail.tail.box.f0
  have bx_f1 := HK0.out.tail.tail.box.f1
  have by_c0 := HK0.out.tail.tail.tail.box.c0
  have by_c1 := HK0.out.tail.tail.tail.box.c1
  have by_f0 := HK0.out.tail.tail.tail.box.f0
  have by_f1 := HK0.out.tail.tail.tail.box.f1
  have br_c0 := HK0.out.tail.tail.tail.tail.box.c0
  have br_c1 := HK0.out.tail.tail.tail.tail.box.c1
  have br_f0 := HK0.out.tail.tail.tail.tail.box.f0
  have br_f1 := HK0.out.tail.tail.tail.tail.box.f1
  refine wp_region_held_drew (S := fun w' => w'.cell? ⟨w.heap.size, 0, none⟩ = some (.bool m) ∧ w'.cell? ⟨w.heap.size, 1, none⟩ = some (.slice ao n cap) ∧ w'.cell? ⟨w.heap.size + 1, 0, none⟩ = some (.bool k) ∧ w'.cell? ⟨w.heap.size + 1, 1, none⟩ = some (.slice bo l cb)) (by kernel_rfl) (And.intro HK0.out.tail.tail.box.c0 (And.intro HK0.out.tail.tail.box.c1 (And.intro HK0.out.tail.tail.tail.box.c0 (HK0.out.tail.tail.tail.box.c1)))) (fun hHeld => ?_)
  refine step_on 0 rfl (by kernel_rfl) (fun _ _ _ h => h) (by rfl) hHeld (by intro w hSw; first | (go_simp; done) | (go_simp; with_reducible rfl)) ?_
  try simp only [Act.put, List.setIfInBounds_toArray, List.set_cons_zero, List.set_cons_succ]
  refine step_on 1 rfl (by kernel_rfl) (fun _ _ _ h => h) (by rfl) hHeld (by intro w hSw; first | (go_simp; done) | (go_simp; with_reducible rfl)) ?_
  try simp only [Act.put, List.setIfInBounds_toArray, List.set_cons_zero, List.set_cons_succ]
  refine step_on 2 rfl (by kernel_rfl) (fun _ _ _ h => h) (by rfl) hHeld (by intro w hSw; first | (go_simp; done) | (go_simp; with_reducible rfl)) ?_
  try simp only [Act.put, List.setIfInBounds_toArray, List.set_cons_zero, List.set_cons_succ]
  refine step_on 3 rfl (by kernel_rfl) (fun _ _ _ h => h) (by rfl) hHeld (by intro w hSw; first | (go_simp; done) | (go_simp; with_reducible rfl)) ?_
  try simp only [Act.put, List.setIfInBounds_toArray, List.set_cons_zero, List.set_cons_succ]
  refine step_on 4 rfl (by kernel_rfl) (fun _ _ _ h => h) (by rfl) hHeld (by intro w hSw; first | (go_simp; done) | (go_simp; with_reducible rfl)) ?_
  try simp only [Act.put, List.setIfInBounds_toArray, List.set_cons_zero, List.set_cons_succ]
  refine step_on 5 rfl (by kernel_rfl) (fun _ _ _ h => h) (by rfl) hHeld (by intro w hSw; first | (go_simp; done) | (go_simp; with_reducible rfl)) ?_
  try simp only [Act.put, List.setIfInBounds_toArray, List.set_cons_zero, List.set_cons_succ]
  refine wpAnyH_done (by kernel_rfl) ?_ _
  clear hHeld
  go_wp2_with fail
  have HI0 : Hid (Dg.Sl W.drew ao n cap (Dg.limbs x.natAbs) ∧ Dg.Sl W.drew bo l cb (Dg.limbs y.natAbs) ∧ Nat.gcd x.natAbs y.natAbs = G ∧ y.natAbs = y.natAbs ∧ Below w.heap.size w W.drew ∧ Box W.drew (w.heap.size + 2) false none 0 0) := ⟨HK0.out.zed.zd.sl, HK0.out.tail.zed.zd.sl, HG0.out.symm, rfl, HB0.out, HK0.out.tail.tail.tail.tail.box⟩
  clear bx_c0 bx_c1 bx_f0 bx_f1 by_c0 by_c1 by_f0 by_f1 br_c0 br_c1 br_f0 br_f1
  clear HK0 HB0
  go_loopg [5, 6] y.natAbs (fun g u v wr => ∃ (co : Option Addr) (cn cc : Nat) (fo : Option Addr) (fn fc : Nat) (a b : Nat), u = .slice co cn cc ∧ v = .slice fo fn fc ∧ cn ≤ 1000000 ∧ fn ≤ 1000000 ∧ Hid (Dg.Sl wr co cn cc (Dg.limbs a) ∧ Dg.Sl wr fo fn fc (Dg.limbs b) ∧ Nat.gcd a b = G ∧ b = g ∧ Below w.heap.size w wr ∧ Box wr (w.heap.size + 2) false none 0 0))
  case atStart => exact ⟨_, _, _, _, _, _, _, _, rfl, rfl, hle, hle2, HI0.out⟩
  case round =>
    clear HI0
    obtain ⟨co, cn, cc, fo, fn, fc, a, b, rfl, rfl, hcn, hfn, HI⟩ := hrel
    obtain ⟨wo, rfl⟩ : ∃ wo : World, wo = wr := ⟨_, rfl⟩
    have hfl := HI.out.2.1.len
    by_cases h0 : b = 0
    · obtain rfl : fn = 0 := by rw [← hfl, h0]; rfl
      have HE : Hid (a = G) := by rw [Hid, ← HI.out.2.2.1, h0, Nat.gcd_zero_right]
      have br_c0 := HI.out.2.2.2.2.2.c0
      have br_c1 := HI.out.2.2.2.2.2.c1
      have br_f0 := HI.out.2.2.2.2.2.f0
      have br_f1 := HI.out.2.2.2.2.2.f1
      clear h0 hfl
      go_wp2_with fail
      refine bodyPost_ret (v := .agg #[.bool false, .slice co cn cc]) (by simp [results, Tryz.results48, go_sem, br_c0, br_c1]) rfl ?_
      have HC : Hid (Zd wo false co cn cc ((G : Nat) : Int)) := ⟨by simp, by rw [Int.natAbs_natCast, ← HE.out]; exact HI.out.1⟩
      exact ⟨_, _, _, _, rfl, HC.out.set2 HI.out.2.2.2.2.2 _ _, below_set2 HI.out.2.2.2.2.1 (by omega) _ _⟩
    · have hfp : 0 < fn := by
        rcases Nat.eq_zero_or_pos fn with h1 | h1
        · rw [h1] at hfl
          have h2 : Dg.limbs b = [] := List.eq_nil_of_length_eq_zero hfl
          have h3 := Dg.val_limbs b
          rw [h2, Dg.val_nil] at h3
          omega
        · exact h1
      have hfi : (0 : Int) < ((fn : Nat) : Int) := by omega
      have HBP : Hid (0 < b) := by rw [Hid]; omega
      clear h0 hfl
      go_wp2_with fail
      refine (Dg.divmod_any _ _ _ _ _ _ _ _ _ HI.out.1 HI.out.2.1 HBP.out hcn hfn).mono ?_
      rintro e w1 ⟨q0, qn, qc, s0, sn, sc, rfl, hQ, hS, hB⟩
      rw [Dg.val_limbs] at hS
      have hM : a % b < b := Nat.mod_lt _ HBP.out
      have hsn : sn ≤ 1000000 := by
        have h1 := HI.out.2.1.len
        have h2 := hS.len
        have h3 := Dg.limbs_le_len (Nat.le_of_lt hM)
        omega
      have HJ : Hid (Dg.Sl w1 fo fn fc (Dg.limbs b) ∧ Dg.Sl w1 s0 sn sc (Dg.limbs (a % b)) ∧ Nat.gcd b (a % b) = G ∧ a % b = a % b ∧ Below w.heap.size w w1 ∧ Box w1 (w.heap.size + 2) false none 0 0) :=
        ⟨HI.out.2.1.below hB, hS, by rw [Nat.gcd_comm b, ← Nat.gcd_rec, Nat.gcd_comm]; exact HI.out.2.2.1, rfl, Below.steps HI.out.2.2.2.2.1 hB, HI.out.2.2.2.2.2.below hB⟩
      have HM : Hid (a % b < gk) := by rw [Hid, ← HI.out.2.2.2.1]; exact hM
      clear hQ hS hB hM
      go_wp2_with fail
      go_roundg (a % b)
      case measure => exact HM.out
      case rel => exact ⟨_, _, _, _, _, _, b, a % b, rfl, rfl, hfn, hsn, HJ.out.1, HJ.out.2.1, HJ.out.2.2.1, rfl, HJ.out.2.2.2.2.1, HJ.out.2.2.2.2.2⟩

end Go.Proofs.YteceomlbnajihaaGreatDoor


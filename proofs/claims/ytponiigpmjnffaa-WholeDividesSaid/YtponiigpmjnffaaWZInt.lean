/-
  The contract of porismref04.Z.Int.
-/
import Derived.Test.YtponiigpmjnffaaWInt
import Derived.Test.YtponiigpmjnffaaGRef
import Derived.Deep.Cut
set_option maxRecDepth 8192
namespace Go.Proofs.Ytponiigpmjnffaa
open Go.RowKit

set_option maxHeartbeats 4000000 in
theorem zint_true {ao : Option Addr} {n cap : Nat} {x : Int} {w : World} (hx : Zx w true ao n cap x) :
    Calls Try.prog 16 #[.agg #[.bool true, .slice ao n cap]] w (NewI w x) := by
  have HV : Hid (zOf true x.natAbs = x) := hx.zd.val
  have hle := hx.le
  have hn := hx.zd.pos
  go_enter Try.func16, Try.ntmps16
  go_upto_region 1 with (fail)
  refine wp_world (fun W hW => ?_)
  have HB0 : Hid (Below w.heap.size w W) := by rw [hW]; exact step_alloc (below_alloc _ _)
  have hbx_bx : Box W (w.heap.size) true ao n cap := by rw [hW]; exact (Box.new _ _ _ _ _ _ _ (by simp)).below (below_alloc _ _)
  have hbx_br : Box W (w.heap.size + 1) false none 0 0 := by rw [hW]; exact Box.new _ _ _ _ _ _ _ (by simp)
  have HK0 := Lib.hid (Live.add_zed (hx.below HB0.out) (Live.add_box hbx_bx (Live.add_box hbx_br (Live.nil W))))
  clear hW hbx_bx hbx_br
  have bx_c0 := HK0.out.tail.box.c0
  have bx_c1 := HK0.out.tail.box.c1
  have bx_f0 := HK0.out.tail.box.f0
  have bx_f1 := HK0.out.tail.box.f1
  have br_c0 := HK0.out.tail.tail.box.c0
  have br_c1 := HK0.out.tail.tail.box.c1
  have br_f0 := HK0.out.tail.tail.box.f0
  have br_f1 := HK0.out.tail.tail.box.f1
  have HK0d := Lib.hid (HK0.out.below ((Below.refl _ _).drew))
  have HB0d := Lib.hid HB0.out.drew
  clear bx_c0 bx_c1 bx_f0 bx_f1 br_c0 br_c1 br_f0 br_f1
  clear HK0 HB0
  have HK0 := Lib.hid HK0d.out
  have HB0 := Lib.hid HB0d.out
  clear HK0d HB0d
  have bx_c0 := HK0.out.tail.box.c0
  have bx_c1 := HK0.out.tail.box.c1
  have bx_f0 := HK0.out.tail.box.f0
  have bx_f1 := HK0.out.tail.box.f1
  have br_c0 := HK0.out.tail.tail.box.c0
  have br_c1 := HK0.out.tail.tail.box.c1
  have br_f0 := HK0.out.tail.tail.box.f0
  have br_f1 := HK0.out.tail.tail.box.f1
  refine wp_region_held_drew (S := fun w' => w'.cell? ⟨w.heap.size, 0, none⟩ = some (.bool true) ∧ w'.cell? ⟨w.heap.size, 1, none⟩ = some (.slice ao n cap)) (by kernel_rfl) (And.intro HK0.out.tail.box.c0 (HK0.out.tail.box.c1)) (fun hHeld => ?_)
  refine step_on 0 rfl (by kernel_rfl) (fun _ _ _ h => h) (by rfl) hHeld (by intro w hSw; first | (go_simp; done) | (go_simp; with_reducible rfl)) ?_
  try simp only [Act.put, List.setIfInBounds_toArray, List.set_cons_zero, List.set_cons_succ]
  refine step_on 1 rfl (by kernel_rfl) (fun _ _ _ h => h) (by rfl) hHeld (by intro w hSw; first | (go_simp; done) | (go_simp; with_reducible rfl)) ?_
  try simp only [Act.put, List.setIfInBounds_toArray, List.set_cons_zero, List.set_cons_succ]
  refine step_on 2 rfl (by kernel_rfl) (fun _ _ _ h => h) (by rfl) hHeld (by intro w hSw; first | (go_simp; done) | (go_simp; with_reducible rfl)) ?_
  try simp only [Act.put, List.setIfInBounds_toArray, List.set_cons_zero, List.set_cons_succ]
  refine step_on 3 rfl (by kernel_rfl) (fun _ _ _ h => h) (by rfl) hHeld (by intro w hSw; first | (go_simp; done) | (go_simp; with_reducible rfl)) ?_
  try simp only [Act.put, List.setIfInBounds_toArray, List.set_cons_zero, List.set_cons_succ]
  refine step_on 4 rfl (by kernel_rfl) (fun _ _ _ h => h) (by rfl) hHeld (by intro w hSw; first | (go_simp; done) | (go_simp; with_reducible rfl)) ?_
  try simp only [Act.put, List.setIfInBounds_toArray, List.set_cons_zero, List.set_cons_succ]
  refine step_on 5 rfl (by kernel_rfl) (fun _ _ _ h => h) (by rfl) hHeld (by intro w hSw; first | (go_simp; done) | (go_simp; with_reducible rfl)) ?_
  try simp only [Act.put, List.setIfInBounds_toArray, List.set_cons_zero, List.set_cons_succ]
  refine step_on 6 rfl (by kernel_rfl) (fun _ _ _ h => h) (by rfl) hHeld (by intro w hSw; first | (go_simp; done) | (go_simp; with_reducible rfl)) ?_
  try simp only [Act.put, List.setIfInBounds_toArray, List.set_cons_zero, List.set_cons_succ]
  refine step_on 7 rfl (by kernel_rfl) (fun _ _ _ h => h) (by rfl) hHeld (by intro w hSw; first | (go_simp; done) | (go_simp; with_reducible rfl)) ?_
  try simp only [Act.put, List.setIfInBounds_toArray, List.set_cons_zero, List.set_cons_succ]
  refine step_on 8 rfl (by kernel_rfl) (fun _ _ _ h => h) (by rfl) hHeld (by intro w hSw; first | (go_simp; done) | (go_simp; with_reducible rfl)) ?_
  try simp only [Act.put, List.setIfInBounds_toArray, List.set_cons_zero, List.set_cons_succ]
  refine step_on 9 rfl (by kernel_rfl) (fun _ _ _ h => h) (by rfl) hHeld (by intro w hSw; first | (go_simp; done) | (go_simp; with_reducible rfl)) ?_
  try simp only [Act.put, List.setIfInBounds_toArray, List.set_cons_zero, List.set_cons_succ]
  refine step_one 10 rfl (by kernel_rfl) (fun K hK => ?_)
  go_simp
  refine (Dg.limbs_any _ _ _ _ _ HK0.out.zed.zd.sl).mono ?_
  rintro e w1 ⟨t0, tn, tc, rfl, hT, hB⟩
  have HK1 := Lib.hid (Live.add_sl hT.sl (HK0.out.below hB))
  have HB1 := Lib.hid (Below.steps HB0.out hB)
  clear bx_c0 bx_c1 bx_f0 bx_f1 br_c0 br_c1 br_f0 br_f1
  clear HK0 HB0 hT hB
  have bx_c0 := HK1.out.tail.tail.box.c0
  have bx_c1 := HK1.out.tail.tail.box.c1
  have bx_f0 := HK1.out.tail.tail.box.f0
  have bx_f1 := HK1.out.tail.tail.box.f1
  have br_c0 := HK1.out.tail.tail.tail.box.c0
  have br_c1 := HK1.out.tail.tail.tail.box.c1
  have br_f0 := HK1.out.tail.tail.tail.box.f0
  have br_f1 := HK1.out.tail.tail.tail.box.f1
  go_wp2_with fail
  refine hK.out _ _ (And.intro HK1.out.tail.tail.box.c0 (HK1.out.tail.tail.box.c1)) (fun hHeld2 => ?_)
  clear hK K hHeld
  have hHeld := hHeld2
  clear hHeld2
  try simp only [Act.put, List.setIfInBounds_toArray, List.set_cons_zero, List.set_cons_succ]
  refine step_on 11 rfl (by kernel_rfl) (fun _ _ _ h => h) (by rfl) hHeld (by intro w hSw; first | (go_simp; done) | (go_simp; with_reducible rfl)) ?_
  try simp only [Act.put, List.setIfInBounds_toArray, List.set_cons_zero, List.set_cons_succ]
  refine step_one 12 rfl (by kernel_rfl) (fun K hK => ?_)
  go_simp
  refine hK.out _ _ ((And.intro ((cell_set2 (fun e => by have e2 : w.heap.size = w.heap.size + 1 := e; omega) _ _).trans bx_c0) ((cell_set2 (fun e => by have e2 : w.heap.size = w.heap.size + 1 := e; omega) _ _).trans bx_c1))) (fun hHeld2 => ?_)
  clear hK K hHeld
  try simp only [Act.put, List.setIfInBounds_toArray, List.set_cons_zero, List.set_cons_succ]
  refine wpAnyH_done (by kernel_rfl) ?_ _
  go_wp2_with fail
  have HC : Hid (Cn w1 true t0 tn tc x) := ⟨HK1.out.tail.zed.zd.neg, HK1.out.sl⟩
  refine bodyPost_ret (v := .agg #[.bool true, .slice t0 tn tc]) (by simp [results, Try.results16, go_sem, br_c0, br_c1]) rfl ?_
  exact ⟨_, _, _, _, rfl, HC.out.set2 HK1.out.tail.tail.tail.box _ _, below_set2 HB1.out (by omega) _ _⟩

set_option maxHeartbeats 4000000 in
theorem zint_false {ao : Option Addr} {n cap : Nat} {x : Int} {w : World} (hx : Zx w false ao n cap x) :
    Calls Try.prog 16 #[.agg #[.bool false, .slice ao n cap]] w (NewI w x) := by
  have HV : Hid (zOf false x.natAbs = x) := hx.zd.val
  have hle := hx.le
  go_enter Try.func16, Try.ntmps16
  go_upto_region 1 with (fail)
  refine wp_world (fun W hW => ?_)
  have HB0 : Hid (Below w.heap.size w W) := by rw [hW]; exact step_alloc (below_alloc _ _)
  have hbx_bx : Box W (w.heap.size) false ao n cap := by rw [hW]; exact (Box.new _ _ _ _ _ _ _ (by simp)).below (below_alloc _ _)
  have hbx_br : Box W (w.heap.size + 1) false none 0 0 := by rw [hW]; exact Box.new _ _ _ _ _ _ _ (by simp)
  have HK0 := Lib.hid (Live.add_zed (hx.below HB0.out) (Live.add_box hbx_bx (Live.add_box hbx_br (Live.nil W))))
  clear hW hbx_bx hbx_br
  have bx_c0 := HK0.out.tail.box.c0
  have bx_c1 := HK0.out.tail.box.c1
  have bx_f0 := HK0.out.tail.box.f0
  have bx_f1 := HK0.out.tail.box.f1
  have br_c0 := HK0.out.tail.tail.box.c0
  have br_c1 := HK0.out.tail.tail.box.c1
  have br_f0 := HK0.out.tail.tail.box.f0
  have br_f1 := HK0.out.tail.tail.box.f1
  have HK0d := Lib.hid (HK0.out.below ((Below.refl _ _).drew))
  have HB0d := Lib.hid HB0.out.drew
  clear bx_c0 bx_c1 bx_f0 bx_f1 br_c0 br_c1 br_f0 br_f1
  clear HK0 HB0
  have HK0 := Lib.hid HK0d.out
  have HB0 := Lib.hid HB0d.out
  clear HK0d HB0d
  have bx_c0 := HK0.out.tail.box.c0
  have bx_c1 := HK0.out.tail.box.c1
  have bx_f0 := HK0.out.tail.box.f0
  have bx_f1 := HK0.out.tail.box.f1
  have br_c0 := HK0.out.tail.tail.box.c0
  have br_c1 := HK0.out.tail.tail.box.c1
  have br_f0 := HK0.out.tail.tail.box.f0
  have br_f1 := HK0.out.tail.tail.box.f1
  refine wp_region_held_drew (S := fun w' => w'.cell? ⟨w.heap.size, 0, none⟩ = some (.bool false) ∧ w'.cell? ⟨w.heap.size, 1, none⟩ = some (.slice ao n cap)) (by kernel_rfl) (And.intro HK0.out.tail.box.c0 (HK0.out.tail.box.c1)) (fun hHeld => ?_)
  refine step_on 0 rfl (by kernel_rfl) (fun _ _ _ h => h) (by rfl) hHeld (by intro w hSw; first | (go_simp; done) | (go_simp; with_reducible rfl)) ?_
  try simp only [Act.put, List.setIfInBounds_toArray, List.set_cons_zero, List.set_cons_succ]
  refine step_on 1 rfl (by kernel_rfl) (fun _ _ _ h => h) (by rfl) hHeld (by intro w hSw; first | (go_simp; done) | (go_simp; with_reducible rfl)) ?_
  try simp only [Act.put, List.setIfInBounds_toArray, List.set_cons_zero, List.set_cons_succ]
  refine step_on 2 rfl (by kernel_rfl) (fun _ _ _ h => h) (by rfl) hHeld (by intro w hSw; first | (go_simp; done) | (go_simp; with_reducible rfl)) ?_
  try simp only [Act.put, List.setIfInBounds_toArray, List.set_cons_zero, List.set_cons_succ]
  refine step_off 3 rfl (by kernel_rfl) (fun _ _ _ h => h) (by rfl) hHeld ?_
  try simp only [Act.put, List.setIfInBounds_toArray, List.set_cons_zero, List.set_cons_succ]
  refine step_off 4 rfl (by kernel_rfl) (fun _ _ _ h => h) (by rfl) hHeld ?_
  try simp only [Act.put, List.setIfInBounds_toArray, List.set_cons_zero, List.set_cons_succ]
  refine step_off 5 rfl (by kernel_rfl) (fun _ _ _ h => h) (by rfl) hHeld ?_
  try simp only [Act.put, List.setIfInBounds_toArray, List.set_cons_zero, List.set_cons_succ]
  refine step_off 6 rfl (by kernel_rfl) (fun _ _ _ h => h) (by rfl) hHeld ?_
  try simp only [Act.put, List.setIfInBounds_toArray, List.set_cons_zero, List.set_cons_succ]
  refine step_on 7 rfl (by kernel_rfl) (fun _ _ _ h => h) (by rfl) hHeld (by intro w hSw; first | (go_simp; done) | (go_simp; with_reducible rfl)) ?_
  try simp only [Act.put, List.setIfInBounds_toArray, List.set_cons_zero, List.set_cons_succ]
  refine step_on 8 rfl (by kernel_rfl) (fun _ _ _ h => h) (by rfl) hHeld (by intro w hSw; first | (go_simp; done) | (go_simp; with_reducible rfl)) ?_
  try simp only [Act.put, List.setIfInBounds_toArray, List.set_cons_zero, List.set_cons_succ]
  refine step_on 9 rfl (by kernel_rfl) (fun _ _ _ h => h) (by rfl) hHeld (by intro w hSw; first | (go_simp; done) | (go_simp; with_reducible rfl)) ?_
  try simp only [Act.put, List.setIfInBounds_toArray, List.set_cons_zero, List.set_cons_succ]
  refine step_one 10 rfl (by kernel_rfl) (fun K hK => ?_)
  go_simp
  refine (Dg.limbs_any _ _ _ _ _ HK0.out.zed.zd.sl).mono ?_
  rintro e w1 ⟨t0, tn, tc, rfl, hT, hB⟩
  have HK1 := Lib.hid (Live.add_sl hT.sl (HK0.out.below hB))
  have HB1 := Lib.hid (Below.steps HB0.out hB)
  clear bx_c0 bx_c1 bx_f0 bx_f1 br_c0 br_c1 br_f0 br_f1
  clear HK0 HB0 hT hB
  have bx_c0 := HK1.out.tail.tail.box.c0
  have bx_c1 := HK1.out.tail.tail.box.c1
  have bx_f0 := HK1.out.tail.tail.box.f0
  have bx_f1 := HK1.out.tail.tail.box.f1
  have br_c0 := HK1.out.tail.tail.tail.box.c0
  have br_c1 := HK1.out.tail.tail.tail.box.c1
  have br_f0 := HK1.out.tail.tail.tail.box.f0
  have br_f1 := HK1.out.tail.tail.tail.box.f1
  go_wp2_with fail
  refine hK.out _ _ (And.intro HK1.out.tail.tail.box.c0 (HK1.out.tail.tail.box.c1)) (fun hHeld2 => ?_)
  clear hK K hHeld
  have hHeld := hHeld2
  clear hHeld2
  try simp only [Act.put, List.setIfInBounds_toArray, List.set_cons_zero, List.set_cons_succ]
  refine step_on 11 rfl (by kernel_rfl) (fun _ _ _ h => h) (by rfl) hHeld (by intro w hSw; first | (go_simp; done) | (go_simp; with_reducible rfl)) ?_
  try simp only [Act.put, List.setIfInBounds_toArray, List.set_cons_zero, List.set_cons_succ]
  refine step_one 12 rfl (by kernel_rfl) (fun K hK => ?_)
  go_simp
  refine hK.out _ _ ((And.intro ((cell_set2 (fun e => by have e2 : w.heap.size = w.heap.size + 1 := e; omega) _ _).trans bx_c0) ((cell_set2 (fun e => by have e2 : w.heap.size = w.heap.size + 1 := e; omega) _ _).trans bx_c1))) (fun hHeld2 => ?_)
  clear hK K hHeld
  try simp only [Act.put, List.setIfInBounds_toArray, List.set_cons_zero, List.set_cons_succ]
  refine wpAnyH_done (by kernel_rfl) ?_ _
  go_wp2_with fail
  have HC : Hid (Cn w1 false t0 tn tc x) := ⟨HK1.out.tail.zed.zd.neg, HK1.out.sl⟩
  refine bodyPost_ret (v := .agg #[.bool false, .slice t0 tn tc]) (by simp [results, Try.results16, go_sem, br_c0, br_c1]) rfl ?_
  exact ⟨_, _, _, _, rfl, HC.out.set2 HK1.out.tail.tail.tail.box _ _, below_set2 HB1.out (by omega) _ _⟩

theorem zint_any {m : Bool} {ao : Option Addr} {n cap : Nat} {x : Int} {w : World} (hx : Zx w m ao n cap x) :
    Calls Try.prog 16 #[.agg #[.bool m, .slice ao n cap]] w (NewI w x) := by
  cases m
  · exact zint_false hx
  · exact zint_true hx

end Go.Proofs.Ytponiigpmjnffaa

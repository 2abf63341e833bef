/-
  The contract of porismref04.Mul.
-/
import Derived.Test.YtponiigpmjnffaaWInt
import Derived.Test.YtponiigpmjnffaaGRef
import Derived.Deep.Cut
set_option maxRecDepth 8192
namespace Go.Proofs.Ytponiigpmjnffaa
open Go.RowKit

set_option maxHeartbeats 4000000 in
theorem zmul_same {m : Bool} {ao bo : Option Addr} {n cap l cb : Nat} {x y : Int} {w : World} (hx : Zx w m ao n cap x) (hy : Zx w m bo l cb y) :
    Calls Try.prog 20 #[.agg #[.bool m, .slice ao n cap], .agg #[.bool m, .slice bo l cb]] w (NewZ w (x * y)) := by
  have hle := hx.le
  have hle2 := hy.le
  have HX : Hid (zOf m x.natAbs = x) := hx.zd.val
  have HY : Hid (zOf m y.natAbs = y) := hy.zd.val
  have hmm : (m != m) = false := by cases m <;> rfl
  go_enter Try.func20, Try.ntmps20
  go_upto_region 1 with (fail)
  refine wp_world (fun W hW => ?_)
  have HB0 : Hid (Below w.heap.size w W) := by rw [hW]; exact step_alloc (step_alloc (below_alloc _ _))
  have hbx_bx : Box W (w.heap.size) m ao n cap := by rw [hW]; exact ((Box.new _ _ _ _ _ _ _ (by simp)).below (below_alloc _ _)).below (below_alloc _ _)
  have hbx_by : Box W (w.heap.size + 1) m bo l cb := by rw [hW]; exact (Box.new _ _ _ _ _ _ _ (by simp)).below (below_alloc _ _)
  have hbx_br : Box W (w.heap.size + 2) false none 0 0 := by rw [hW]; exact Box.new _ _ _ _ _ _ _ (by simp)
  have HK0 := Lib.hid (Live.add_zed (hx.below HB0.out) (Live.add_zed (hy.below HB0.out) (Live.add_box hbx_bx (Live.add_box hbx_by (Live.add_box hbx_br (Live.nil W))))))
  clear hW hbx_bx hbx_by hbx_br
  have bx_c0 := HK0.out.tail.tail.box.c0
  have bx_c1 := HK0.out.tail.tail.box.c1
  have bx_f0 := HK0.out.tail.tail.box.f0
  have bx_f1 := HK0.out.tail.tail.box.f1
  have by_c0 := HK0.out.tail.tail.tail.box.c0
  have by_c1 := HK0.out.tail.tail.tail.box.c1
  have by_f0 := HK0.out.tail.tail.tail.box.f0
  have by_f1 := HK0.out.tail.tail.tail.box.f1
  have br_c0 := HK0.out.tail.tail.tail.tail.box.c0
  have br_c1 := HK0.out.tail.tail.tail.tail.box.c1
  have br_f0 := HK0.out.tail.tail.tail.tail.box.f0
  have br_f1 := HK0.out.tail.tail.tail.tail.box.f1
  go_wp2_with fail
  refine (Dg.mul_any _ _ _ _ _ _ _ _ _ HK0.out.zed.zd.sl HK0.out.tail.zed.zd.sl (by omega) (by omega)).mono ?_
  rintro e w1 ⟨d0, dn, dc, rfl, hT, hB⟩
  rw [Dg.val_limbs, Dg.val_limbs] at hT
  have HT := Lib.hid hT.sl
  have hdb := hT.big
  have HK1 := Lib.hid (HK0.out.below hB)
  have HB1 := Lib.hid (Below.steps HB0.out hB)
  clear bx_c0 bx_c1 bx_f0 bx_f1 by_c0 by_c1 by_f0 by_f1 br_c0 br_c1 br_f0 br_f1
  clear HK0 HB0 hT hB
  have bx_c0 := HK1.out.tail.tail.box.c0
  have bx_c1 := HK1.out.tail.tail.box.c1
  have bx_f0 := HK1.out.tail.tail.box.f0
  have bx_f1 := HK1.out.tail.tail.box.f1
  have by_c0 := HK1.out.tail.tail.tail.box.c0
  have by_c1 := HK1.out.tail.tail.tail.box.c1
  have by_f0 := HK1.out.tail.tail.tail.box.f0
  have by_f1 := HK1.out.tail.tail.tail.box.f1
  have br_c0 := HK1.out.tail.tail.tail.tail.box.c0
  have br_c1 := HK1.out.tail.tail.tail.tail.box.c1
  have br_f0 := HK1.out.tail.tail.tail.tail.box.f0
  have br_f1 := HK1.out.tail.tail.tail.tail.box.f1
  go_wp2_with fail
  have HZ : Hid (Zd w1 (false) d0 dn dc (zOf (m != m) (x.natAbs * y.natAbs))) := Zd.of HT.out (by rw [hmm]; simp)
  have HE : Hid (zOf (m != m) (x.natAbs * y.natAbs) = x * y) := by rw [Hid, zOf_mul, HX.out, HY.out]
  refine bodyPost_ret (v := .agg #[.bool (false), .slice d0 dn dc]) (by simp [results, Try.results20, go_sem, br_c0, br_c1]) rfl ?_
  exact ⟨_, _, _, _, rfl, HE.out ▸ HZ.out.set2 HK1.out.tail.tail.tail.tail.box _ _, below_set2 HB1.out (by omega) _ _⟩

set_option maxHeartbeats 4000000 in
theorem zmul_diff {m : Bool} {ao bo : Option Addr} {n cap l cb : Nat} {x y : Int} {w : World} (hx : Zx w m ao n cap x) (hy : Zx w (!m) bo l cb y) :
    Calls Try.prog 20 #[.agg #[.bool m, .slice ao n cap], .agg #[.bool (!m), .slice bo l cb]] w (NewZ w (x * y)) := by
  have hle := hx.le
  have hle2 := hy.le
  have HX : Hid (zOf m x.natAbs = x) := hx.zd.val
  have HY : Hid (zOf (!m) y.natAbs = y) := hy.zd.val
  have hmm : (m != (!m)) = true := by cases m <;> rfl
  go_enter Try.func20, Try.ntmps20
  go_upto_region 1 with (fail)
  refine wp_world (fun W hW => ?_)
  have HB0 : Hid (Below w.heap.size w W) := by rw [hW]; exact step_alloc (step_alloc (below_alloc _ _))
  have hbx_bx : Box W (w.heap.size) m ao n cap := by rw [hW]; exact ((Box.new _ _ _ _ _ _ _ (by simp)).below (below_alloc _ _)).below (below_alloc _ _)
  have hbx_by : Box W (w.heap.size + 1) (!m) bo l cb := by rw [hW]; exact (Box.new _ _ _ _ _ _ _ (by simp)).below (below_alloc _ _)
  have hbx_br : Box W (w.heap.size + 2) false none 0 0 := by rw [hW]; exact Box.new _ _ _ _ _ _ _ (by simp)
  have HK0 := Lib.hid (Live.add_zed (hx.below HB0.out) (Live.add_zed (hy.below HB0.out) (Live.add_box hbx_bx (Live.add_box hbx_by (Live.add_box hbx_br (Live.nil W))))))
  clear hW hbx_bx hbx_by hbx_br
  have bx_c0 := HK0.out.tail.tail.box.c0
  have bx_c1 := HK0.out.tail.tail.box.c1
  have bx_f0 := HK0.out.tail.tail.box.f0
  have bx_f1 := HK0.out.tail.tail.box.f1
  have by_c0 := HK0.out.tail.tail.tail.box.c0
  have by_c1 := HK0.out.tail.tail.tail.box.c1
  have by_f0 := HK0.out.tail.tail.tail.box.f0
  have by_f1 := HK0.out.tail.tail.tail.box.f1
  have br_c0 := HK0.out.tail.tail.tail.tail.box.c0
  have br_c1 := HK0.out.tail.tail.tail.tail.box.c1
  have br_f0 := HK0.out.tail.tail.tail.tail.box.f0
  have br_f1 := HK0.out.tail.tail.tail.tail.box.f1
  go_wp2_with fail
  refine (Dg.mul_any _ _ _ _ _ _ _ _ _ HK0.out.zed.zd.sl HK0.out.tail.zed.zd.sl (by omega) (by omega)).mono ?_
  rintro e w1 ⟨d0, dn, dc, rfl, hT, hB⟩
  rw [Dg.val_limbs, Dg.val_limbs] at hT
  have HT := Lib.hid hT.sl
  have hdb := hT.big
  have HK1 := Lib.hid (HK0.out.below hB)
  have HB1 := Lib.hid (Below.steps HB0.out hB)
  clear bx_c0 bx_c1 bx_f0 bx_f1 by_c0 by_c1 by_f0 by_f1 br_c0 br_c1 br_f0 br_f1
  clear HK0 HB0 hT hB
  have bx_c0 := HK1.out.tail.tail.box.c0
  have bx_c1 := HK1.out.tail.tail.box.c1
  have bx_f0 := HK1.out.tail.tail.box.f0
  have bx_f1 := HK1.out.tail.tail.box.f1
  have by_c0 := HK1.out.tail.tail.tail.box.c0
  have by_c1 := HK1.out.tail.tail.tail.box.c1
  have by_f0 := HK1.out.tail.tail.tail.box.f0
  have by_f1 := HK1.out.tail.tail.tail.box.f1
  have br_c0 := HK1.out.tail.tail.tail.tail.box.c0
  have br_c1 := HK1.out.tail.tail.tail.tail.box.c1
  have br_f0 := HK1.out.tail.tail.tail.tail.box.f0
  have br_f1 := HK1.out.tail.tail.tail.tail.box.f1
  go_wp2_with fail
  have HZ : Hid (Zd w1 (decide (0 < dn)) d0 dn dc (zOf (m != (!m)) (x.natAbs * y.natAbs))) := Zd.of HT.out (by rw [hmm]; simp)
  have HE : Hid (zOf (m != (!m)) (x.natAbs * y.natAbs) = x * y) := by rw [Hid, zOf_mul, HX.out, HY.out]
  refine bodyPost_ret (v := .agg #[.bool (decide (0 < dn)), .slice d0 dn dc]) (by simp [results, Try.results20, go_sem, br_c0, br_c1]) rfl ?_
  exact ⟨_, _, _, _, rfl, HE.out ▸ HZ.out.set2 HK1.out.tail.tail.tail.tail.box _ _, below_set2 HB1.out (by omega) _ _⟩

theorem zmul_any {m k : Bool} {ao bo : Option Addr} {n cap l cb : Nat} {x y : Int} {w : World} (hx : Zx w m ao n cap x) (hy : Zx w k bo l cb y) :
    Calls Try.prog 20 #[.agg #[.bool m, .slice ao n cap], .agg #[.bool k, .slice bo l cb]] w (NewZ w (x * y)) := by
  by_cases hmk : k = m
  · subst hmk; exact zmul_same hx hy
  · obtain rfl : k = !m := by cases m <;> cases k <;> simp at hmk ⊢
    exact zmul_diff hx hy

end Go.Proofs.Ytponiigpmjnffaa

/-
  The contract of whole.Mul.
-/
import Derived.Test.YtponiigpmjnffaaWSign
import Derived.Test.YtponiigpmjnffaaGTimes
import Derived.Deep.Cut
set_option maxRecDepth 8192
namespace Go.Proofs.Ytponiigpmjnffaa
open Go.RowKit

set_option maxHeartbeats 4000000 in
theorem wmul_any {m k : Bool} {ao bo : Option Addr} {n cap l cb : Nat} {x y : Int} {w : World} (hx : Nx w m ao n cap x) (hy : Nx w k bo l cb y) :
    Calls Try.prog 19 #[.agg #[.bool m, .slice ao n cap], .agg #[.bool k, .slice bo l cb]] w (NewI w (x * y)) := by
  obtain ⟨⟨xs, hs, hz⟩, hle⟩ := hx
  obtain ⟨⟨ys, ht, hz2⟩, hle2⟩ := hy
  have HZ : Hid (zOf (m != k) (val xs * val ys) = x * y) := by rw [Hid, zOf_mul, hz, hz2]
  clear hz hz2
  go_enter Try.func19, Try.ntmps19
  go_upto_region 1 with (fail)
  refine wp_world (fun W hW => ?_)
  have HB0 : Hid (Below w.heap.size w W) := by rw [hW]; exact step_alloc (step_alloc (below_alloc _ _))
  have hbx_bx : Box W (w.heap.size) m ao n cap := by rw [hW]; exact ((Box.new _ _ _ _ _ _ _ (by simp)).below (below_alloc _ _)).below (below_alloc _ _)
  have hbx_by : Box W (w.heap.size + 1) k bo l cb := by rw [hW]; exact (Box.new _ _ _ _ _ _ _ (by simp)).below (below_alloc _ _)
  have hbx_br : Box W (w.heap.size + 2) false none 0 0 := by rw [hW]; exact Box.new _ _ _ _ _ _ _ (by simp)
  have HK0 := Lib.hid (Live.add_sl (hs.below HB0.out) (Live.add_sl (ht.below HB0.out) (Live.add_box hbx_bx (Live.add_box hbx_by (Live.add_box hbx_br (Live.nil W))))))
  clear hW hbx_bx hbx_by hbx_br
  have bx_c0 := HK0.out.tail.tail.box.c0
  have bx_c1 := HK0.out.tail.tail.box.c1
  have bx_f0 := HK0.out.tail.tail.box.f0
  have bx_f1 := HK0.out.tail.tail.box.f1
  have by_c0 := HK0.out.tail.tail.tail.box.c0
  have by_c1 := HK0.out.tail.tail.tail.box.c1
  have by_f0 := HK0.out.tail.tail.tail.box.f0
  have by_f1 := HK0.out.tail.tail.tail.box.f1
  have br_c0 := HK0.out.tail.tail.tail.tail.box.c0
  have br_c1 := HK0.out.tail.tail.tail.tail.box.c1
  have br_f0 := HK0.out.tail.tail.tail.tail.box.f0
  have br_f1 := HK0.out.tail.tail.tail.tail.box.f1
  have HK0d := Lib.hid (HK0.out.below ((Below.refl _ _).drew))
  have HB0d := Lib.hid HB0.out.drew
  clear bx_c0 bx_c1 bx_f0 bx_f1 by_c0 by_c1 by_f0 by_f1 br_c0 br_c1 br_f0 br_f1
  clear HK0 HB0
  have HK0 := Lib.hid HK0d.out
  have HB0 := Lib.hid HB0d.out
  clear HK0d HB0d
  have bx_c0 := HK0.out.tail.tail.box.c0
  have bx_c1 := HK0.out.tail.tail.box.c1
  have bx_f0 := HK0.out.tail.tail.box.f0
  have bx_f1 := HK0.out.tail.tail.box.f1
  have by_c0 := HK0.out.tail.tail.tail.box.c0
  have by_c1 := HK0.out.tail.tail.tail.box.c1
  have by_f0 := HK0.out.tail.tail.tail.box.f0
  have by_f1 := HK0.out.tail.tail.tail.box.f1
  have br_c0 := HK0.out.tail.tail.tail.tail.box.c0
  have br_c1 := HK0.out.tail.tail.tail.tail.box.c1
  have br_f0 := HK0.out.tail.tail.tail.tail.box.f0
  have br_f1 := HK0.out.tail.tail.tail.tail.box.f1
  have tok0 : True := trivial
  have KS0 := Lib.hid (And.intro HK0.out.tail.tail.box.c0 (And.intro HK0.out.tail.tail.box.c1 (And.intro HK0.out.tail.tail.tail.box.c0 (HK0.out.tail.tail.tail.box.c1))))
  go_region_held3 (fun w' => w'.cell? ⟨w.heap.size, 0, none⟩ = some (.bool m) ∧ w'.cell? ⟨w.heap.size, 1, none⟩ = some (.slice ao n cap) ∧ w'.cell? ⟨w.heap.size + 1, 0, none⟩ = some (.bool k) ∧ w'.cell? ⟨w.heap.size + 1, 1, none⟩ = some (.slice bo l cb))
    (first | exact KS3.out | exact KS2.out | exact KS1.out | exact KS0.out | exact (And.intro ((cell_set2 (fun e => by have e2 : w.heap.size = w.heap.size + 2 := e; omega) _ _).trans bx_c0) (And.intro ((cell_set2 (fun e => by have e2 : w.heap.size = w.heap.size + 2 := e; omega) _ _).trans bx_c1) (And.intro ((cell_set2 (fun e => by have e2 : w.heap.size + 1 = w.heap.size + 2 := e; omega) _ _).trans by_c0) ((cell_set2 (fun e => by have e2 : w.heap.size + 1 = w.heap.size + 2 := e; omega) _ _).trans by_c1)))) | go_keep)
    (first
      | (have _t := tok0; clear _t tok0; go_at_call 41; go_must (with_reducible refine (signed_any _ _).mono ?_); rintro e w1 ⟨b_fn, rfl, hb1, hb2, hbc, hB⟩; have HK1 := Lib.hid (Live.add_fn hb2 hbc (HK0.out.below hB)); have HB1 := Lib.hid (Below.steps HB0.out hB); clear bx_c0 bx_c1 bx_f0 bx_f1 by_c0 by_c1 by_f0 by_f1 br_c0 br_c1 br_f0 br_f1; clear HK0 HB0 hb1 hbc hB; have bx_c0 := HK1.out.tail.tail.tail.box.c0; have bx_c1 := HK1.out.tail.tail.tail.box.c1; have bx_f0 := HK1.out.tail.tail.tail.box.f0; have bx_f1 := HK1.out.tail.tail.tail.box.f1; have by_c0 := HK1.out.tail.tail.tail.tail.box.c0; have by_c1 := HK1.out.tail.tail.tail.tail.box.c1; have by_f0 := HK1.out.tail.tail.tail.tail.box.f0; have by_f1 := HK1.out.tail.tail.tail.tail.box.f1; have br_c0 := HK1.out.tail.tail.tail.tail.tail.box.c0; have br_c1 := HK1.out.tail.tail.tail.tail.tail.box.c1; have br_f0 := HK1.out.tail.tail.tail.tail.tail.box.f0; have br_f1 := HK1.out.tail.tail.tail.tail.tail.box.f1; have KS1 := Lib.hid (And.intro HK1.out.tail.tail.tail.box.c0 (And.intro HK1.out.tail.tail.tail.box.c1 (And.intro HK1.out.tail.tail.tail.tail.box.c0 (HK1.out.tail.tail.tail.tail.box.c1)))); have tok1 : True := trivial)
      | (have _t := tok1; clear _t tok1; go_at_call 49; go_must (with_reducible refine (mul_any _ _ _ _ _ _ _ _ _ HK1.out.tail.sl HK1.out.tail.tail.sl (by omega) (by omega)).mono ?_); rintro e w2 ⟨t0, tn, tc, rfl, hT, hB⟩; have HK2 := Lib.hid (Live.add_sl hT.sl (HK1.out.below hB)); have HB2 := Lib.hid (Below.steps HB1.out hB); clear bx_c0 bx_c1 bx_f0 bx_f1 by_c0 by_c1 by_f0 by_f1 br_c0 br_c1 br_f0 br_f1; clear HK1 HB1 hT hB; have bx_c0 := HK2.out.tail.tail.tail.tail.box.c0; have bx_c1 := HK2.out.tail.tail.tail.tail.box.c1; have bx_f0 := HK2.out.tail.tail.tail.tail.box.f0; have bx_f1 := HK2.out.tail.tail.tail.tail.box.f1; have by_c0 := HK2.out.tail.tail.tail.tail.tail.box.c0; have by_c1 := HK2.out.tail.tail.tail.tail.tail.box.c1; have by_f0 := HK2.out.tail.tail.tail.tail.tail.box.f0; have by_f1 := HK2.out.tail.tail.tail.tail.tail.box.f1; have br_c0 := HK2.out.tail.tail.tail.tail.tail.tail.box.c0; have br_c1 := HK2.out.tail.tail.tail.tail.tail.tail.box.c1; have br_f0 := HK2.out.tail.tail.tail.tail.tail.tail.box.f0; have br_f1 := HK2.out.tail.tail.tail.tail.tail.tail.box.f1; have KS2 := Lib.hid (And.intro HK2.out.tail.tail.tail.tail.box.c0 (And.intro HK2.out.tail.tail.tail.tail.box.c1 (And.intro HK2.out.tail.tail.tail.tail.tail.box.c0 (HK2.out.tail.tail.tail.tail.tail.box.c1)))); have tok2 : True := trivial)
      | (have _t := tok2; clear _t tok2; go_at_call 63; go_must (with_reducible refine (close_any _ _ _ _ _ _ _ HK2.out.tail.fn HK2.out.sl).mono ?_); rintro e w3 ⟨rm, r0, rn, rc, rfl, hX, hB⟩; have HK3 := Lib.hid (HK2.out.below hB); have HB3 := Lib.hid (Below.steps HB2.out hB); clear bx_c0 bx_c1 bx_f0 bx_f1 by_c0 by_c1 by_f0 by_f1 br_c0 br_c1 br_f0 br_f1; clear HK2 HB2 hB; have bx_c0 := HK3.out.tail.tail.tail.tail.box.c0; have bx_c1 := HK3.out.tail.tail.tail.tail.box.c1; have bx_f0 := HK3.out.tail.tail.tail.tail.box.f0; have bx_f1 := HK3.out.tail.tail.tail.tail.box.f1; have by_c0 := HK3.out.tail.tail.tail.tail.tail.box.c0; have by_c1 := HK3.out.tail.tail.tail.tail.tail.box.c1; have by_f0 := HK3.out.tail.tail.tail.tail.tail.box.f0; have by_f1 := HK3.out.tail.tail.tail.tail.tail.box.f1; have br_c0 := HK3.out.tail.tail.tail.tail.tail.tail.box.c0; have br_c1 := HK3.out.tail.tail.tail.tail.tail.tail.box.c1; have br_f0 := HK3.out.tail.tail.tail.tail.tail.tail.box.f0; have br_f1 := HK3.out.tail.tail.tail.tail.tail.tail.box.f1; have KS3 := Lib.hid (And.intro HK3.out.tail.tail.tail.tail.box.c0 (And.intro HK3.out.tail.tail.tail.tail.box.c1 (And.intro HK3.out.tail.tail.tail.tail.tail.box.c0 (HK3.out.tail.tail.tail.tail.tail.box.c1)))); have tok3 : True := trivial))
  clear KS0 KS1 KS2 KS3
  go_wp2_with fail
  refine bodyPost_ret (v := .agg #[.bool rm, .slice r0 rn rc]) (by simp [results, Try.results19, go_sem, br_c0, br_c1]) rfl ?_
  exact ⟨_, _, _, _, rfl, HZ.out ▸ hX.set2 HK3.out.tail.tail.tail.tail.tail.tail.box _ _, below_set2 HB3.out (by omega) _ _⟩

end Go.Proofs.Ytponiigpmjnffaa

/-
  The contracts of whole.DivMod and whole.Exact.
-/
import Derived.Test.YtponiigpmjnffaaWSign
import Derived.Test.YtponiigpmjnffaaGDiv
import Derived.Deep.Cut
set_option maxRecDepth 8192
namespace Go.Proofs.Ytponiigpmjnffaa
open Go.RowKit

/-- What a call leaves that answers two whole numbers and an error's number. -/
def NewI2 (w : World) (q r : Int) (er : Int) (e : Ending) (w' : World) : Prop :=
  ∃ m ao n cap k bo l cb, e = .returned (.tuple #[.agg #[.bool m, .slice ao n cap], .agg #[.bool k, .slice bo l cb], .int .i64 er]) ∧ Cn w' m ao n cap q ∧ Cn w' k bo l cb r ∧ Below w.heap.size w w'

/-- What a call leaves that answers a whole number and an error's number. -/
def NewIE (w : World) (q : Int) (er : Int) (e : Ending) (w' : World) : Prop :=
  ∃ m ao n cap, e = .returned (.tuple #[.agg #[.bool m, .slice ao n cap], .int .i64 er]) ∧ Cn w' m ao n cap q ∧ Below w.heap.size w w'

theorem zOf_div (m k : Bool) (a b : Nat) : zOf (m != k) (a / b) = (zOf m a).tdiv (zOf k b) := by cases m <;> cases k <;> simp [zOf, Int.tdiv_neg, Int.neg_tdiv]
theorem zOf_mod (m k : Bool) (a b : Nat) : zOf m (a % b) = (zOf m a).tmod (zOf k b) := by cases m <;> cases k <;> simp [zOf, Int.tmod_neg, Int.neg_tmod, Int.tmod_eq_emod_of_nonneg]
theorem zOf_eq_zero {m : Bool} {v : Nat} {x : Int} (h : zOf m v = x) : x = 0 ↔ v = 0 := by
  have := zOf_abs m v
  rw [h] at this
  omega

set_option maxHeartbeats 4000000 in
theorem wdivmod_zero {m k : Bool} {ao bo : Option Addr} {n cap l cb : Nat} {x y : Int} {w : World} (hx : Nx w m ao n cap x) (hy : Nx w k bo l cb y) (h0 : y = 0) :
    Calls Try.prog 32 #[.agg #[.bool m, .slice ao n cap], .agg #[.bool k, .slice bo l cb]] w (RetB (.tuple #[.agg #[.bool false, .slice none 0 0], .agg #[.bool false, .slice none 0 0], .int .i64 7]) w) := by
  obtain ⟨⟨xs, hs, hz⟩, hle⟩ := hx
  obtain ⟨⟨ys, ht, hz2⟩, hle2⟩ := hy
  have H0 : Hid (val ys = 0) := (zOf_eq_zero hz2).1 h0
  clear h0 hz hz2
  go_enter Try.func32, Try.ntmps32
  go_upto_region 1 with (fail)
  refine wp_world (fun W hW => ?_)
  have HB0 : Hid (Below w.heap.size w W) := by rw [hW]; exact step_alloc (step_alloc (step_alloc (below_alloc _ _)))
  have hbx_bx : Box W (w.heap.size) m ao n cap := by rw [hW]; exact (((Box.new _ _ _ _ _ _ _ (by simp)).below (below_alloc _ _)).below (below_alloc _ _)).below (below_alloc _ _)
  have hbx_by : Box W (w.heap.size + 1) k bo l cb := by rw [hW]; exact ((Box.new _ _ _ _ _ _ _ (by simp)).below (below_alloc _ _)).below (below_alloc _ _)
  have hbx_bq : Box W (w.heap.size + 2) false none 0 0 := by rw [hW]; exact (Box.new _ _ _ _ _ _ _ (by simp)).below (below_alloc _ _)
  have hbx_br : Box W (w.heap.size + 3) false none 0 0 := by rw [hW]; exact Box.new _ _ _ _ _ _ _ (by simp)
  have HK0 := Lib.hid (Live.add_sl (hs.below HB0.out) (Live.add_sl (ht.below HB0.out) (Live.add_box hbx_bx (Live.add_box hbx_by (Live.add_box hbx_bq (Live.add_box hbx_br (Live.nil W)))))))
  clear hW hbx_bx hbx_by hbx_bq hbx_br
  have bx_c0 := HK0.out.tail.tail.box.c0
  have bx_c1 := HK0.out.tail.tail.box.c1
  have bx_f0 := HK0.out.tail.tail.box.f0
  have bx_f1 := HK0.out.tail.tail.box.f1
  have by_c0 := HK0.out.tail.tail.tail.box.c0
  have by_c1 := HK0.out.tail.tail.tail.box.c1
  have by_f0 := HK0.out.tail.tail.tail.box.f0
  have by_f1 := HK0.out.tail.tail.tail.box.f1
  have bq_c0 := HK0.out.tail.tail.tail.tail.box.c0
  have bq_c1 := HK0.out.tail.tail.tail.tail.box.c1
  have bq_f0 := HK0.out.tail.tail.tail.tail.box.f0
  have bq_f1 := HK0.out.tail.tail.tail.tail.box.f1
  have br_c0 := HK0.out.tail.tail.tail.tail.tail.box.c0
  have br_c1 := HK0.out.tail.tail.tail.tail.tail.box.c1
  have br_f0 := HK0.out.tail.tail.tail.tail.tail.box.f0
  have br_f1 := HK0.out.tail.tail.tail.tail.tail.box.f1
  go_wp2_with fail
  refine (ddiv_zero _ _ _ _ _ _ _ _ _ HK0.out.sl HK0.out.tail.sl H0.out).mono ?_
  rintro e w1 ⟨rfl, hB⟩
  have HK1 := Lib.hid (HK0.out.below hB)
  have HB1 := Lib.hid (Below.steps HB0.out hB)
  clear bx_c0 bx_c1 bx_f0 bx_f1 by_c0 by_c1 by_f0 by_f1 bq_c0 bq_c1 bq_f0 bq_f1 br_c0 br_c1 br_f0 br_f1
  clear HK0 HB0 hB
  have bx_c0 := HK1.out.tail.tail.box.c0
  have bx_c1 := HK1.out.tail.tail.box.c1
  have bx_f0 := HK1.out.tail.tail.box.f0
  have bx_f1 := HK1.out.tail.tail.box.f1
  have by_c0 := HK1.out.tail.tail.tail.box.c0
  have by_c1 := HK1.out.tail.tail.tail.box.c1
  have by_f0 := HK1.out.tail.tail.tail.box.f0
  have by_f1 := HK1.out.tail.tail.tail.box.f1
  have bq_c0 := HK1.out.tail.tail.tail.tail.box.c0
  have bq_c1 := HK1.out.tail.tail.tail.tail.box.c1
  have bq_f0 := HK1.out.tail.tail.tail.tail.box.f0
  have bq_f1 := HK1.out.tail.tail.tail.tail.box.f1
  have br_c0 := HK1.out.tail.tail.tail.tail.tail.box.c0
  have br_c1 := HK1.out.tail.tail.tail.tail.tail.box.c1
  have br_f0 := HK1.out.tail.tail.tail.tail.tail.box.f0
  have br_f1 := HK1.out.tail.tail.tail.tail.tail.box.f1
  go_wp2_with fail
  refine bodyPost_ret (v := .tuple #[.agg #[.bool false, .slice none 0 0], .agg #[.bool false, .slice none 0 0], .int .i64 7]) (by simp [results, Try.results32, go_sem, bq_c0, bq_c1, br_c0, br_c1]) rfl ?_
  exact ⟨rfl, below_set2 (below_set2 HB1.out (by omega) _ _) (by omega) _ _⟩

set_option maxHeartbeats 4000000 in
theorem wdivmod_any {m k : Bool} {ao bo : Option Addr} {n cap l cb : Nat} {x y : Int} {w : World} (hx : Nx w m ao n cap x) (hy : Nx w k bo l cb y) (h0 : y ≠ 0) :
    Calls Try.prog 32 #[.agg #[.bool m, .slice ao n cap], .agg #[.bool k, .slice bo l cb]] w (NewI2 w (x.tdiv y) (x.tmod y) 0) := by
  obtain ⟨⟨xs, hs, hz⟩, hle⟩ := hx
  obtain ⟨⟨ys, ht, hz2⟩, hle2⟩ := hy
  have H0 : Hid (val ys ≠ 0) := fun h => h0 ((zOf_eq_zero hz2).2 h)
  have HQ : Hid (zOf (m != k) (val xs / val ys) = x.tdiv y) := by rw [Hid, zOf_div, hz, hz2]
  have HR : Hid (zOf m (val xs % val ys) = x.tmod y) := by rw [Hid, zOf_mod m k, hz, hz2]
  clear h0 hz hz2
  go_enter Try.func32, Try.ntmps32
  go_upto_region 1 with (fail)
  refine wp_world (fun W hW => ?_)
  have HB0 : Hid (Below w.heap.size w W) := by rw [hW]; exact step_alloc (step_alloc (step_alloc (below_alloc _ _)))
  have hbx_bx : Box W (w.heap.size) m ao n cap := by rw [hW]; exact (((Box.new _ _ _ _ _ _ _ (by simp)).below (below_alloc _ _)).below (below_alloc _ _)).below (below_alloc _ _)
  have hbx_by : Box W (w.heap.size + 1) k bo l cb := by rw [hW]; exact ((Box.new _ _ _ _ _ _ _ (by simp)).below (below_alloc _ _)).below (below_alloc _ _)
  have hbx_bq : Box W (w.heap.size + 2) false none 0 0 := by rw [hW]; exact (Box.new _ _ _ _ _ _ _ (by simp)).below (below_alloc _ _)
  have hbx_br : Box W (w.heap.size + 3) false none 0 0 := by rw [hW]; exact Box.new _ _ _ _ _ _ _ (by simp)
  have HK0 := Lib.hid (Live.add_sl (hs.below HB0.out) (Live.add_sl (ht.below HB0.out) (Live.add_box hbx_bx (Live.add_box hbx_by (Live.add_box hbx_bq (Live.add_box hbx_br (Live.nil W)))))))
  clear hW hbx_bx hbx_by hbx_bq hbx_br
  have bx_c0 := HK0.out.tail.tail.box.c0
  have bx_c1 := HK0.out.tail.tail.box.c1
  have bx_f0 := HK0.out.tail.tail.box.f0
  have bx_f1 := HK0.out.tail.tail.box.f1
  have by_c0 := HK0.out.tail.tail.tail.box.c0
  have by_c1 := HK0.out.tail.tail.tail.box.c1
  have by_f0 := HK0.out.tail.tail.tail.box.f0
  have by_f1 := HK0.out.tail.tail.tail.box.f1
  have bq_c0 := HK0.out.tail.tail.tail.tail.box.c0
  have bq_c1 := HK0.out.tail.tail.tail.tail.box.c1
  have bq_f0 := HK0.out.tail.tail.tail.tail.box.f0
  have bq_f1 := HK0.out.tail.tail.tail.tail.box.f1
  have br_c0 := HK0.out.tail.tail.tail.tail.tail.box.c0
  have br_c1 := HK0.out.tail.tail.tail.tail.tail.box.c1
  have br_f0 := HK0.out.tail.tail.tail.tail.tail.box.f0
  have br_f1 := HK0.out.tail.tail.tail.tail.tail.box.f1
  go_wp2_with fail
  refine (ddiv_any _ _ _ _ _ _ _ _ _ HK0.out.sl HK0.out.tail.sl H0.out (by omega)).mono ?_
  rintro e w1 ⟨q0, qn, qc, s0, sn, sc, rfl, hQ, hS, hB⟩
  have HK1 := Lib.hid (Live.add_sl hQ (Live.add_sl hS (HK0.out.below hB)))
  have HB1 := Lib.hid (Below.steps HB0.out hB)
  clear bx_c0 bx_c1 bx_f0 bx_f1 by_c0 by_c1 by_f0 by_f1 bq_c0 bq_c1 bq_f0 bq_f1 br_c0 br_c1 br_f0 br_f1
  clear HK0 HB0 hQ hS hB
  have bx_c0 := HK1.out.tail.tail.tail.tail.box.c0
  have bx_c1 := HK1.out.tail.tail.tail.tail.box.c1
  have bx_f0 := HK1.out.tail.tail.tail.tail.box.f0
  have bx_f1 := HK1.out.tail.tail.tail.tail.box.f1
  have by_c0 := HK1.out.tail.tail.tail.tail.tail.box.c0
  have by_c1 := HK1.out.tail.tail.tail.tail.tail.box.c1
  have by_f0 := HK1.out.tail.tail.tail.tail.tail.box.f0
  have by_f1 := HK1.out.tail.tail.tail.tail.tail.box.f1
  have bq_c0 := HK1.out.tail.tail.tail.tail.tail.tail.box.c0
  have bq_c1 := HK1.out.tail.tail.tail.tail.tail.tail.box.c1
  have bq_f0 := HK1.out.tail.tail.tail.tail.tail.tail.box.f0
  have bq_f1 := HK1.out.tail.tail.tail.tail.tail.tail.box.f1
  have br_c0 := HK1.out.tail.tail.tail.tail.tail.tail.tail.box.c0
  have br_c1 := HK1.out.tail.tail.tail.tail.tail.tail.tail.box.c1
  have br_f0 := HK1.out.tail.tail.tail.tail.tail.tail.tail.box.f0
  have br_f1 := HK1.out.tail.tail.tail.tail.tail.tail.tail.box.f1
  go_wp2_with fail
  have HK1d := Lib.hid (HK1.out.below ((Below.refl _ _).drew))
  have HB1d := Lib.hid HB1.out.drew
  clear bx_c0 bx_c1 bx_f0 bx_f1 by_c0 by_c1 by_f0 by_f1 bq_c0 bq_c1 bq_f0 bq_f1 br_c0 br_c1 br_f0 br_f1
  clear HK1 HB1
  have HK1 := Lib.hid HK1d.out
  have HB1 := Lib.hid HB1d.out
  clear HK1d HB1d
  have bx_c0 := HK1.out.tail.tail.tail.tail.box.c0
  have bx_c1 := HK1.out.tail.tail.tail.tail.box.c1
  have bx_f0 := HK1.out.tail.tail.tail.tail.box.f0
  have bx_f1 := HK1.out.tail.tail.tail.tail.box.f1
  have by_c0 := HK1.out.tail.tail.tail.tail.tail.box.c0
  have by_c1 := HK1.out.tail.tail.tail.tail.tail.box.c1
  have by_f0 := HK1.out.tail.tail.tail.tail.tail.box.f0
  have by_f1 := HK1.out.tail.tail.tail.tail.tail.box.f1
  have bq_c0 := HK1.out.tail.tail.tail.tail.tail.tail.box.c0
  have bq_c1 := HK1.out.tail.tail.tail.tail.tail.tail.box.c1
  have bq_f0 := HK1.out.tail.tail.tail.tail.tail.tail.box.f0
  have bq_f1 := HK1.out.tail.tail.tail.tail.tail.tail.box.f1
  have br_c0 := HK1.out.tail.tail.tail.tail.tail.tail.tail.box.c0
  have br_c1 := HK1.out.tail.tail.tail.tail.tail.tail.tail.box.c1
  have br_f0 := HK1.out.tail.tail.tail.tail.tail.tail.tail.box.f0
  have br_f1 := HK1.out.tail.tail.tail.tail.tail.tail.tail.box.f1
  have tok0 : True := trivial
  have KS0 := Lib.hid (And.intro HK1.out.tail.tail.tail.tail.box.c0 (And.intro HK1.out.tail.tail.tail.tail.box.c1 (And.intro HK1.out.tail.tail.tail.tail.tail.box.c0 (HK1.out.tail.tail.tail.tail.tail.box.c1))))
  go_region_held3 (fun w' => w'.cell? ⟨w.heap.size, 0, none⟩ = some (.bool m) ∧ w'.cell? ⟨w.heap.size, 1, none⟩ = some (.slice ao n cap) ∧ w'.cell? ⟨w.heap.size + 1, 0, none⟩ = some (.bool k) ∧ w'.cell? ⟨w.heap.size + 1, 1, none⟩ = some (.slice bo l cb))
    (first | exact KS4.out | exact KS3.out | exact KS2.out | exact KS1.out | exact KS0.out | exact (And.intro ((cell_set2 (fun e => by have e2 : w.heap.size = w.heap.size + 3 := e; omega) _ _).trans ((cell_set2 (fun e => by have e2 : w.heap.size = w.heap.size + 2 := e; omega) _ _).trans bx_c0)) (And.intro ((cell_set2 (fun e => by have e2 : w.heap.size = w.heap.size + 3 := e; omega) _ _).trans ((cell_set2 (fun e => by have e2 : w.heap.size = w.heap.size + 2 := e; omega) _ _).trans bx_c1)) (And.intro ((cell_set2 (fun e => by have e2 : w.heap.size + 1 = w.heap.size + 3 := e; omega) _ _).trans ((cell_set2 (fun e => by have e2 : w.heap.size + 1 = w.heap.size + 2 := e; omega) _ _).trans by_c0)) ((cell_set2 (fun e => by have e2 : w.heap.size + 1 = w.heap.size + 3 := e; omega) _ _).trans ((cell_set2 (fun e => by have e2 : w.heap.size + 1 = w.heap.size + 2 := e; omega) _ _).trans by_c1))))) | exact (And.intro ((cell_set2 (fun e => by have e2 : w.heap.size = w.heap.size + 2 := e; omega) _ _).trans bx_c0) (And.intro ((cell_set2 (fun e => by have e2 : w.heap.size = w.heap.size + 2 := e; omega) _ _).trans bx_c1) (And.intro ((cell_set2 (fun e => by have e2 : w.heap.size + 1 = w.heap.size + 2 := e; omega) _ _).trans by_c0) ((cell_set2 (fun e => by have e2 : w.heap.size + 1 = w.heap.size + 2 := e; omega) _ _).trans by_c1)))) | go_keep)
    (first
      | (have _t := tok0; clear _t tok0; go_at_call 41; go_must (with_reducible refine (signed_any _ _).mono ?_); rintro e w2 ⟨b_fn, rfl, hb1, hb2, hbc, hB⟩; have HK2 := Lib.hid (Live.add_fn hb2 hbc (HK1.out.below hB)); have HB2 := Lib.hid (Below.steps HB1.out hB); clear bx_c0 bx_c1 bx_f0 bx_f1 by_c0 by_c1 by_f0 by_f1 bq_c0 bq_c1 bq_f0 bq_f1 br_c0 br_c1 br_f0 br_f1; clear HK1 HB1 hb1 hbc hB; have bx_c0 := HK2.out.tail.tail.tail.tail.tail.box.c0; have bx_c1 := HK2.out.tail.tail.tail.tail.tail.box.c1; have bx_f0 := HK2.out.tail.tail.tail.tail.tail.box.f0; have bx_f1 := HK2.out.tail.tail.tail.tail.tail.box.f1; have by_c0 := HK2.out.tail.tail.tail.tail.tail.tail.box.c0; have by_c1 := HK2.out.tail.tail.tail.tail.tail.tail.box.c1; have by_f0 := HK2.out.tail.tail.tail.tail.tail.tail.box.f0; have by_f1 := HK2.out.tail.tail.tail.tail.tail.tail.box.f1; have bq_c0 := HK2.out.tail.tail.tail.tail.tail.tail.tail.box.c0; have bq_c1 := HK2.out.tail.tail.tail.tail.tail.tail.tail.box.c1; have bq_f0 := HK2.out.tail.tail.tail.tail.tail.tail.tail.box.f0; have bq_f1 := HK2.out.tail.tail.tail.tail.tail.tail.tail.box.f1; have br_c0 := HK2.out.tail.tail.tail.tail.tail.tail.tail.tail.box.c0; have br_c1 := HK2.out.tail.tail.tail.tail.tail.tail.tail.tail.box.c1; have br_f0 := HK2.out.tail.tail.tail.tail.tail.tail.tail.tail.box.f0; have br_f1 := HK2.out.tail.tail.tail.tail.tail.tail.tail.tail.box.f1; have KS1 := Lib.hid (And.intro HK2.out.tail.tail.tail.tail.tail.box.c0 (And.intro HK2.out.tail.tail.tail.tail.tail.box.c1 (And.intro HK2.out.tail.tail.tail.tail.tail.tail.box.c0 (HK2.out.tail.tail.tail.tail.tail.tail.box.c1)))); have tok1 : True := trivial)
      | (have _t := tok1; clear _t tok1; go_at_call 63; go_must (with_reducible refine (close_any _ _ _ _ _ _ _ HK2.out.fn HK2.out.tail.sl).mono ?_); rintro e w3 ⟨um, u0, un, uc, rfl, hU, hB⟩; have HUN := Lib.hid hU.neg; have HK3 := Lib.hid (Live.add_sl hU.sl (HK2.out.below hB)); have HB3 := Lib.hid (Below.steps HB2.out hB); clear bx_c0 bx_c1 bx_f0 bx_f1 by_c0 by_c1 by_f0 by_f1 bq_c0 bq_c1 bq_f0 bq_f1 br_c0 br_c1 br_f0 br_f1; clear HK2 HB2 hU hB; have bx_c0 := HK3.out.tail.tail.tail.tail.tail.tail.box.c0; have bx_c1 := HK3.out.tail.tail.tail.tail.tail.tail.box.c1; have bx_f0 := HK3.out.tail.tail.tail.tail.tail.tail.box.f0; have bx_f1 := HK3.out.tail.tail.tail.tail.tail.tail.box.f1; have by_c0 := HK3.out.tail.tail.tail.tail.tail.tail.tail.box.c0; have by_c1 := HK3.out.tail.tail.tail.tail.tail.tail.tail.box.c1; have by_f0 := HK3.out.tail.tail.tail.tail.tail.tail.tail.box.f0; have by_f1 := HK3.out.tail.tail.tail.tail.tail.tail.tail.box.f1; have bq_c0 := HK3.out.tail.tail.tail.tail.tail.tail.tail.tail.box.c0; have bq_c1 := HK3.out.tail.tail.tail.tail.tail.tail.tail.tail.box.c1; have bq_f0 := HK3.out.tail.tail.tail.tail.tail.tail.tail.tail.box.f0; have bq_f1 := HK3.out.tail.tail.tail.tail.tail.tail.tail.tail.box.f1; have br_c0 := HK3.out.tail.tail.tail.tail.tail.tail.tail.tail.tail.box.c0; have br_c1 := HK3.out.tail.tail.tail.tail.tail.tail.tail.tail.tail.box.c1; have br_f0 := HK3.out.tail.tail.tail.tail.tail.tail.tail.tail.tail.box.f0; have br_f1 := HK3.out.tail.tail.tail.tail.tail.tail.tail.tail.tail.box.f1; have KS2 := Lib.hid (And.intro HK3.out.tail.tail.tail.tail.tail.tail.box.c0 (And.intro HK3.out.tail.tail.tail.tail.tail.tail.box.c1 (And.intro HK3.out.tail.tail.tail.tail.tail.tail.tail.box.c0 (HK3.out.tail.tail.tail.tail.tail.tail.tail.box.c1)))); have tok2 : True := trivial)
      | (have _t := tok2; clear _t tok2; go_at_call 41; go_must (with_reducible refine (signed_any _ _).mono ?_); rintro e w4 ⟨b_fn2, rfl, hb1, hb2, hbc, hB⟩; have HK4 := Lib.hid (Live.add_fn hb2 hbc (HK3.out.below hB)); have HB4 := Lib.hid (Below.steps HB3.out hB); clear bx_c0 bx_c1 bx_f0 bx_f1 by_c0 by_c1 by_f0 by_f1 bq_c0 bq_c1 bq_f0 bq_f1 br_c0 br_c1 br_f0 br_f1; clear HK3 HB3 hb1 hbc hB; have bx_c0 := HK4.out.tail.tail.tail.tail.tail.tail.tail.box.c0; have bx_c1 := HK4.out.tail.tail.tail.tail.tail.tail.tail.box.c1; have bx_f0 := HK4.out.tail.tail.tail.tail.tail.tail.tail.box.f0; have bx_f1 := HK4.out.tail.tail.tail.tail.tail.tail.tail.box.f1; have by_c0 := HK4.out.tail.tail.tail.tail.tail.tail.tail.tail.box.c0; have by_c1 := HK4.out.tail.tail.tail.tail.tail.tail.tail.tail.box.c1; have by_f0 := HK4.out.tail.tail.tail.tail.tail.tail.tail.tail.box.f0; have by_f1 := HK4.out.tail.tail.tail.tail.tail.tail.tail.tail.box.f1; have bq_c0 := HK4.out.tail.tail.tail.tail.tail.tail.tail.tail.tail.box.c0; have bq_c1 := HK4.out.tail.tail.tail.tail.tail.tail.tail.tail.tail.box.c1; have bq_f0 := HK4.out.tail.tail.tail.tail.tail.tail.tail.tail.tail.box.f0; have bq_f1 := HK4.out.tail.tail.tail.tail.tail.tail.tail.tail.tail.box.f1; have br_c0 := HK4.out.tail.tail.tail.tail.tail.tail.tail.tail.tail.tail.box.c0; have br_c1 := HK4.out.tail.tail.tail.tail.tail.tail.tail.tail.tail.tail.box.c1; have br_f0 := HK4.out.tail.tail.tail.tail.tail.tail.tail.tail.tail.tail.box.f0; have br_f1 := HK4.out.tail.tail.tail.tail.tail.tail.tail.tail.tail.tail.box.f1; have KS3 := Lib.hid (And.intro HK4.out.tail.tail.tail.tail.tail.tail.tail.box.c0 (And.intro HK4.out.tail.tail.tail.tail.tail.tail.tail.box.c1 (And.intro HK4.out.tail.tail.tail.tail.tail.tail.tail.tail.box.c0 (HK4.out.tail.tail.tail.tail.tail.tail.tail.tail.box.c1)))); have tok3 : True := trivial)
      | (have _t := tok3; clear _t tok3; go_at_call 63; go_must (with_reducible refine (close_any _ _ _ _ _ _ _ HK4.out.fn HK4.out.tail.tail.tail.tail.sl).mono ?_); rintro e w5 ⟨vm, v0, vn, vc, rfl, hX, hB⟩; have HK5 := Lib.hid (HK4.out.below hB); have HB5 := Lib.hid (Below.steps HB4.out hB); clear bx_c0 bx_c1 bx_f0 bx_f1 by_c0 by_c1 by_f0 by_f1 bq_c0 bq_c1 bq_f0 bq_f1 br_c0 br_c1 br_f0 br_f1; clear HK4 HB4 hB; have bx_c0 := HK5.out.tail.tail.tail.tail.tail.tail.tail.box.c0; have bx_c1 := HK5.out.tail.tail.tail.tail.tail.tail.tail.box.c1; have bx_f0 := HK5.out.tail.tail.tail.tail.tail.tail.tail.box.f0; have bx_f1 := HK5.out.tail.tail.tail.tail.tail.tail.tail.box.f1; have by_c0 := HK5.out.tail.tail.tail.tail.tail.tail.tail.tail.box.c0; have by_c1 := HK5.out.tail.tail.tail.tail.tail.tail.tail.tail.box.c1; have by_f0 := HK5.out.tail.tail.tail.tail.tail.tail.tail.tail.box.f0; have by_f1 := HK5.out.tail.tail.tail.tail.tail.tail.tail.tail.box.f1; have bq_c0 := HK5.out.tail.tail.tail.tail.tail.tail.tail.tail.tail.box.c0; have bq_c1 := HK5.out.tail.tail.tail.tail.tail.tail.tail.tail.tail.box.c1; have bq_f0 := HK5.out.tail.tail.tail.tail.tail.tail.tail.tail.tail.box.f0; have bq_f1 := HK5.out.tail.tail.tail.tail.tail.tail.tail.tail.tail.box.f1; have br_c0 := HK5.out.tail.tail.tail.tail.tail.tail.tail.tail.tail.tail.box.c0; have br_c1 := HK5.out.tail.tail.tail.tail.tail.tail.tail.tail.tail.tail.box.c1; have br_f0 := HK5.out.tail.tail.tail.tail.tail.tail.tail.tail.tail.tail.box.f0; have br_f1 := HK5.out.tail.tail.tail.tail.tail.tail.tail.tail.tail.tail.box.f1; have KS4 := Lib.hid (And.intro HK5.out.tail.tail.tail.tail.tail.tail.tail.box.c0 (And.intro HK5.out.tail.tail.tail.tail.tail.tail.tail.box.c1 (And.intro HK5.out.tail.tail.tail.tail.tail.tail.tail.tail.box.c0 (HK5.out.tail.tail.tail.tail.tail.tail.tail.tail.box.c1)))); have tok4 : True := trivial))
  clear KS0 KS1 KS2 KS3 KS4
  go_wp2_with fail
  have HB9 := Lib.hid (below_set2 (below_set2 HB5.out (b := w.heap.size + 2) (by omega) (.bool um) (.slice u0 un uc)) (b := w.heap.size + 3) (by omega) (.bool vm) (.slice v0 vn vc))
  have HU : Hid (Cn w5 um u0 un uc (zOf (m != k) (val xs / val ys))) := ⟨HUN.out, HK5.out.tail.sl⟩
  have HU9 : Hid (Cn _ um u0 un uc (x.tdiv y)) := Lib.hid (HQ.out ▸ (HU.out.set2 HK5.out.tail.tail.tail.tail.tail.tail.tail.tail.tail.box (.bool um) (.slice u0 un uc)).set2 (HK5.out.tail.tail.tail.tail.tail.tail.tail.tail.tail.tail.box.far (by omega) _ _) (.bool vm) (.slice v0 vn vc))
  have HV9 : Hid (Cn _ vm v0 vn vc (x.tmod y)) := Lib.hid (HR.out ▸ (hX.set2 HK5.out.tail.tail.tail.tail.tail.tail.tail.tail.tail.box (.bool um) (.slice u0 un uc)).set2 (HK5.out.tail.tail.tail.tail.tail.tail.tail.tail.tail.tail.box.far (by omega) _ _) (.bool vm) (.slice v0 vn vc))
  refine bodyPost_ret (v := .tuple #[.agg #[.bool um, .slice u0 un uc], .agg #[.bool vm, .slice v0 vn vc], .int .i64 0]) (by simp [results, Try.results32, go_sem, bq_c0, bq_c1, br_c0, br_c1]) rfl ?_
  exact ⟨_, _, _, _, _, _, _, _, rfl, HU9.out, HV9.out, HB9.out⟩

set_option maxHeartbeats 4000000 in
theorem wexact_zero {m k : Bool} {ao bo : Option Addr} {n cap l cb : Nat} {x y : Int} {w : World} (hx : Nx w m ao n cap x) (hy : Nx w k bo l cb y) (h0 : y = 0) :
    Calls Try.prog 33 #[.agg #[.bool m, .slice ao n cap], .agg #[.bool k, .slice bo l cb]] w (RetB (.tuple #[.agg #[.bool false, .slice none 0 0], .int .i64 7]) w) := by
  obtain ⟨⟨xs, hs, hz⟩, hle⟩ := hx
  obtain ⟨⟨ys, ht, hz2⟩, hle2⟩ := hy
  have H0 : Hid (val ys = 0) := (zOf_eq_zero hz2).1 h0
  clear h0 hz hz2
  go_enter Try.func33, Try.ntmps33
  go_upto_region 1 with (fail)
  refine wp_world (fun W hW => ?_)
  have HB0 : Hid (Below w.heap.size w W) := by rw [hW]; exact step_alloc (step_alloc (below_alloc _ _))
  have hbx_bx : Box W (w.heap.size) m ao n cap := by rw [hW]; exact ((Box.new _ _ _ _ _ _ _ (by simp)).below (below_alloc _ _)).below (below_alloc _ _)
  have hbx_by : Box W (w.heap.size + 1) k bo l cb := by rw [hW]; exact (Box.new _ _ _ _ _ _ _ (by simp)).below (below_alloc _ _)
  have hbx_br : Box W (w.heap.size + 2) false none 0 0 := by rw [hW]; exact Box.new _ _ _ _ _ _ _ (by simp)
  have HK0 := Lib.hid (Live.add_sl (hs.below HB0.out) (Live.add_sl (ht.below HB0.out) (Live.add_box hbx_bx (Live.add_box hbx_by (Live.add_box hbx_br (Live.nil W))))))
  clear hW hbx_bx hbx_by hbx_br
  have bx_c0 := HK0.out.tail.tail.box.c0
  have bx_c1 := HK0.out.tail.tail.box.c1
  have bx_f0 := HK0.out.tail.tail.box.f0
  have bx_f1 := HK0.out.tail.tail.box.f1
  have by_c0 := HK0.out.tail.tail.tail.box.c0
  have by_c1 := HK0.out.tail.tail.tail.box.c1
  have by_f0 := HK0.out.tail.tail.tail.box.f0
  have by_f1 := HK0.out.tail.tail.tail.box.f1
  have br_c0 := HK0.out.tail.tail.tail.tail.box.c0
  have br_c1 := HK0.out.tail.tail.tail.tail.box.c1
  have br_f0 := HK0.out.tail.tail.tail.tail.box.f0
  have br_f1 := HK0.out.tail.tail.tail.tail.box.f1
  go_wp2_with fail
  refine (exact_zero _ _ _ _ _ _ _ _ _ HK0.out.sl HK0.out.tail.sl H0.out).mono ?_
  rintro e w1 ⟨rfl, hB⟩
  have HK1 := Lib.hid (HK0.out.below hB)
  have HB1 := Lib.hid (Below.steps HB0.out hB)
  clear bx_c0 bx_c1 bx_f0 bx_f1 by_c0 by_c1 by_f0 by_f1 br_c0 br_c1 br_f0 br_f1
  clear HK0 HB0 hB
  have bx_c0 := HK1.out.tail.tail.box.c0
  have bx_c1 := HK1.out.tail.tail.box.c1
  have bx_f0 := HK1.out.tail.tail.box.f0
  have bx_f1 := HK1.out.tail.tail.box.f1
  have by_c0 := HK1.out.tail.tail.tail.box.c0
  have by_c1 := HK1.out.tail.tail.tail.box.c1
  have by_f0 := HK1.out.tail.tail.tail.box.f0
  have by_f1 := HK1.out.tail.tail.tail.box.f1
  have br_c0 := HK1.out.tail.tail.tail.tail.box.c0
  have br_c1 := HK1.out.tail.tail.tail.tail.box.c1
  have br_f0 := HK1.out.tail.tail.tail.tail.box.f0
  have br_f1 := HK1.out.tail.tail.tail.tail.box.f1
  go_wp2_with fail
  refine bodyPost_ret (v := .tuple #[.agg #[.bool false, .slice none 0 0], .int .i64 7]) (by simp [results, Try.results33, go_sem, br_c0, br_c1]) rfl ?_
  exact ⟨rfl, below_set2 HB1.out (by omega) _ _⟩

set_option maxHeartbeats 4000000 in
theorem wexact_rest {m k : Bool} {ao bo : Option Addr} {n cap l cb : Nat} {x y : Int} {w : World} (hx : Nx w m ao n cap x) (hy : Nx w k bo l cb y) (h0 : y ≠ 0) (hr : x.tmod y ≠ 0) :
    Calls Try.prog 33 #[.agg #[.bool m, .slice ao n cap], .agg #[.bool k, .slice bo l cb]] w (RetB (.tuple #[.agg #[.bool false, .slice none 0 0], .int .i64 2]) w) := by
  obtain ⟨⟨xs, hs, hz⟩, hle⟩ := hx
  obtain ⟨⟨ys, ht, hz2⟩, hle2⟩ := hy
  have H0 : Hid (val ys ≠ 0) := fun h => h0 ((zOf_eq_zero hz2).2 h)
  have HR : Hid (val xs % val ys ≠ 0) := fun h => hr (by rw [← hz, ← hz2, ← zOf_mod m k, h, zOf_zero])
  clear h0 hr hz hz2
  go_enter Try.func33, Try.ntmps33
  go_upto_region 1 with (fail)
  refine wp_world (fun W hW => ?_)
  have HB0 : Hid (Below w.heap.size w W) := by rw [hW]; exact step_alloc (step_alloc (below_alloc _ _))
  have hbx_bx : Box W (w.heap.size) m ao n cap := by rw [hW]; exact ((Box.new _ _ _ _ _ _ _ (by simp)).below (below_alloc _ _)).below (below_alloc _ _)
  have hbx_by : Box W (w.heap.size + 1) k bo l cb := by rw [hW]; exact (Box.new _ _ _ _ _ _ _ (by simp)).below (below_alloc _ _)
  have hbx_br : Box W (w.heap.size + 2) false none 0 0 := by rw [hW]; exact Box.new _ _ _ _ _ _ _ (by simp)
  have HK0 := Lib.hid (Live.add_sl (hs.below HB0.out) (Live.add_sl (ht.below HB0.out) (Live.add_box hbx_bx (Live.add_box hbx_by (Live.add_box hbx_br (Live.nil W))))))
  clear hW hbx_bx hbx_by hbx_br
  have bx_c0 := HK0.out.tail.tail.box.c0
  have bx_c1 := HK0.out.tail.tail.box.c1
  have bx_f0 := HK0.out.tail.tail.box.f0
  have bx_f1 := HK0.out.tail.tail.box.f1
  have by_c0 := HK0.out.tail.tail.tail.box.c0
  have by_c1 := HK0.out.tail.tail.tail.box.c1
  have by_f0 := HK0.out.tail.tail.tail.box.f0
  have by_f1 := HK0.out.tail.tail.tail.box.f1
  have br_c0 := HK0.out.tail.tail.tail.tail.box.c0
  have br_c1 := HK0.out.tail.tail.tail.tail.box.c1
  have br_f0 := HK0.out.tail.tail.tail.tail.box.f0
  have br_f1 := HK0.out.tail.tail.tail.tail.box.f1
  go_wp2_with fail
  refine (exact_rest _ _ _ _ _ _ _ _ _ HK0.out.sl HK0.out.tail.sl H0.out (by omega) HR.out).mono ?_
  rintro e w1 ⟨rfl, hB⟩
  have HK1 := Lib.hid (HK0.out.below hB)
  have HB1 := Lib.hid (Below.steps HB0.out hB)
  clear bx_c0 bx_c1 bx_f0 bx_f1 by_c0 by_c1 by_f0 by_f1 br_c0 br_c1 br_f0 br_f1
  clear HK0 HB0 hB
  have bx_c0 := HK1.out.tail.tail.box.c0
  have bx_c1 := HK1.out.tail.tail.box.c1
  have bx_f0 := HK1.out.tail.tail.box.f0
  have bx_f1 := HK1.out.tail.tail.box.f1
  have by_c0 := HK1.out.tail.tail.tail.box.c0
  have by_c1 := HK1.out.tail.tail.tail.box.c1
  have by_f0 := HK1.out.tail.tail.tail.box.f0
  have by_f1 := HK1.out.tail.tail.tail.box.f1
  have br_c0 := HK1.out.tail.tail.tail.tail.box.c0
  have br_c1 := HK1.out.tail.tail.tail.tail.box.c1
  have br_f0 := HK1.out.tail.tail.tail.tail.box.f0
  have br_f1 := HK1.out.tail.tail.tail.tail.box.f1
  go_wp2_with fail
  refine bodyPost_ret (v := .tuple #[.agg #[.bool false, .slice none 0 0], .int .i64 2]) (by simp [results, Try.results33, go_sem, br_c0, br_c1]) rfl ?_
  exact ⟨rfl, below_set2 HB1.out (by omega) _ _⟩

set_option maxHeartbeats 4000000 in
theorem wexact_any {m k : Bool} {ao bo : Option Addr} {n cap l cb : Nat} {x y : Int} {w : World} (hx : Nx w m ao n cap x) (hy : Nx w k bo l cb y) (h0 : y ≠ 0) (hr : x.tmod y = 0) :
    Calls Try.prog 33 #[.agg #[.bool m, .slice ao n cap], .agg #[.bool k, .slice bo l cb]] w (NewIE w (x.tdiv y) 0) := by
  obtain ⟨⟨xs, hs, hz⟩, hle⟩ := hx
  obtain ⟨⟨ys, ht, hz2⟩, hle2⟩ := hy
  have H0 : Hid (val ys ≠ 0) := fun h => h0 ((zOf_eq_zero hz2).2 h)
  have HR : Hid (val xs % val ys = 0) := by
    have h1 := zOf_mod m k (val xs) (val ys)
    rw [hz, hz2, hr] at h1
    exact (zOf_eq_zero h1).1 rfl
  have HQ : Hid (zOf (m != k) (val xs / val ys) = x.tdiv y) := by rw [Hid, zOf_div, hz, hz2]
  clear h0 hr hz hz2
  go_enter Try.func33, Try.ntmps33
  go_upto_region 1 with (fail)
  refine wp_world (fun W hW => ?_)
  have HB0 : Hid (Below w.heap.size w W) := by rw [hW]; exact step_alloc (step_alloc (below_alloc _ _))
  have hbx_bx : Box W (w.heap.size) m ao n cap := by rw [hW]; exact ((Box.new _ _ _ _ _ _ _ (by simp)).below (below_alloc _ _)).below (below_alloc _ _)
  have hbx_by : Box W (w.heap.size + 1) k bo l cb := by rw [hW]; exact (Box.new _ _ _ _ _ _ _ (by simp)).below (below_alloc _ _)
  have hbx_br : Box W (w.heap.size + 2) false none 0 0 := by rw [hW]; exact Box.new _ _ _ _ _ _ _ (by simp)
  have HK0 := Lib.hid (Live.add_sl (hs.below HB0.out) (Live.add_sl (ht.below HB0.out) (Live.add_box hbx_bx (Live.add_box hbx_by (Live.add_box hbx_br (Live.nil W))))))
  clear hW hbx_bx hbx_by hbx_br
  have bx_c0 := HK0.out.tail.tail.box.c0
  have bx_c1 := HK0.out.tail.tail.box.c1
  have bx_f0 := HK0.out.tail.tail.box.f0
  have bx_f1 := HK0.out.tail.tail.box.f1
  have by_c0 := HK0.out.tail.tail.tail.box.c0
  have by_c1 := HK0.out.tail.tail.tail.box.c1
  have by_f0 := HK0.out.tail.tail.tail.box.f0
  have by_f1 := HK0.out.tail.tail.tail.box.f1
  have br_c0 := HK0.out.tail.tail.tail.tail.box.c0
  have br_c1 := HK0.out.tail.tail.tail.tail.box.c1
  have br_f0 := HK0.out.tail.tail.tail.tail.box.f0
  have br_f1 := HK0.out.tail.tail.tail.tail.box.f1
  go_wp2_with fail
  refine (exact_any _ _ _ _ _ _ _ _ _ HK0.out.sl HK0.out.tail.sl H0.out (by omega) HR.out).mono ?_
  rintro e w1 ⟨q0, qn, qc, rfl, hQ, hB⟩
  have HK1 := Lib.hid (Live.add_sl hQ (HK0.out.below hB))
  have HB1 := Lib.hid (Below.steps HB0.out hB)
  clear bx_c0 bx_c1 bx_f0 bx_f1 by_c0 by_c1 by_f0 by_f1 br_c0 br_c1 br_f0 br_f1
  clear HK0 HB0 hQ hB
  have bx_c0 := HK1.out.tail.tail.tail.box.c0
  have bx_c1 := HK1.out.tail.tail.tail.box.c1
  have bx_f0 := HK1.out.tail.tail.tail.box.f0
  have bx_f1 := HK1.out.tail.tail.tail.box.f1
  have by_c0 := HK1.out.tail.tail.tail.tail.box.c0
  have by_c1 := HK1.out.tail.tail.tail.tail.box.c1
  have by_f0 := HK1.out.tail.tail.tail.tail.box.f0
  have by_f1 := HK1.out.tail.tail.tail.tail.box.f1
  have br_c0 := HK1.out.tail.tail.tail.tail.tail.box.c0
  have br_c1 := HK1.out.tail.tail.tail.tail.tail.box.c1
  have br_f0 := HK1.out.tail.tail.tail.tail.tail.box.f0
  have br_f1 := HK1.out.tail.tail.tail.tail.tail.box.f1
  go_wp2_with fail
  refine (signed_any _ _).mono ?_
  rintro e w2 ⟨b, rfl, hb1, hb2, hbc, hB⟩
  have HK2 := Lib.hid (Live.add_fn hb2 hbc (HK1.out.below hB))
  have HB2 := Lib.hid (Below.steps HB1.out hB)
  clear bx_c0 bx_c1 bx_f0 bx_f1 by_c0 by_c1 by_f0 by_f1 br_c0 br_c1 br_f0 br_f1
  clear HK1 HB1 hb1 hbc hB
  have bx_c0 := HK2.out.tail.tail.tail.tail.box.c0
  have bx_c1 := HK2.out.tail.tail.tail.tail.box.c1
  have bx_f0 := HK2.out.tail.tail.tail.tail.box.f0
  have bx_f1 := HK2.out.tail.tail.tail.tail.box.f1
  have by_c0 := HK2.out.tail.tail.tail.tail.tail.box.c0
  have by_c1 := HK2.out.tail.tail.tail.tail.tail.box.c1
  have by_f0 := HK2.out.tail.tail.tail.tail.tail.box.f0
  have by_f1 := HK2.out.tail.tail.tail.tail.tail.box.f1
  have br_c0 := HK2.out.tail.tail.tail.tail.tail.tail.box.c0
  have br_c1 := HK2.out.tail.tail.tail.tail.tail.tail.box.c1
  have br_f0 := HK2.out.tail.tail.tail.tail.tail.tail.box.f0
  have br_f1 := HK2.out.tail.tail.tail.tail.tail.tail.box.f1
  go_wp2_with fail
  refine (close_any _ _ _ _ _ _ _ HK2.out.fn HK2.out.tail.sl).mono ?_
  rintro e w3 ⟨rm, r0, rn, rc, rfl, hX, hB⟩
  have HK3 := Lib.hid (HK2.out.below hB)
  have HB3 := Lib.hid (Below.steps HB2.out hB)
  clear bx_c0 bx_c1 bx_f0 bx_f1 by_c0 by_c1 by_f0 by_f1 br_c0 br_c1 br_f0 br_f1
  clear HK2 HB2 hB
  have bx_c0 := HK3.out.tail.tail.tail.tail.box.c0
  have bx_c1 := HK3.out.tail.tail.tail.tail.box.c1
  have bx_f0 := HK3.out.tail.tail.tail.tail.box.f0
  have bx_f1 := HK3.out.tail.tail.tail.tail.box.f1
  have by_c0 := HK3.out.tail.tail.tail.tail.tail.box.c0
  have by_c1 := HK3.out.tail.tail.tail.tail.tail.box.c1
  have by_f0 := HK3.out.tail.tail.tail.tail.tail.box.f0
  have by_f1 := HK3.out.tail.tail.tail.tail.tail.box.f1
  have br_c0 := HK3.out.tail.tail.tail.tail.tail.tail.box.c0
  have br_c1 := HK3.out.tail.tail.tail.tail.tail.tail.box.c1
  have br_f0 := HK3.out.tail.tail.tail.tail.tail.tail.box.f0
  have br_f1 := HK3.out.tail.tail.tail.tail.tail.tail.box.f1
  go_wp2_with fail
  refine bodyPost_ret (v := .tuple #[.agg #[.bool rm, .slice r0 rn rc], .int .i64 0]) (by simp [results, Try.results33, go_sem, br_c0, br_c1]) rfl ?_
  exact ⟨_, _, _, _, rfl, HQ.out ▸ hX.set2 HK3.out.tail.tail.tail.tail.tail.tail.box _ _, below_set2 HB3.out (by omega) _ _⟩

end Go.Proofs.Ytponiigpmjnffaa

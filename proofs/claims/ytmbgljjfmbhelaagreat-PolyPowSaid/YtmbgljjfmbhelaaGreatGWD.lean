/- WDiv, WGcd -/
import Derived.Test.YtmbgljjfmbhelaaGreatGWA
import Derived.Test.YtmbgljjfmbhelaaGreatGDiv
import Derived.Deep.LoopGhost
set_option maxHeartbeats 40000000
set_option maxRecDepth 100000
namespace Go.Proofs.YtmbgljjfmbhelaaGreat
open Lib (hid)
open Go.RowKit
def NewIE (w : World) (q : Int) (er : Int) (e : Ending) (w' : World) : Prop :=
 ∃ m ao n cap, e = .returned (.tuple #[.agg #[.bool m, .slice ao n cap], .int .i64 er]) ∧ Cn w' m ao n cap q ∧ Below w.heap.size w w'
theorem zOf_div (m k : Bool) (a b : Nat) : zOf (m != k) (a / b) = (zOf m a).tdiv (zOf k b) := by cases m <;> cases k <;> simp [zOf, Int.tdiv_neg, Int.neg_tdiv]
theorem zOf_mod (m k : Bool) (a b : Nat) : zOf m (a % b) = (zOf m a).tmod (zOf k b) := by cases m <;> cases k <;> simp [zOf, Int.tmod_neg, Int.neg_tmod, Int.tmod_eq_emod_of_nonneg]
theorem zz235 {m : Bool} {v : Nat} {x : Int} (h : zOf m v = x) : x = 0 ↔ v = 0 := by
 have := zOf_abs m v
 rw [h] at this
 omega
theorem wexact_zero {m k : Bool} {ao bo : Option Addr} {n cap l cb : Nat} {x y : Int} {w : World} (hx : Nx w m ao n cap x) (hy : Nx w k bo l cb y) (h0 : y = 0) :
  Calls Tryz.prog 106 #[.agg #[.bool m, .slice ao n cap], .agg #[.bool k, .slice bo l cb]] w (RetB (.tuple #[.agg #[.bool false, .slice none 0 0], .int .i64 7]) w) := by
 obtain ⟨⟨xs, hs, hz⟩, hle⟩ := hx; obtain ⟨⟨ys, ht, hz2⟩, hle2⟩ := hy
 have H0 : Hid (val ys = 0) := (zz235 hz2).1 h0
 clear h0 hz hz2
 go_enter Tryz.func106, Tryz.ntmps106
 go_upto_region 1 with (fail)
 refine zz232 (fun W hW => ?_)
 have HB0 : Hid (Below w.heap.size w W) := by rw [hW]; exact zz174 (zz174 (zz13 _ _))
 have hbx_bx : Box W (w.heap.size) m ao n cap := by rw [hW]; exact ((Box.new _ _ _ _ _ _ _ (by simp)).below (zz13 _ _)).below (zz13 _ _)
 have hbx_by : Box W (w.heap.size + 1) k bo l cb := by rw [hW]; exact (Box.new _ _ _ _ _ _ _ (by simp)).below (zz13 _ _)
 have hbx_br : Box W (w.heap.size + 2) false none 0 0 := by rw [hW]; exact Box.new _ _ _ _ _ _ _ (by simp)
 have HK0 := hid (Live.add_sl (hs.below HB0.out) (Live.add_sl (ht.below HB0.out) (Live.add_box hbx_bx (Live.add_box hbx_by (Live.add_box hbx_br (Live.nil W)))))); clear hW hbx_bx hbx_by hbx_br; have bx_c0 := HK0.out.tl.tl.box.c0; have bx_c1 := HK0.out.tl.tl.box.c1; have bx_f0 := HK0.out.tl.tl.box.f0; have bx_f1 := HK0.out.tl.tl.box.f1; have by_c0 := HK0.out.tl.tl.tl.box.c0; have by_c1 := HK0.out.tl.tl.tl.box.c1; have by_f0 := HK0.out.tl.tl.tl.box.f0; have by_f1 := HK0.out.tl.tl.tl.box.f1; have br_c0 := HK0.out.tl.tl.tl.tl.box.c0
 have br_c1 := HK0.out.tl.tl.tl.tl.box.c1; have br_f0 := HK0.out.tl.tl.tl.tl.box.f0; have br_f1 := HK0.out.tl.tl.tl.tl.box.f1; go_wp2_with fail; refine (exact_zero _ _ _ _ _ _ _ _ _ HK0.out.sl HK0.out.tl.sl H0.out).mono ?_; rintro e w1 ⟨rfl, hB⟩; have HK1 := hid (HK0.out.below hB); have HB1 := hid (Below.steps HB0.out hB); clear bx_c0 bx_c1 bx_f0 bx_f1 by_c0 by_c1 by_f0 by_f1 br_c0 br_c1 br_f0 br_f1; clear HK0 HB0 hB; have bx_c0 := HK1.out.tl.tl.box.c0; have bx_c1 := HK1.out.tl.tl.box.c1; have bx_f0 := HK1.out.tl.tl.box.f0
 have bx_f1 := HK1.out.tl.tl.box.f1; have by_c0 := HK1.out.tl.tl.tl.box.c0; have by_c1 := HK1.out.tl.tl.tl.box.c1; have by_f0 := HK1.out.tl.tl.tl.box.f0; have by_f1 := HK1.out.tl.tl.tl.box.f1; have br_c0 := HK1.out.tl.tl.tl.tl.box.c0; have br_c1 := HK1.out.tl.tl.tl.tl.box.c1; have br_f0 := HK1.out.tl.tl.tl.tl.box.f0; have br_f1 := HK1.out.tl.tl.tl.tl.box.f1; go_wp2_with fail
 refine bodyPost_ret (v := .tuple #[.agg #[.bool false, .slice none 0 0], .int .i64 7]) (by simp [results, Tryz.results106, go_sem, br_c0, br_c1]) rfl ?_
 exact ⟨rfl, zz15 HB1.out (by omega) _ _⟩
theorem wexact_rest {m k : Bool} {ao bo : Option Addr} {n cap l cb : Nat} {x y : Int} {w : World} (hx : Nx w m ao n cap x) (hy : Nx w k bo l cb y) (h0 : y ≠ 0) (hr : x.tmod y ≠ 0) :
  Calls Tryz.prog 106 #[.agg #[.bool m, .slice ao n cap], .agg #[.bool k, .slice bo l cb]] w (RetB (.tuple #[.agg #[.bool false, .slice none 0 0], .int .i64 2]) w) := by
 obtain ⟨⟨xs, hs, hz⟩, hle⟩ := hx; obtain ⟨⟨ys, ht, hz2⟩, hle2⟩ := hy
 have H0 : Hid (val ys ≠ 0) := fun h => h0 ((zz235 hz2).2 h)
 have HR : Hid (val xs % val ys ≠ 0) := fun h => hr (by rw [← hz, ← hz2, ← zOf_mod m k, h, zz236])
 clear h0 hr hz hz2
 go_enter Tryz.func106, Tryz.ntmps106
 go_upto_region 1 with (fail)
 refine zz232 (fun W hW => ?_)
 have HB0 : Hid (Below w.heap.size w W) := by rw [hW]; exact zz174 (zz174 (zz13 _ _))
 have hbx_bx : Box W (w.heap.size) m ao n cap := by rw [hW]; exact ((Box.new _ _ _ _ _ _ _ (by simp)).below (zz13 _ _)).below (zz13 _ _)
 have hbx_by : Box W (w.heap.size + 1) k bo l cb := by rw [hW]; exact (Box.new _ _ _ _ _ _ _ (by simp)).below (zz13 _ _)
 have hbx_br : Box W (w.heap.size + 2) false none 0 0 := by rw [hW]; exact Box.new _ _ _ _ _ _ _ (by simp)
 have HK0 := hid (Live.add_sl (hs.below HB0.out) (Live.add_sl (ht.below HB0.out) (Live.add_box hbx_bx (Live.add_box hbx_by (Live.add_box hbx_br (Live.nil W)))))); clear hW hbx_bx hbx_by hbx_br; have bx_c0 := HK0.out.tl.tl.box.c0; have bx_c1 := HK0.out.tl.tl.box.c1; have bx_f0 := HK0.out.tl.tl.box.f0; have bx_f1 := HK0.out.tl.tl.box.f1; have by_c0 := HK0.out.tl.tl.tl.box.c0; have by_c1 := HK0.out.tl.tl.tl.box.c1; have by_f0 := HK0.out.tl.tl.tl.box.f0; have by_f1 := HK0.out.tl.tl.tl.box.f1; have br_c0 := HK0.out.tl.tl.tl.tl.box.c0
 have br_c1 := HK0.out.tl.tl.tl.tl.box.c1; have br_f0 := HK0.out.tl.tl.tl.tl.box.f0; have br_f1 := HK0.out.tl.tl.tl.tl.box.f1; go_wp2_with fail
 refine (exact_rest _ _ _ _ _ _ _ _ _ HK0.out.sl HK0.out.tl.sl H0.out (by omega) HR.out).mono ?_
 rintro e w1 ⟨rfl, hB⟩; have HK1 := hid (HK0.out.below hB); have HB1 := hid (Below.steps HB0.out hB); clear bx_c0 bx_c1 bx_f0 bx_f1 by_c0 by_c1 by_f0 by_f1 br_c0 br_c1 br_f0 br_f1; clear HK0 HB0 hB; have bx_c0 := HK1.out.tl.tl.box.c0; have bx_c1 := HK1.out.tl.tl.box.c1; have bx_f0 := HK1.out.tl.tl.box.f0; have bx_f1 := HK1.out.tl.tl.box.f1; have by_c0 := HK1.out.tl.tl.tl.box.c0; have by_c1 := HK1.out.tl.tl.tl.box.c1; have by_f0 := HK1.out.tl.tl.tl.box.f0; have by_f1 := HK1.out.tl.tl.tl.box.f1; have br_c0 := HK1.out.tl.tl.tl.tl.box.c0
 have br_c1 := HK1.out.tl.tl.tl.tl.box.c1; have br_f0 := HK1.out.tl.tl.tl.tl.box.f0; have br_f1 := HK1.out.tl.tl.tl.tl.box.f1; go_wp2_with fail
 refine bodyPost_ret (v := .tuple #[.agg #[.bool false, .slice none 0 0], .int .i64 2]) (by simp [results, Tryz.results106, go_sem, br_c0, br_c1]) rfl ?_
 exact ⟨rfl, zz15 HB1.out (by omega) _ _⟩
theorem wexact_any {m k : Bool} {ao bo : Option Addr} {n cap l cb : Nat} {x y : Int} {w : World} (hx : Nx w m ao n cap x) (hy : Nx w k bo l cb y) (h0 : y ≠ 0) (hr : x.tmod y = 0) :
  Calls Tryz.prog 106 #[.agg #[.bool m, .slice ao n cap], .agg #[.bool k, .slice bo l cb]] w (NewIE w (x.tdiv y) 0) := by
 obtain ⟨⟨xs, hs, hz⟩, hle⟩ := hx; obtain ⟨⟨ys, ht, hz2⟩, hle2⟩ := hy
 have H0 : Hid (val ys ≠ 0) := fun h => h0 ((zz235 hz2).2 h)
 have HR : Hid (val xs % val ys = 0) := by
  have h1 := zOf_mod m k (val xs) (val ys); rw [hz, hz2, hr] at h1
  exact (zz235 h1).1 rfl
 have HQ : Hid (zOf (m != k) (val xs / val ys) = x.tdiv y) := by rw [Hid, zOf_div, hz, hz2]
 clear h0 hr hz hz2
 go_enter Tryz.func106, Tryz.ntmps106
 go_upto_region 1 with (fail)
 refine zz232 (fun W hW => ?_)
 have HB0 : Hid (Below w.heap.size w W) := by rw [hW]; exact zz174 (zz174 (zz13 _ _))
 have hbx_bx : Box W (w.heap.size) m ao n cap := by rw [hW]; exact ((Box.new _ _ _ _ _ _ _ (by simp)).below (zz13 _ _)).below (zz13 _ _)
 have hbx_by : Box W (w.heap.size + 1) k bo l cb := by rw [hW]; exact (Box.new _ _ _ _ _ _ _ (by simp)).below (zz13 _ _)
 have hbx_br : Box W (w.heap.size + 2) false none 0 0 := by rw [hW]; exact Box.new _ _ _ _ _ _ _ (by simp)
 have HK0 := hid (Live.add_sl (hs.below HB0.out) (Live.add_sl (ht.below HB0.out) (Live.add_box hbx_bx (Live.add_box hbx_by (Live.add_box hbx_br (Live.nil W)))))); clear hW hbx_bx hbx_by hbx_br; have bx_c0 := HK0.out.tl.tl.box.c0; have bx_c1 := HK0.out.tl.tl.box.c1; have bx_f0 := HK0.out.tl.tl.box.f0; have bx_f1 := HK0.out.tl.tl.box.f1; have by_c0 := HK0.out.tl.tl.tl.box.c0; have by_c1 := HK0.out.tl.tl.tl.box.c1; have by_f0 := HK0.out.tl.tl.tl.box.f0; have by_f1 := HK0.out.tl.tl.tl.box.f1; have br_c0 := HK0.out.tl.tl.tl.tl.box.c0
 have br_c1 := HK0.out.tl.tl.tl.tl.box.c1; have br_f0 := HK0.out.tl.tl.tl.tl.box.f0; have br_f1 := HK0.out.tl.tl.tl.tl.box.f1; go_wp2_with fail
 refine (exact_any _ _ _ _ _ _ _ _ _ HK0.out.sl HK0.out.tl.sl H0.out (by omega) HR.out).mono ?_
 rintro e w1 ⟨q0, qn, qc, rfl, hQ, hB⟩; have HK1 := hid (Live.add_sl hQ (HK0.out.below hB)); have HB1 := hid (Below.steps HB0.out hB); clear bx_c0 bx_c1 bx_f0 bx_f1 by_c0 by_c1 by_f0 by_f1 br_c0 br_c1 br_f0 br_f1; clear HK0 HB0 hQ hB; have bx_c0 := HK1.out.tl.tl.tl.box.c0; have bx_c1 := HK1.out.tl.tl.tl.box.c1; have bx_f0 := HK1.out.tl.tl.tl.box.f0; have bx_f1 := HK1.out.tl.tl.tl.box.f1; have by_c0 := HK1.out.tl.tl.tl.tl.box.c0; have by_c1 := HK1.out.tl.tl.tl.tl.box.c1; have by_f0 := HK1.out.tl.tl.tl.tl.box.f0
 have by_f1 := HK1.out.tl.tl.tl.tl.box.f1; have br_c0 := HK1.out.tl.tl.tl.tl.tl.box.c0; have br_c1 := HK1.out.tl.tl.tl.tl.tl.box.c1; have br_f0 := HK1.out.tl.tl.tl.tl.tl.box.f0; have br_f1 := HK1.out.tl.tl.tl.tl.tl.box.f1; go_wp2_with fail; refine (zz169 _ _).mono ?_; rintro e w2 ⟨b, rfl, hb1, hb2, hbc, hB⟩; have HK2 := hid (Live.add_fn hb2 hbc (HK1.out.below hB)); have HB2 := hid (Below.steps HB1.out hB); clear bx_c0 bx_c1 bx_f0 bx_f1 by_c0 by_c1 by_f0 by_f1 br_c0 br_c1 br_f0 br_f1; clear HK1 HB1 hb1 hbc hB
 have bx_c0 := HK2.out.tl.tl.tl.tl.box.c0; have bx_c1 := HK2.out.tl.tl.tl.tl.box.c1; have bx_f0 := HK2.out.tl.tl.tl.tl.box.f0; have bx_f1 := HK2.out.tl.tl.tl.tl.box.f1; have by_c0 := HK2.out.tl.tl.tl.tl.tl.box.c0; have by_c1 := HK2.out.tl.tl.tl.tl.tl.box.c1; have by_f0 := HK2.out.tl.tl.tl.tl.tl.box.f0; have by_f1 := HK2.out.tl.tl.tl.tl.tl.box.f1; have br_c0 := HK2.out.tl.tl.tl.tl.tl.tl.box.c0; have br_c1 := HK2.out.tl.tl.tl.tl.tl.tl.box.c1; have br_f0 := HK2.out.tl.tl.tl.tl.tl.tl.box.f0; have br_f1 := HK2.out.tl.tl.tl.tl.tl.tl.box.f1
 go_wp2_with fail; refine (zz33 _ _ _ _ _ _ _ HK2.out.fn HK2.out.tl.sl).mono ?_
 rintro e w3 ⟨rm, r0, rn, rc, rfl, hX, hB⟩; have HK3 := hid (HK2.out.below hB); have HB3 := hid (Below.steps HB2.out hB); clear bx_c0 bx_c1 bx_f0 bx_f1 by_c0 by_c1 by_f0 by_f1 br_c0 br_c1 br_f0 br_f1; clear HK2 HB2 hB; have bx_c0 := HK3.out.tl.tl.tl.tl.box.c0; have bx_c1 := HK3.out.tl.tl.tl.tl.box.c1; have bx_f0 := HK3.out.tl.tl.tl.tl.box.f0; have bx_f1 := HK3.out.tl.tl.tl.tl.box.f1; have by_c0 := HK3.out.tl.tl.tl.tl.tl.box.c0; have by_c1 := HK3.out.tl.tl.tl.tl.tl.box.c1; have by_f0 := HK3.out.tl.tl.tl.tl.tl.box.f0
 have by_f1 := HK3.out.tl.tl.tl.tl.tl.box.f1; have br_c0 := HK3.out.tl.tl.tl.tl.tl.tl.box.c0; have br_c1 := HK3.out.tl.tl.tl.tl.tl.tl.box.c1; have br_f0 := HK3.out.tl.tl.tl.tl.tl.tl.box.f0; have br_f1 := HK3.out.tl.tl.tl.tl.tl.tl.box.f1; go_wp2_with fail
 refine bodyPost_ret (v := .tuple #[.agg #[.bool rm, .slice r0 rn rc], .int .i64 0]) (by simp [results, Tryz.results106, go_sem, br_c0, br_c1]) rfl ?_
 exact ⟨_, _, _, _, rfl, HQ.out ▸ hX.set2 HK3.out.tl.tl.tl.tl.tl.tl.box _ _, zz15 HB3.out (by omega) _ _⟩
open Lib (hid)
theorem commonword_any (a b : Nat) (w : World) (ha : a < 18446744073709551616) (hb : b < 18446744073709551616) :
  Calls Tryz.prog 198 #[.int .u64 (a : Int), .int .u64 (b : Int)] w (RetDrew (.int .u64 ((a.gcd b : Nat) : Int)) w) := by
 go_enter Tryz.func198, Tryz.ntmps198
 go_wp2_with fail
 go_loopg [0, 1] b (fun g x y wr => ∃ u v k : Nat, x = .int .u64 ((u : Nat) : Int) ∧ y = .int .u64 ((v : Nat) : Int) ∧ u < 18446744073709551616 ∧ v < 18446744073709551616 ∧ Hid (v = g) ∧ Hid (u.gcd v = a.gcd b) ∧ wr = w.drewN k)
 case atStart => exact ⟨a, b, 0, rfl, rfl, ha, hb, rfl, rfl, rfl⟩
 case round =>
  obtain ⟨u, v, k, rfl, rfl, hu, hv, HVG, HG, rfl⟩ := hrel
  by_cases h0 : 0 < v
  ·have hi : (0 : Int) < ((v : Nat) : Int) := by omega
   have hne : (((v : Nat) : Int) == 0) = false := by simp; omega
   go_wp2
   go_quiet (fail)
   go_wp2
   have HM : Hid (u % v < gk) := by rw [Hid, ← HVG.out]; exact Nat.mod_lt u h0
   go_roundg (u % v)
   case rel => exact ⟨v, u % v, k + nq, rfl, by go_num, hv, by have := Nat.mod_lt u h0; omega, rfl, by rw [Hid, Nat.gcd_comm v, ← Nat.gcd_rec, Nat.gcd_comm]; exact HG.out, by rw [World.drewN_drewN]⟩
   case measure => exact HM.out
  ·obtain rfl : v = 0 := by omega
   go_wp2_with fail
   go_ret
   exact ⟨by rw [← HG.out, Nat.gcd_zero_right]; rfl, k, rfl⟩
theorem zz65 {u v g : Nat} (h : u.gcd v = g) : v.gcd (u % v) = g := by rw [Nat.gcd_comm v, ← Nat.gcd_rec, Nat.gcd_comm]; exact h
theorem zz156 {xs ys : List Nat} {l k : Nat} {w : World} {bo zo : Option Addr} {cb cz : Nat} (h : Sl w bo l cb ys) (hz : Sl w zo k cz (limbs (val xs % val ys))) (h0 : val ys ≠ 0) : k ≤ l := by
 rw [← hz.len]
 exact zz102 (Nat.lt_trans (Nat.mod_lt _ (by omega)) (val_small l h.wf h.len (Nat.le_refl _)))
theorem common_any (a0 b0 : Option Addr) (la ca lb cb : Nat) (xs0 ys0 : List Nat) (w : World) (ha : Sl w a0 la ca xs0) (hb : Sl w b0 lb cb ys0) (h1 : la ≤ 1000000) (h2 : lb ≤ 1000000) :
  Calls Tryz.prog 161 #[.slice a0 la ca, .slice b0 lb cb] w (NewSl w (limbs ((val xs0).gcd (val ys0)))) := by
 obtain ⟨G, hG⟩ : ∃ G, G = (val xs0).gcd (val ys0) := ⟨_, rfl⟩; rw [← hG]; have HG0 := hid hG.symm; clear hG; have HA0 := hid ha; have HB0 := hid hb; clear ha hb
 go_enter Tryz.func161, Tryz.ntmps161
 go_wp2_with fail
 go_loopg [0, 1] (val ys0) (fun g x y wr => ∃ (ao : Option Addr) (n cap : Nat) (bo : Option Addr) (l cc : Nat) (xs ys : List Nat), x = .slice ao n cap ∧ y = .slice bo l cc ∧ n ≤ 1000000 ∧ l ≤ 1000000 ∧ Hid (Sl wr ao n cap xs ∧ Sl wr bo l cc ys ∧ (val xs).gcd (val ys) = G ∧ val ys = g ∧ Below w.heap.size w wr))
 case atStart => exact ⟨_, _, _, _, _, _, xs0, ys0, rfl, rfl, h1, h2, HA0.out, HB0.out, HG0.out, rfl, Below.refl _ _⟩
 case round =>
  clear HG0 HA0 HB0; obtain ⟨ao, n, cap, bo, l, cc, xs, ys, rfl, rfl, hn, hl, HI⟩ := hrel; obtain ⟨wo, rfl⟩ : ∃ wo : World, wo = wr := ⟨_, rfl⟩
  by_cases h0 : val ys = 0
  ·have HE : Hid (val xs = G) := by rw [Hid, ← HI.out.2.2.1, h0, Nat.gcd_zero_right]
   have H0 := hid h0; clear h0; go_wp2_with fail
   refine (bits_is 0 _ _ _ _ _ HI.out.2.1 (by rw [H0.out]; rfl)).mono ?_
   rintro e w' ⟨rfl, rfl⟩; go_wp2_with fail; refine (zz201 _ _ _ _ _ HI.out.1).mono ?_; rintro e w1 ⟨t0, tn, tc, rfl, hT, hB⟩; rw [HE.out] at hT; have HT := hid hT; have HB := hid hB; clear hT hB; go_wp2_with fail
   go_ret
   exact ⟨_, _, _, rfl, HT.out.mono HI.out.2.2.2.2.size, Below.steps HI.out.2.2.2.2 HB.out⟩
  ·obtain ⟨k, hk⟩ : ∃ k, k = nbits (val ys) := ⟨_, rfl⟩
   have hk0 : 0 < k := by
    rw [hk]; rcases Nat.eq_zero_or_pos (nbits (val ys)) with h | h
    ·exact absurd (nbits_eq_zero.1 h) h0
    ·exact h
   have hk1 : (0 : Int) < ((k : Nat) : Int) := by omega
   have HN := hid hk.symm; have H0 := hid h0; clear hk h0; obtain ⟨u, hu⟩ : ∃ u, u = val xs := ⟨_, rfl⟩; obtain ⟨v, hv⟩ : ∃ v, v = val ys := ⟨_, rfl⟩; have HU := hid hu.symm; have HV := hid hv.symm
   by_cases hsx : u < 18446744073709551616
   ·have HSX : Hid (nl xs ≤ 2) := zz123 (by rw [← hu]; exact hsx)
    by_cases hsy : v < 18446744073709551616
    ·have HSY : Hid (nl ys ≤ 2) := zz123 (by rw [← hv]; exact hsy)
     have HSU := hid hsx; have HSV := hid hsy
     have HG2 : Hid (u.gcd v = G) := by rw [Hid, hu, hv]; exact HI.out.2.2.1
     obtain ⟨gg, hgg⟩ : ∃ gg, gg = u.gcd v := ⟨_, rfl⟩
     have hgl : gg < 18446744073709551616 := by
      have : 0 < v := by rw [hv]; have := H0.out; omega
      have := Nat.le_of_dvd this (Nat.gcd_dvd_right u v)
      omega
     have HGG := hid hgg.symm; have hcw := commonword_any u v wo hsx hsy; rw [← hgg] at hcw; have HCW := hid hcw; clear hu hv hgg hcw; go_wp2_with fail; refine (bits_is k _ _ _ _ _ HI.out.2.1 HN.out).mono ?_; rintro e w' ⟨rfl, rfl⟩; go_wp2_with fail; refine (word_is u _ _ _ _ _ HI.out.1 HSX.out HU.out).mono ?_; rintro e w' ⟨rfl, rfl⟩; go_wp2_with fail; refine (word_is v _ _ _ _ _ HI.out.2.1 HSY.out HV.out).mono ?_; rintro e w' ⟨rfl, rfl⟩; go_wp2_with fail
     refine HCW.out.mono ?_
     rintro e w1 ⟨rfl, q, rfl⟩; go_wp2_with fail
     refine (zz172 gg _ (by omega)).mono ?_
     rintro e w2 ⟨t0, tn, tc, rfl, hT, hB⟩
     have HBQ : Hid (Below wo.heap.size wo (wo.drewN q)) := (show RetDrew (.bool true) wo (.returned (.bool true)) (wo.drewN q) from ⟨rfl, q, rfl⟩).b.2
     have HT := hid hT; have HB := hid hB; clear hT hB; go_wp2_with fail
     go_ret
     exact ⟨_, _, _, rfl, by rw [← HG2.out, HGG.out]; exact HT.out.mono (Nat.le_trans HI.out.2.2.2.2.size HBQ.out.size), Below.steps HI.out.2.2.2.2 (Below.steps HBQ.out HB.out)⟩
    ·have HSY : Hid (2 < nl ys) := nl_long HI.out.2.1.wf (by rw [← hv]; omega)
     clear hu hv; go_wp2_with fail; refine (bits_is k _ _ _ _ _ HI.out.2.1 HN.out).mono ?_; rintro e w' ⟨rfl, rfl⟩; go_wp2_with fail; refine (word_is u _ _ _ _ _ HI.out.1 HSX.out HU.out).mono ?_; rintro e w' ⟨rfl, rfl⟩; go_wp2_with fail; refine (zz221 _ _ _ _ _ HI.out.2.1 HSY.out).mono ?_; rintro e w' ⟨rfl, rfl⟩; go_wp2_with fail
     refine (zz42 _ _ _ _ _ _ _ _ _ HI.out.1 HI.out.2.1 H0.out (by omega)).mono ?_
     rintro e w1 ⟨q0, qn, qc, r0, rn, rc, rfl, hQ, hR, hB⟩
     have hrn : rn ≤ 1000000 := Nat.le_trans (zz156 (HI.out.2.1.below hB) hR H0.out) hl
     have HJ : Hid (Sl w1 bo l cc ys ∧ Sl w1 r0 rn rc (limbs (val xs % val ys)) ∧ (val ys).gcd (val (limbs (val xs % val ys))) = G ∧ val (limbs (val xs % val ys)) = val xs % val ys ∧ Below w.heap.size w w1) :=
      ⟨HI.out.2.1.below hB, hR, by rw [zz209]; exact zz65 HI.out.2.2.1, zz209 _, Below.steps HI.out.2.2.2.2 hB⟩
     have HM : Hid (val xs % val ys < gk) := by rw [Hid, ← HI.out.2.2.2.1]; exact Nat.mod_lt _ (by have := H0.out; omega)
     clear hQ hR hB; go_wp2_with fail
     go_roundg (val xs % val ys)
     case measure => exact HM.out
     case rel => exact ⟨_, _, _, _, _, _, ys, _, rfl, rfl, hl, hrn, HJ.out⟩
   ·have HSX : Hid (2 < nl xs) := nl_long HI.out.1.wf (by rw [← hu]; omega)
    by_cases hsy : v < 18446744073709551616
    ·have HSY : Hid (nl ys ≤ 2) := zz123 (by rw [← hv]; exact hsy)
     clear hu hv; go_wp2_with fail; refine (bits_is k _ _ _ _ _ HI.out.2.1 HN.out).mono ?_; rintro e w' ⟨rfl, rfl⟩; go_wp2_with fail; refine (zz221 _ _ _ _ _ HI.out.1 HSX.out).mono ?_; rintro e w' ⟨rfl, rfl⟩; go_wp2_with fail; refine (word_is v _ _ _ _ _ HI.out.2.1 HSY.out HV.out).mono ?_; rintro e w' ⟨rfl, rfl⟩; go_wp2_with fail
     refine (zz42 _ _ _ _ _ _ _ _ _ HI.out.1 HI.out.2.1 H0.out (by omega)).mono ?_
     rintro e w1 ⟨q0, qn, qc, r0, rn, rc, rfl, hQ, hR, hB⟩
     have hrn : rn ≤ 1000000 := Nat.le_trans (zz156 (HI.out.2.1.below hB) hR H0.out) hl
     have HJ : Hid (Sl w1 bo l cc ys ∧ Sl w1 r0 rn rc (limbs (val xs % val ys)) ∧ (val ys).gcd (val (limbs (val xs % val ys))) = G ∧ val (limbs (val xs % val ys)) = val xs % val ys ∧ Below w.heap.size w w1) :=
      ⟨HI.out.2.1.below hB, hR, by rw [zz209]; exact zz65 HI.out.2.2.1, zz209 _, Below.steps HI.out.2.2.2.2 hB⟩
     have HM : Hid (val xs % val ys < gk) := by rw [Hid, ← HI.out.2.2.2.1]; exact Nat.mod_lt _ (by have := H0.out; omega)
     clear hQ hR hB; go_wp2_with fail
     go_roundg (val xs % val ys)
     case measure => exact HM.out
     case rel => exact ⟨_, _, _, _, _, _, ys, _, rfl, rfl, hl, hrn, HJ.out⟩
    ·have HSY : Hid (2 < nl ys) := nl_long HI.out.2.1.wf (by rw [← hv]; omega)
     clear hu hv; go_wp2_with fail; refine (bits_is k _ _ _ _ _ HI.out.2.1 HN.out).mono ?_; rintro e w' ⟨rfl, rfl⟩; go_wp2_with fail; refine (zz221 _ _ _ _ _ HI.out.1 HSX.out).mono ?_; rintro e w' ⟨rfl, rfl⟩; go_wp2_with fail; refine (zz221 _ _ _ _ _ HI.out.2.1 HSY.out).mono ?_; rintro e w' ⟨rfl, rfl⟩; go_wp2_with fail
     refine (zz42 _ _ _ _ _ _ _ _ _ HI.out.1 HI.out.2.1 H0.out (by omega)).mono ?_
     rintro e w1 ⟨q0, qn, qc, r0, rn, rc, rfl, hQ, hR, hB⟩
     have hrn : rn ≤ 1000000 := Nat.le_trans (zz156 (HI.out.2.1.below hB) hR H0.out) hl
     have HJ : Hid (Sl w1 bo l cc ys ∧ Sl w1 r0 rn rc (limbs (val xs % val ys)) ∧ (val ys).gcd (val (limbs (val xs % val ys))) = G ∧ val (limbs (val xs % val ys)) = val xs % val ys ∧ Below w.heap.size w w1) :=
      ⟨HI.out.2.1.below hB, hR, by rw [zz209]; exact zz65 HI.out.2.2.1, zz209 _, Below.steps HI.out.2.2.2.2 hB⟩
     have HM : Hid (val xs % val ys < gk) := by rw [Hid, ← HI.out.2.2.2.1]; exact Nat.mod_lt _ (by have := H0.out; omega)
     clear hQ hR hB; go_wp2_with fail
     go_roundg (val xs % val ys)
     case measure => exact HM.out
     case rel => exact ⟨_, _, _, _, _, _, ys, _, rfl, rfl, hl, hrn, HJ.out⟩
theorem wgcd_any {m k : Bool} {ao bo : Option Addr} {n cap l cb : Nat} {x y : Int} {w : World} (hx : Nx w m ao n cap x) (hy : Nx w k bo l cb y) :
  Calls Tryz.prog 108 #[.agg #[.bool m, .slice ao n cap], .agg #[.bool k, .slice bo l cb]] w (NewI w ((x.gcd y : Nat) : Int)) := by
 obtain ⟨⟨xs, hs, hz⟩, hle⟩ := hx; obtain ⟨⟨ys, ht, hz2⟩, hle2⟩ := hy
 have HZ : Hid (zOf false ((val xs).gcd (val ys)) = ((x.gcd y : Nat) : Int)) := by
  have h1 := zOf_abs m (val xs); have h2 := zOf_abs k (val ys); rw [hz] at h1; rw [hz2] at h2
  rw [Hid, ← h1, ← h2]; rfl
 clear hz hz2
 go_enter Tryz.func108, Tryz.ntmps108
 go_upto_region 1 with (fail)
 refine zz232 (fun W hW => ?_)
 have HB0 : Hid (Below w.heap.size w W) := by rw [hW]; exact zz174 (zz174 (zz13 _ _))
 have hbx_bx : Box W (w.heap.size) m ao n cap := by rw [hW]; exact ((Box.new _ _ _ _ _ _ _ (by simp)).below (zz13 _ _)).below (zz13 _ _)
 have hbx_by : Box W (w.heap.size + 1) k bo l cb := by rw [hW]; exact (Box.new _ _ _ _ _ _ _ (by simp)).below (zz13 _ _)
 have hbx_br : Box W (w.heap.size + 2) false none 0 0 := by rw [hW]; exact Box.new _ _ _ _ _ _ _ (by simp)
 have HK0 := hid (Live.add_sl (hs.below HB0.out) (Live.add_sl (ht.below HB0.out) (Live.add_box hbx_bx (Live.add_box hbx_by (Live.add_box hbx_br (Live.nil W)))))); clear hW hbx_bx hbx_by hbx_br; have bx_c0 := HK0.out.tl.tl.box.c0; have bx_c1 := HK0.out.tl.tl.box.c1; have bx_f0 := HK0.out.tl.tl.box.f0; have bx_f1 := HK0.out.tl.tl.box.f1; have by_c0 := HK0.out.tl.tl.tl.box.c0; have by_c1 := HK0.out.tl.tl.tl.box.c1; have by_f0 := HK0.out.tl.tl.tl.box.f0; have by_f1 := HK0.out.tl.tl.tl.box.f1; have br_c0 := HK0.out.tl.tl.tl.tl.box.c0
 have br_c1 := HK0.out.tl.tl.tl.tl.box.c1; have br_f0 := HK0.out.tl.tl.tl.tl.box.f0; have br_f1 := HK0.out.tl.tl.tl.tl.box.f1; have HK0d := hid (HK0.out.below ((Below.refl _ _).drew)); have HB0d := hid HB0.out.drew; clear bx_c0 bx_c1 bx_f0 bx_f1 by_c0 by_c1 by_f0 by_f1 br_c0 br_c1 br_f0 br_f1; clear HK0 HB0; have HK0 := hid HK0d.out; have HB0 := hid HB0d.out; clear HK0d HB0d; have bx_c0 := HK0.out.tl.tl.box.c0; have bx_c1 := HK0.out.tl.tl.box.c1; have bx_f0 := HK0.out.tl.tl.box.f0; have bx_f1 := HK0.out.tl.tl.box.f1
 have by_c0 := HK0.out.tl.tl.tl.box.c0; have by_c1 := HK0.out.tl.tl.tl.box.c1; have by_f0 := HK0.out.tl.tl.tl.box.f0; have by_f1 := HK0.out.tl.tl.tl.box.f1; have br_c0 := HK0.out.tl.tl.tl.tl.box.c0; have br_c1 := HK0.out.tl.tl.tl.tl.box.c1; have br_f0 := HK0.out.tl.tl.tl.tl.box.f0; have br_f1 := HK0.out.tl.tl.tl.tl.box.f1
 have tok0 : True := trivial
 have KS0 := hid (And.intro HK0.out.tl.tl.box.c0 (And.intro HK0.out.tl.tl.box.c1 (And.intro HK0.out.tl.tl.tl.box.c0 (HK0.out.tl.tl.tl.box.c1))))
 go_region_held3 (fun w' => w'.cell? ⟨w.heap.size, 0, none⟩ = some (.bool m) ∧ w'.cell? ⟨w.heap.size, 1, none⟩ = some (.slice ao n cap) ∧ w'.cell? ⟨w.heap.size + 1, 0, none⟩ = some (.bool k) ∧ w'.cell? ⟨w.heap.size + 1, 1, none⟩ = some (.slice bo l cb))
  (first | exact KS3.out | exact KS2.out | exact KS1.out | exact KS0.out | exact (And.intro ((zz20 (fun e => by have e2 : w.heap.size = w.heap.size + 2 := e; omega) _ _).trans bx_c0) (And.intro ((zz20 (fun e => by have e2 : w.heap.size = w.heap.size + 2 := e; omega) _ _).trans bx_c1) (And.intro ((zz20 (fun e => by have e2 : w.heap.size + 1 = w.heap.size + 2 := e; omega) _ _).trans by_c0) ((zz20 (fun e => by have e2 : w.heap.size + 1 = w.heap.size + 2 := e; omega) _ _).trans by_c1)))) | go_keep)
  (first
   | (have _t := tok0; clear _t tok0; go_at_call 153; go_must (with_reducible refine (zz169 _ _).mono ?_); rintro e w1 ⟨b_fn, rfl, hb1, hb2, hbc, hB⟩; have HK1 := hid (Live.add_fn hb2 hbc (HK0.out.below hB)); have HB1 := hid (Below.steps HB0.out hB); clear bx_c0 bx_c1 bx_f0 bx_f1 by_c0 by_c1 by_f0 by_f1 br_c0 br_c1 br_f0 br_f1; clear HK0 HB0 hb1 hbc hB; have bx_c0 := HK1.out.tl.tl.tl.box.c0; have bx_c1 := HK1.out.tl.tl.tl.box.c1; have bx_f0 := HK1.out.tl.tl.tl.box.f0; have bx_f1 := HK1.out.tl.tl.tl.box.f1; have by_c0 := HK1.out.tl.tl.tl.tl.box.c0; have by_c1 := HK1.out.tl.tl.tl.tl.box.c1; have by_f0 := HK1.out.tl.tl.tl.tl.box.f0; have by_f1 := HK1.out.tl.tl.tl.tl.box.f1; have br_c0 := HK1.out.tl.tl.tl.tl.tl.box.c0; have br_c1 := HK1.out.tl.tl.tl.tl.tl.box.c1; have br_f0 := HK1.out.tl.tl.tl.tl.tl.box.f0; have br_f1 := HK1.out.tl.tl.tl.tl.tl.box.f1; have KS1 := hid (And.intro HK1.out.tl.tl.tl.box.c0 (And.intro HK1.out.tl.tl.tl.box.c1 (And.intro HK1.out.tl.tl.tl.tl.box.c0 (HK1.out.tl.tl.tl.tl.box.c1)))); have tok1 : True := trivial)
   | (have _t := tok1; clear _t tok1; go_at_call 161; go_must (with_reducible refine (common_any _ _ _ _ _ _ _ _ _ HK1.out.tl.sl HK1.out.tl.tl.sl (by omega) (by omega)).mono ?_); rintro e w2 ⟨t0, tn, tc, rfl, hT, hB⟩; have HK2 := hid (Live.add_sl hT.sl (HK1.out.below hB)); have HB2 := hid (Below.steps HB1.out hB); clear bx_c0 bx_c1 bx_f0 bx_f1 by_c0 by_c1 by_f0 by_f1 br_c0 br_c1 br_f0 br_f1; clear HK1 HB1 hT hB; have bx_c0 := HK2.out.tl.tl.tl.tl.box.c0; have bx_c1 := HK2.out.tl.tl.tl.tl.box.c1; have bx_f0 := HK2.out.tl.tl.tl.tl.box.f0; have bx_f1 := HK2.out.tl.tl.tl.tl.box.f1; have by_c0 := HK2.out.tl.tl.tl.tl.tl.box.c0; have by_c1 := HK2.out.tl.tl.tl.tl.tl.box.c1; have by_f0 := HK2.out.tl.tl.tl.tl.tl.box.f0; have by_f1 := HK2.out.tl.tl.tl.tl.tl.box.f1; have br_c0 := HK2.out.tl.tl.tl.tl.tl.tl.box.c0; have br_c1 := HK2.out.tl.tl.tl.tl.tl.tl.box.c1; have br_f0 := HK2.out.tl.tl.tl.tl.tl.tl.box.f0; have br_f1 := HK2.out.tl.tl.tl.tl.tl.tl.box.f1; have KS2 := hid (And.intro HK2.out.tl.tl.tl.tl.box.c0 (And.intro HK2.out.tl.tl.tl.tl.box.c1 (And.intro HK2.out.tl.tl.tl.tl.tl.box.c0 (HK2.out.tl.tl.tl.tl.tl.box.c1)))); have tok2 : True := trivial)
   | (have _t := tok2; clear _t tok2; go_at_call 194; go_must (with_reducible refine (zz33 _ _ _ _ _ _ _ HK2.out.tl.fn HK2.out.sl).mono ?_); rintro e w3 ⟨rm, r0, rn, rc, rfl, hX, hB⟩; have HK3 := hid (HK2.out.below hB); have HB3 := hid (Below.steps HB2.out hB); clear bx_c0 bx_c1 bx_f0 bx_f1 by_c0 by_c1 by_f0 by_f1 br_c0 br_c1 br_f0 br_f1; clear HK2 HB2 hB; have bx_c0 := HK3.out.tl.tl.tl.tl.box.c0; have bx_c1 := HK3.out.tl.tl.tl.tl.box.c1; have bx_f0 := HK3.out.tl.tl.tl.tl.box.f0; have bx_f1 := HK3.out.tl.tl.tl.tl.box.f1; have by_c0 := HK3.out.tl.tl.tl.tl.tl.box.c0; have by_c1 := HK3.out.tl.tl.tl.tl.tl.box.c1; have by_f0 := HK3.out.tl.tl.tl.tl.tl.box.f0; have by_f1 := HK3.out.tl.tl.tl.tl.tl.box.f1; have br_c0 := HK3.out.tl.tl.tl.tl.tl.tl.box.c0; have br_c1 := HK3.out.tl.tl.tl.tl.tl.tl.box.c1; have br_f0 := HK3.out.tl.tl.tl.tl.tl.tl.box.f0; have br_f1 := HK3.out.tl.tl.tl.tl.tl.tl.box.f1; have KS3 := hid (And.intro HK3.out.tl.tl.tl.tl.box.c0 (And.intro HK3.out.tl.tl.tl.tl.box.c1 (And.intro HK3.out.tl.tl.tl.tl.tl.box.c0 (HK3.out.tl.tl.tl.tl.tl.box.c1)))); have tok3 : True := trivial))
 clear KS0 KS1 KS2 KS3; go_wp2_with fail
 refine bodyPost_ret (v := .agg #[.bool rm, .slice r0 rn rc]) (by simp [results, Tryz.results108, go_sem, br_c0, br_c1]) rfl ?_
 exact ⟨_, _, _, _, rfl, HZ.out ▸ hX.set2 HK3.out.tl.tl.tl.tl.tl.tl.box _ _, zz15 HB3.out (by omega) _ _⟩
end Go.Proofs.YtmbgljjfmbhelaaGreat

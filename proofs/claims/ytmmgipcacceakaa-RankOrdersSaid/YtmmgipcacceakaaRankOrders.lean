/-
  The law RankOrders.
-/
import Derived.Test.YtmmgipcacceakaaRkM
set_option maxHeartbeats 40000000
set_option maxRecDepth 100000
namespace Go.Proofs.Ytmmgipcacceakaa
open Lib (hid)
open Go.RowKit
theorem rankOrders_great0 [Ol] {ao bo co : Option Addr} {n ca m cb k cc : Nat} {w : World} {f : Nat → List Raw} (hx : Plx w ao n f) (hg : Grt n f) :
  Calls Try.prog 4 #[.slice ao n ca, .slice bo m cb, .slice co k cc] w (RetB (.bool true) w) := by
 have HG := hid (And.intro hx hg); clear hx hg; have HB_0 := hid (Below.refl w.heap.size w)
 go_enter Try.func4, Try.ntmps4
 go_wp2_with fail; refine (great15_any true (HG.out.1.below HB_0.out) (iff_of_true rfl HG.out.2)).mono ?_
 rintro e w1 ⟨rfl, hB⟩; have HB_1 := hid (Below.steps HB_0.out hB); clear hB HB_0; clear HG; go_wp2_with fail; refine (known15_any _).mono ?_; rintro e w9 ⟨rfl, hB⟩; have HB_9 := hid (Below.steps HB_1.out hB); clear hB; go_wp2_with fail
 go_ret
 exact ⟨rfl, HB_9.out⟩
theorem rankOrders_great1 [Ol] {ao bo co : Option Addr} {n ca m cb k cc : Nat} {w : World} {ls : List (List Raw)} (p0 : Plr w ao n ca ls) (s0 : Small15 ls) {f : Nat → List Raw} (hx : Plx w bo m f) (hg : Grt m f) :
  Calls Try.prog 4 #[.slice ao n ca, .slice bo m cb, .slice co k cc] w (RetB (.bool true) w) := by
 have HG := hid (And.intro hx hg); clear hx hg; have P0 := hid (And.intro p0 s0); clear p0 s0; have HB_0 := hid (Below.refl w.heap.size w)
 go_enter Try.func4, Try.ntmps4
 go_wp2_with fail; refine (small_great (P0.out.1.below HB_0.out) P0.out.2).mono ?_
 rintro e w1 ⟨rfl, hB⟩; have HB_1 := hid (Below.steps HB_0.out hB); clear hB HB_0; go_wp2_with fail; refine (great15_any true (HG.out.1.below HB_1.out) (iff_of_true rfl HG.out.2)).mono ?_; rintro e w2 ⟨rfl, hB⟩; have HB_2 := hid (Below.steps HB_1.out hB); clear hB HB_1; clear HG; go_wp2_with fail; refine (known15_any _).mono ?_; rintro e w9 ⟨rfl, hB⟩; have HB_9 := hid (Below.steps HB_2.out hB); clear hB; go_wp2_with fail
 go_ret
 exact ⟨rfl, HB_9.out⟩
theorem rankOrders_great2 [Ol] {ao bo co : Option Addr} {n ca m cb k cc : Nat} {w : World} {ls : List (List Raw)} (p0 : Plr w ao n ca ls) (s0 : Small15 ls) {ms : List (List Raw)} (p1 : Plr w bo m cb ms) (s1 : Small15 ms) {f : Nat → List Raw} (hx : Plx w co k f) (hg : Grt k f) :
  Calls Try.prog 4 #[.slice ao n ca, .slice bo m cb, .slice co k cc] w (RetB (.bool true) w) := by
 have HG := hid (And.intro hx hg); clear hx hg; have P0 := hid (And.intro p0 s0); clear p0 s0; have P1 := hid (And.intro p1 s1); clear p1 s1; have HB_0 := hid (Below.refl w.heap.size w)
 go_enter Try.func4, Try.ntmps4
 go_wp2_with fail; refine (small_great (P0.out.1.below HB_0.out) P0.out.2).mono ?_
 rintro e w1 ⟨rfl, hB⟩; have HB_1 := hid (Below.steps HB_0.out hB); clear hB HB_0; go_wp2_with fail; refine (small_great (P1.out.1.below HB_1.out) P1.out.2).mono ?_; rintro e w2 ⟨rfl, hB⟩; have HB_2 := hid (Below.steps HB_1.out hB); clear hB HB_1; go_wp2_with fail; refine (great15_any true (HG.out.1.below HB_2.out) (iff_of_true rfl HG.out.2)).mono ?_; rintro e w3 ⟨rfl, hB⟩; have HB_3 := hid (Below.steps HB_2.out hB); clear hB HB_2; clear HG; go_wp2_with fail; refine (known15_any _).mono ?_; rintro e w9 ⟨rfl, hB⟩
 have HB_9 := hid (Below.steps HB_3.out hB); clear hB; go_wp2_with fail
 go_ret
 exact ⟨rfl, HB_9.out⟩
theorem rankOrders_main [Ol] {ao bo co : Option Addr} {n ca m cb k cc : Nat} {w : World} (hlo : Ol.lo ≤ w.heap.size) {ls : List (List Raw)} (p0 : Plr w ao n ca ls) (s0 : Small15 ls) {ms : List (List Raw)} (p1 : Plr w bo m cb ms) (s1 : Small15 ms) {rs : List (List Raw)} (p2 : Plr w co k cc rs) (s2 : Small15 rs) :
  Calls Try.prog 4 #[.slice ao n ca, .slice bo m cb, .slice co k cc] w (RetB (.bool true) w) := by
 have hn8 : n ≤ 8 := by rw [← p0.len]; exact s0.len
 have hcap := p0.big.1
 have hll : (rks ls).length = n := by unfold rks; rw [List.length_map]; exact p0.len
 have HLL := hid hll; obtain ⟨x, hx⟩ : ∃ x, lowL (rks ls) (rks ms) = x := ⟨_, rfl⟩; obtain ⟨b, hb⟩ : ∃ b, lowL (rks ms) (rks ls) = b := ⟨_, rfl⟩; obtain ⟨u, hu⟩ : ∃ u, lowL (rks ms) (rks rs) = u := ⟨_, rfl⟩; obtain ⟨y, hy⟩ : ∃ y, lowL (rks ls) (rks rs) = y := ⟨_, rfl⟩; have hxr := lowL_range (rks ls) (rks ms); have hxb := lowL_neg (rks ls) (rks ms); have htr := lowL_trans (rks ls) (rks ms) (rks rs); rw [hx, hb] at hxb; rw [hx] at hxr; rw [hx, hu, hy] at htr
 have hwb : IntKind.i64.wrap (-b) = x := by rw [IntWalk.i64_in _ ⟨by omega, by omega⟩]; omega
 have hxx : (x != x) = false := by simp
 have H3 : Hid ((decide (x ≤ 0) = false) ∨ (decide (x ≤ 0) = true ∧ decide (u ≤ 0) = false) ∨ (decide (x ≤ 0) = true ∧ decide (u ≤ 0) = true ∧ decide (y > 0) = false)) := by
  by_cases h1 : x ≤ 0
  ·by_cases h2 : u ≤ 0
   ·exact .inr (.inr ⟨decide_eq_true h1, decide_eq_true h2, decide_eq_false (by have := htr h1 h2; omega)⟩)
   ·exact .inr (.inl ⟨decide_eq_true h1, decide_eq_false h2⟩)
  ·exact .inl (decide_eq_false h1)
 have HX := hid (And.intro hx (And.intro hb (And.intro hu hy))); have P0 := hid (And.intro p0 (And.intro s0 s0.lim2)); clear p0 s0; have P1 := hid (And.intro p1 (And.intro s1 s1.lim2)); clear p1 s1; have P2 := hid (And.intro p2 (And.intro s2 s2.lim2)); clear p2 s2; have HB_0 := hid (Below.refl w.heap.size w); clear hll hx hb hu hy hxr hxb htr
 go_enter Try.func4, Try.ntmps4
 go_wp2_with fail; refine (small_great (P0.out.1.below HB_0.out) P0.out.2.1).mono ?_
 rintro e w1 ⟨rfl, hB⟩; have HB_1 := hid (Below.steps HB_0.out hB); clear hB HB_0; go_wp2_with fail; refine (small_great (P1.out.1.below HB_1.out) P1.out.2.1).mono ?_; rintro e w2 ⟨rfl, hB⟩; have HB_2 := hid (Below.steps HB_1.out hB); clear hB HB_1; go_wp2_with fail; refine (small_great (P2.out.1.below HB_2.out) P2.out.2.1).mono ?_; rintro e w3 ⟨rfl, hB⟩; have HB_3 := hid (Below.steps HB_2.out hB); clear hB HB_2; go_wp2_with fail; refine (rlower_any x (P0.out.1.below HB_3.out) (P1.out.1.below HB_3.out) P0.out.2.2 P1.out.2.2 HX.out.1).mono ?_
 rintro e w4 ⟨rfl, hB⟩; have HB_4 := hid (Below.steps HB_3.out hB); clear hB HB_3; go_wp2_with fail; refine (rlower_any b (P1.out.1.below HB_4.out) (P0.out.1.below HB_4.out) P1.out.2.2 P0.out.2.2 HX.out.2.1).mono ?_; rintro e w5 ⟨rfl, hB⟩; have HB_5 := hid (Below.steps HB_4.out hB); clear hB HB_4; go_wp2_with fail; refine (rlower_any u (P1.out.1.below HB_5.out) (P2.out.1.below HB_5.out) P1.out.2.2 P2.out.2.2 HX.out.2.2.1).mono ?_; rintro e w6 ⟨rfl, hB⟩; have HB_6 := hid (Below.steps HB_5.out hB)
 clear hB HB_5; go_wp2_with fail; refine (rlower_any y (P0.out.1.below HB_6.out) (P2.out.1.below HB_6.out) P0.out.2.2 P2.out.2.2 HX.out.2.2.2).mono ?_; rintro e w7 ⟨rfl, hB⟩; have HB_7 := hid (Below.steps HB_6.out hB); clear hB HB_6
 go_upto_region 4 with (fail)
 go_cut [57] from 36 to 57 (fun s wx => s = .bool false ∧ Hid (Below w.heap.size w wx))
 case first =>
  rcases H3.out with h1 | ⟨h1, h2⟩ | ⟨h1, h2, h3⟩
  ·go_wp2_with fail
   refine (rlower_any 0 (P0.out.1.below HB_7.out) (P0.out.1.below HB_7.out) P0.out.2.2 P0.out.2.2 (lowL_self _)).mono ?_; rintro e w8 ⟨rfl, hB⟩
   have HB_8 := hid (Below.steps HB_7.out hB); clear hB HB_7; go_wp2_with fail
   go_meet
   case rel => exact ⟨rfl, HB_8.out⟩
  ·go_wp2_with fail
   refine (rlower_any 0 (P0.out.1.below HB_7.out) (P0.out.1.below HB_7.out) P0.out.2.2 P0.out.2.2 (lowL_self _)).mono ?_; rintro e w8 ⟨rfl, hB⟩
   have HB_8 := hid (Below.steps HB_7.out hB); clear hB HB_7; go_wp2_with fail
   go_meet
   case rel => exact ⟨rfl, HB_8.out⟩
  ·go_wp2_with fail
   refine (rlower_any 0 (P0.out.1.below HB_7.out) (P0.out.1.below HB_7.out) P0.out.2.2 P0.out.2.2 (lowL_self _)).mono ?_; rintro e w8 ⟨rfl, hB⟩
   have HB_8 := hid (Below.steps HB_7.out hB); clear hB HB_7; go_wp2_with fail
   go_meet
   case rel => exact ⟨rfl, HB_8.out⟩
 case rest =>
 obtain ⟨rfl, HC⟩ := hcut; obtain ⟨w15, hW⟩ : ∃ w15, w15 = wc := ⟨_, rfl⟩; rw [← hW] at HC ⊢; clear hW HB_7; have HB_7 := HC; clear HC H3 hwb hxx HX
 go_upto_region 6 with (fail)
 go_cut [70] from 58 to 70 (fun s wx => s = .bool false ∧ Hid (Below w.heap.size w wx))
 case first =>
  by_cases hn0 : n = 0
  ·subst hn0
   go_wp2_with fail
   go_meet
   case rel => exact ⟨rfl, HB_7.out⟩
  ·obtain ⟨j, rfl⟩ : ∃ j, n = j + 1 := ⟨n - 1, by omega⟩
   have hwj : IntKind.i64.wrap (j : Int) = (j : Int) := IntWalk.i64_in _ ⟨by omega, by omega⟩
   have hj1 : (0 : Int) < (j : Int) + 1 := by omega
   have hjc : j ≤ ca := by omega
   go_wp2_with fail
   refine (rlower_any (-1) (P0.out.1.below HB_7.out) ((P0.out.1.cut j (by omega)).below HB_7.out) P0.out.2.2 (fun ps hp => P0.out.2.2 ps (List.mem_of_mem_take hp)) (lowL_cut HLL.out)).mono ?_
   rintro e w8 ⟨rfl, hB⟩; have HB_8 := hid (Below.steps HB_7.out hB); clear hB HB_7; go_wp2_with fail
   go_meet
   case rel => exact ⟨rfl, HB_8.out⟩
 case rest =>
 obtain ⟨rfl, HC⟩ := hcut; obtain ⟨w16, hW⟩ : ∃ w16, w16 = wc := ⟨_, rfl⟩; rw [← hW] at HC ⊢; clear hW HB_7; have HB_7 := HC; clear HC; have HN := hid hn8; go_wp2_with fail
 refine (rsort_any (Nat.le_trans hlo HB_7.out.size) (P0.out.1.below HB_7.out) (fun ps hp t ht => Nat.le_trans (P0.out.2.1.lim ps hp t ht) (by omega)) (fun ps hp => P0.out.2.1.lens ps hp) HN.out).mono ?_
 rintro e w20 ⟨so, sn, sc, B, rfl, hsl, hS, hB⟩; have HB_20 := hid (Below.steps HB_7.out hB)
 have HF : Hid (∀ p ∈ srtP (keepR ls), fall p) := srt_falls P0.out.1
 have HO : Hid ((srtP (keepR ls)).Pairwise (fun a b => ltP b a = false)) := srtP_sorted _
 obtain ⟨q, hq⟩ : ∃ q, srtP (keepR ls) = q := ⟨_, rfl⟩; rw [hq] at hS HF HO hsl
 have hsn : sn ≤ 1000000 := by rw [← hsl, ← hq]; exact Nat.le_trans (srt_len ls) (by rw [P0.out.1.len]; omega)
 have HS := hid (And.intro hS hsl); clear hB HB_7 hS hsl hq HN; go_wp2_with fail
 go_loopw [12] (fun i wr => ∃ j : Nat, i = .int .i64 ((j : Int) + 1) ∧ (j = 0 ∨ j + 1 ≤ sn) ∧ Hid (Below w20.heap.size w20 wr)) (fun i _ => sn + 1 - (intOf i).toNat)
 case atStart => exact ⟨0, rfl, .inl rfl, Below.refl _ _⟩
 case round =>
  obtain ⟨j, rfl, hj, HW⟩ := hrel
  by_cases hjn : j + 1 < sn
  ·obtain ⟨g, xo, xn, xc, hso, hg, hx, hcx⟩ := HS.out.1.at (k := j) (by omega)
   obtain ⟨g2, yo, yn, yc, hso2, _, hy, hcy⟩ := HS.out.1.at (k := j + 1) (by omega)
   obtain ⟨g3, zo, zn, zc, hso3, _, hz, hcz⟩ := HS.out.1.at (k := 0) (by omega)
   subst hso
   cases hso2
   cases hso3
   have hq1 : j < q.length := by rw [HS.out.2]; omega
   have hq2 : j + 1 < q.length := by rw [HS.out.2]; omega
   have hq0 : 0 < q.length := by omega
   have hf1 := HF.out _ (getD_in [] hq1); have hf2 := HF.out _ (getD_in [] hq2); have hf0 := HF.out _ (getD_in [] hq0)
   have hs1 := pair_le HO.out hq1 hq2 (by omega)
   have hs2 := pair_le HO.out hq0 hq2 (by omega)
   obtain ⟨z1, hz1⟩ : ∃ z, cmpRk (rkP (q.getD j [])) (rkP (q.getD (j + 1) [])) = z := ⟨_, rfl⟩; obtain ⟨z2, hz2⟩ : ∃ z, cmpRk (rkP (q.getD 0 [])) (rkP (q.getD (j + 1) [])) = z := ⟨_, rfl⟩
   have hd1 : decide (z1 > 0) = false := decide_eq_false (by rw [← hz1]; omega)
   have hd2 : decide (z2 > 0) = false := decide_eq_false (by rw [← hz2]; omega)
   have HC1 : Hid (∀ V, Below w20.heap.size w20 V → Calls Try.prog 12 #[.slice xo xn xc, .slice yo yn yc] V (RetB (.int .i64 z1) V)) := fun V hV => rcompare_any z1 (hx.below hV).raw (fun t ht => Nat.le_trans (hx.lens t ht) (by omega)) (hy.below hV).raw (fun t ht => Nat.le_trans (hy.lens t ht) (by omega)) (by rw [pln_raw hf1, pln_raw hf2]; exact hz1)
   have HC2 : Hid (∀ V, Below w20.heap.size w20 V → Calls Try.prog 12 #[.slice zo zn zc, .slice yo yn yc] V (RetB (.int .i64 z2) V)) := fun V hV => rcompare_any z2 (hz.below hV).raw (fun t ht => Nat.le_trans (hz.lens t ht) (by omega)) (hy.below hV).raw (fun t ht => Nat.le_trans (hy.lens t ht) (by omega)) (by rw [pln_raw hf0, pln_raw hf2]; exact hz2)
   have HG := hid (And.intro hcx (And.intro hcy hcz))
   have hwj : IntKind.i64.wrap (j : Int) = (j : Int) := IntWalk.i64_in _ ⟨by omega, by omega⟩
   have hj0 : (0 : Int) ≤ (j : Int) + 1 := by omega
   have hji : (j : Int) + 1 < (sn : Int) := by omega
   have hji2 : (j : Int) < (sn : Int) := by omega
   have hsn0 : (0 : Int) < (sn : Int) := by omega
   have hs0n : 0 < sn := by omega
   clear hcx hcy hcz hx hy hz hf1 hf2 hf0 hs1 hs2 hz1 hz2 hq1 hq2 hq0 hg
   go_upto_region 12 with (fail)
   refine wp_region_held_drew (S := fun w' => w'.cell? ⟨g, j, none⟩ = some (.slice xo xn xc) ∧ w'.cell? ⟨g, j + 1, none⟩ = some (.slice yo yn yc) ∧ w'.cell? ⟨g, 0, none⟩ = some (.slice zo zn zc)) (by kernel_rfl) ⟨HG.out.1 _ HW.out.drew, HG.out.2.1 _ HW.out.drew, HG.out.2.2 _ HW.out.drew⟩ (fun hH => ?_)
   refine anyH_world (fun w31 hW => ?_)
   have W_31 : Hid (Below w20.heap.size w20 w31) := by rw [hW]; exact HW.out.drew
   rw [← hW] at hH; clear HW
   clear hW
   refine son 0 hH ?_; try simp only [nrm]
   refine son 1 hH ?_; try simp only [nrm]
   refine son 2 hH ?_; try simp only [nrm]
   refine son 3 hH ?_; try simp only [nrm]
   refine son 4 hH ?_; try simp only [nrm]
   refine son 5 hH ?_; try simp only [nrm]
   refine son 6 hH ?_; try simp only [nrm]
   refine son 7 hH ?_; try simp only [nrm]
   refine son 8 hH ?_; try simp only [nrm]
   refine step_one 9 rfl (by kernel_rfl) (fun KK hK => ?_)
   go_simp; refine (HC1.out _ W_31.out).mono ?_
   rintro e w32 ⟨rfl, hB⟩; have W_32 := hid (Below.steps W_31.out hB); clear hB W_31; go_wp2_with fail
   clear hH; refine hK.out _ _ ⟨HG.out.1 _ W_32.out, HG.out.2.1 _ W_32.out, HG.out.2.2 _ W_32.out⟩ fun hH => ?_; clear hK KK
   try simp only [nrm]
   refine son 10 hH ?_; try simp only [nrm]
   refine son 11 hH ?_; try simp only [nrm]
   refine son 12 hH ?_; try simp only [nrm]
   refine son 13 hH ?_; try simp only [nrm]
   refine son 14 hH ?_; try simp only [nrm]
   refine son 15 hH ?_; try simp only [nrm]
   refine son 16 hH ?_; try simp only [nrm]
   refine son 17 hH ?_; try simp only [nrm]
   refine son 18 hH ?_; try simp only [nrm]
   refine step_one 19 rfl (by kernel_rfl) (fun KK hK => ?_)
   go_simp; refine (HC2.out _ W_32.out).mono ?_
   rintro e w33 ⟨rfl, hB⟩; have W_33 := hid (Below.steps W_32.out hB); clear hB W_32; go_wp2_with fail
   clear hH; refine hK.out _ _ ⟨HG.out.1 _ W_33.out, HG.out.2.1 _ W_33.out, HG.out.2.2 _ W_33.out⟩ fun hH => ?_; clear hK KK
   try simp only [nrm]
   refine son 20 hH ?_; try simp only [nrm]
   refine son 21 hH ?_; try simp only [nrm]
   refine wpAnyH_done (by kernel_rfl) ?_ _
   go_wp2_with fail
   go_roundw
   case rel => exact ⟨j + 1, by go_num, .inr (by omega), W_33.out⟩
   case measure => simp [intOf]; omega
  ·have hji : ¬ (j : Int) + 1 < (sn : Int) := by omega
   clear HS HF HO; go_wp2_with fail; refine (known15_any _).mono ?_; rintro e w40 ⟨rfl, hB⟩; have HB_40 := hid (Below.steps HB_20.out (Below.steps HW.out hB)); clear hB; go_wp2_with fail
   go_ret
   exact ⟨rfl, HB_40.out⟩
theorem rankOrders_any [Ol] {ao bo co : Option Addr} {n ca m cb k cc : Nat} {w : World} (hlo : Ol.lo ≤ w.heap.size) (h0 : (∃ f, Plx w ao n f) ∧ (n ≤ 4398046511104 → ∃ ls, Plr w ao n ca ls)) (h1 : (∃ f, Plx w bo m f) ∧ (m ≤ 4398046511104 → ∃ ls, Plr w bo m cb ls)) (h2 : (∃ f, Plx w co k f) ∧ (k ≤ 4398046511104 → ∃ ls, Plr w co k cc ls)) :
  Calls Try.prog 4 #[.slice ao n ca, .slice bo m cb, .slice co k cc] w (RetB (.bool true) w) := by
 rcases hnd_of h0 with ⟨f, hf, hg⟩ | ⟨ls, p0, s0⟩
 ·exact rankOrders_great0 hf hg
 ·rcases hnd_of h1 with ⟨f, hf, hg⟩ | ⟨ms, p1, s1⟩
  ·exact rankOrders_great1 p0 s0 hf hg
  ·rcases hnd_of h2 with ⟨f, hf, hg⟩ | ⟨rs, p2, s2⟩
   ·exact rankOrders_great2 p0 s0 p1 s1 hf hg
   ·exact rankOrders_main hlo p0 s0 p1 s1 p2 s2
end Go.Proofs.Ytmmgipcacceakaa

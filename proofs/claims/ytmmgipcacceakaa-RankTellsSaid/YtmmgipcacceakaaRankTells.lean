/-
  The law RankTells.
-/
import Derived.Test.YtmmgipcacceakaaRkL
set_option maxHeartbeats 40000000
set_option maxRecDepth 100000
namespace Go.Proofs.Ytmmgipcacceakaa
open Lib (hid)
open Go.RowKit
theorem rankTells_great1 [Ol] {ao bo co : Option Addr} {n cap m cb l lc : Nat} {ps qs : List Raw} {w : World} (hp : Pr w ao n cap ps) (hq : Pr w bo m cb qs) (hg : Grt 2 (fun k => [ps, qs].getD k [])) :
  Calls Try.prog 3 #[.slice ao n cap, .slice bo m cb, .slice co l lc] w (RetB (.bool true) w) := by
 have HP := hid (And.intro hp (And.intro hq hg)); clear hp hq hg
 go_enter Try.func3, Try.ntmps3
 go_wp2_with fail; refine (great15_any true (Plx.two HP.out.1 HP.out.2.1 _) (iff_of_true rfl HP.out.2.2)).mono ?_
 rintro e w1 ⟨rfl, hB⟩; have HB1 := hid (Below.steps (below_alloc _ _) hB); clear hB HP; go_wp2_with fail; refine (known15_any _).mono ?_; rintro e w2 ⟨rfl, hB⟩; have HB2 := hid (Below.steps HB1.out hB); clear hB HB1; go_wp2_with fail
 go_ret
 exact ⟨rfl, HB2.out⟩
theorem rankTells_great2 [Ol] {ao bo co : Option Addr} {n cap m cb l lc : Nat} {ps qs : List Raw} {w : World} (hp : Pr w ao n cap ps) (hq : Pr w bo m cb qs) (hng : ¬ Grt 2 (fun k => [ps, qs].getD k [])) {f : Nat → List Raw} (hx : Plx w co l f) (hg : Grt l f) :
  Calls Try.prog 3 #[.slice ao n cap, .slice bo m cb, .slice co l lc] w (RetB (.bool true) w) := by
 have HP := hid (And.intro hp (And.intro hq (And.intro hng (And.intro hx hg)))); clear hp hq hg hng hx
 go_enter Try.func3, Try.ntmps3
 go_wp2_with fail
 refine (great15_any false (Plx.two HP.out.1 HP.out.2.1 _) ⟨(fun h => by cases h), fun h => absurd h HP.out.2.2.1⟩).mono ?_
 rintro e w1 ⟨rfl, hB⟩; have HB1 := hid (Below.steps (below_alloc _ _) hB); clear hB; go_wp2_with fail; refine (great15_any true (HP.out.2.2.2.1.below HB1.out) (iff_of_true rfl HP.out.2.2.2.2)).mono ?_; rintro e w2 ⟨rfl, hB⟩; have HB2 := hid (Below.steps HB1.out hB); clear hB HB1 HP; go_wp2_with fail; refine (known15_any _).mono ?_; rintro e w3 ⟨rfl, hB⟩; have HB3 := hid (Below.steps HB2.out hB); clear hB HB2; go_wp2_with fail
 go_ret
 exact ⟨rfl, HB3.out⟩
theorem rankTells_main [Ol] {ao bo co : Option Addr} {n cap m cb l lc : Nat} {ps qs : List Raw} {w : World} (hp : Pr w ao n cap ps) (hq : Pr w bo m cb qs) (hng : ¬ Grt 2 (fun k => [ps, qs].getD k [])) {ls : List (List Raw)} (hx : Plr w co l lc ls) (hs : Small15 ls) :
  Calls Try.prog 3 #[.slice ao n cap, .slice bo m cb, .slice co l lc] w (RetB (.bool true) w) := by
 have hs2 : Small15 [ps, qs] := Small15.of (fun _ _ => rfl) hng
 have HS2 := hid hs2
 have hn : n ≤ 1000000 := by
  have h := (great_facts (hs2.ok ps (by simp))).1
  rw [hp.len] at h
  omega
 have HP := hid (And.intro hp (And.intro hq hng))
 have HL := hid (And.intro (hs2.lim2 ps (by simp)) (And.intro (hs2.lim2 qs (by simp)) hn))
 have HX := hid (And.intro hx (And.intro hs (hs.ngrt hx.len)))
 have HXF : Hid (∀ rs ∈ ls, fall (plnR rs)) := hx.falls
 obtain ⟨c1, hc1⟩ : ∃ c, clsP (plnR ps) = c := ⟨_, rfl⟩; obtain ⟨d1, hd1⟩ : ∃ d, degP (plnR ps) c1 = d := ⟨_, rfl⟩; obtain ⟨c2, hc2⟩ : ∃ c, clsP (plnR qs) = c := ⟨_, rfl⟩; obtain ⟨d2, hd2⟩ : ∃ d, degP (plnR qs) c2 = d := ⟨_, rfl⟩; obtain ⟨z, hz⟩ : ∃ z, cmpRk (rkP (plnR ps)) (rkP (plnR qs)) = z := ⟨_, rfl⟩; obtain ⟨r, hr⟩ : ∃ r, redP (plnR ps) (plnR qs) = r := ⟨_, rfl⟩
 obtain ⟨t, ht⟩ : ∃ t, (ls.all fun qs => redP (plnR ps) (plnR qs)) = t := ⟨_, rfl⟩
 have hf1 := pln_fall hp.wfs; have hf2 := pln_fall hq.wfs; have HR1 := hid (And.intro hc1 hd1); have HFF := hid (And.intro (And.intro hf1 (And.intro hc1 hd1)) (And.intro hf2 (And.intro hc2 hd2))); have HZZ := hid hz; have HRR := hid hr; have HT := hid ht
 have H3 : Hid ((ltRk (c1, d1) (c2, d2) = true ∧ ltRk (c2, d2) (c1, d1) = false ∧ z = -1) ∨ (ltRk (c1, d1) (c2, d2) = false ∧ ltRk (c2, d2) (c1, d1) = true ∧ z = 1) ∨ (ltRk (c1, d1) (c2, d2) = false ∧ ltRk (c2, d2) (c1, d1) = false ∧ z = 0)) := by
  have e1 : rkP (plnR ps) = (c1, d1) := by rw [← hd1, ← hc1]; rfl
  have e2 : rkP (plnR qs) = (c2, d2) := by rw [← hd2, ← hc2]; rfl
  rw [e1, e2] at hz; rw [Hid, ← hz]
  rcases cmpRk_is (c1, d1) (c2, d2) with ⟨h, e⟩ | ⟨h, e⟩ | ⟨_, h, h2, e⟩
  ·exact .inl ⟨h, lt_asym h, e⟩
  ·exact .inr (.inl ⟨lt_asym h, h, e⟩)
  ·exact .inr (.inr ⟨h, h2, e⟩)
 clear hp hq hng hx hs hs2 hn hc1 hc2 hd1 hd2 hz hr ht hf1 hf2
 go_enter Try.func3, Try.ntmps3
 go_wp2_with fail
 refine (great15_any false (Plx.two HP.out.1 HP.out.2.1 _) ⟨(fun h => by cases h), fun h => absurd h HP.out.2.2⟩).mono ?_
 rintro e w1 ⟨rfl, hB⟩; have HB1 := hid (Below.steps (below_alloc _ _) hB); clear hB; go_wp2_with fail
 refine (great15_any false (HX.out.1.below HB1.out).plx ⟨(fun h => by cases h), fun h => absurd h HX.out.2.2⟩).mono ?_
 rintro e w2 ⟨rfl, hB⟩; have HB2 := hid (Below.steps HB1.out hB); clear hB HB1; go_wp2_with fail; refine (plain15_any (Plr.two (HP.out.1.below HB2.out) (HP.out.2.1.below HB2.out) _) HS2.out).mono ?_; rintro e w3 ⟨zo, zn, zc, rfl, hzl, hZ, hB⟩; obtain rfl : zn = 2 := hzl.symm; have HB3 := hid (Below.steps HB2.out (Below.steps (below_alloc _ _) hB))
 obtain ⟨g, xo, xn, xc, hzo, hgl, hz0, hcl0⟩ := hZ.at (k := 0) (by omega)
 obtain ⟨g2, yo, yn, yc, hzo2, _, hz1, hcl1⟩ := hZ.at (k := 1) (by omega)
 subst hzo
 cases hzo2
 have HG := hid (And.intro hcl0 hcl1)
 have HZA : Hid (Pz 32 w3 xo xn xc (plnR ps) ∧ fall (plnR ps) ∧ clsP (plnR ps) = c1 ∧ degP (plnR ps) c1 = d1) := ⟨hz0, HFF.out.1⟩
 have HZB : Hid (Pz 32 w3 yo yn yc (plnR qs) ∧ fall (plnR qs) ∧ clsP (plnR qs) = c2 ∧ degP (plnR qs) c2 = d2) := ⟨hz1, HFF.out.2⟩
 have HZQ := hid HZB.out; clear hB HB2 hZ hzl hgl hz0 hcl0 hz1 hcl1 HFF
 go_upto_region 4 with (fail)
 go_cut [8, 9] from 24 to 31 (fun s8 s9 wx => ∃ (pa pb : Nat), s8 = .pointer (some ⟨pa, 0, none⟩) ∧ s9 = .pointer (some ⟨pb, 0, none⟩) ∧ Hid (AtN wx pa [.int .i64 c1, .int .i64 d1] 30 ∧ AtN wx pb [.int .i64 c2, .int .i64 d2] 30 ∧ Below w3.heap.size w3 wx))
 case first =>
  refine wp_region_held_drew (S := fun w' => w'.cell? ⟨g, 0, none⟩ = some (.slice xo xn xc) ∧ w'.cell? ⟨g, 1, none⟩ = some (.slice yo yn yc)) (by kernel_rfl) ⟨HG.out.1 _ (Below.refl _ _).drew, HG.out.2 _ (Below.refl _ _).drew⟩ (fun hH => ?_)
  refine anyH_world (fun w4 hW => ?_)
  have B_4 : Hid (Below w3.heap.size w3 w4) := by rw [hW]; exact (Below.refl _ _).drew
  rw [← hW] at hH; clear hW
  refine son 0 hH ?_; try simp only [nrm]
  refine son 1 hH ?_; try simp only [nrm]
  refine son 2 hH ?_; try simp only [nrm]
  refine son 4 hH ?_; try simp only [nrm]
  refine son 5 hH ?_; try simp only [nrm]
  refine son 6 hH ?_; try simp only [nrm]
  refine wpAnyH_ready (rs := [3, 8, 9]) (by kernel_rfl) (by simp) (ready_cons rfl (fun KK hK => ?_) (ready_cons rfl (fun KK hK => ?_) (ready_cons rfl (fun KK hK => ?_) (AllReadyH.nil))))
  ·go_simp
   refine (rrof_any c1 d1 (HZA.out.1.below B_4.out) HZA.out.2.1 HZA.out.2.2.1 HZA.out.2.2.2).mono ?_; rintro e w5 ⟨rfl, hB⟩
   have B_5 := hid (Below.steps B_4.out hB); clear hB B_4; go_wp2_with fail
   clear hH; refine hK.out _ _ ⟨HG.out.1 _ B_5.out, HG.out.2 _ B_5.out⟩ fun hH => ?_; clear hK KK
   try simp only [nrm]
   refine wpAnyH_ready (rs := [7, 8, 9]) (by kernel_rfl) (by simp) (ready_cons rfl (fun KK hK => ?_) (ready_cons rfl (fun KK hK => ?_) (ready_cons rfl (fun KK hK => ?_) (AllReadyH.nil))))
   ·go_simp
    refine (rrof_any c2 d2 (HZB.out.1.below B_5.out) HZB.out.2.1 HZB.out.2.2.1 HZB.out.2.2.2).mono ?_; rintro e w6 ⟨rfl, hB⟩
    have B_6 := hid (Below.steps B_5.out hB); clear hB B_5; go_wp2_with fail
    clear hH; refine hK.out _ _ ⟨HG.out.1 _ B_6.out, HG.out.2 _ B_6.out⟩ fun hH => ?_; clear hK KK
    try simp only [nrm]
    refine wpAnyH_ready (rs := [8, 9]) (by kernel_rfl) (by simp) (ready_cons rfl (fun KK hK => ?_) (ready_cons rfl (fun KK hK => ?_) (AllReadyH.nil)))
    ·go_simp
     obtain ⟨q1, q2⟩ := box1 w6 [.int .i64 0, .int .i64 0] 30; have hU := Below.steps B_6.out q2
     clear hH; refine hK.out _ _ ⟨HG.out.1 _ hU, HG.out.2 _ hU⟩ fun hH => ?_; clear hK KK
     try simp only [nrm]
     refine anyH_world (fun w7 hW => ?_)
     have B_7 : Hid (Below w3.heap.size w3 w7) := by rw [hW]; exact hU
     have A8_7 : Hid (AtN w7 w6.heap.size [.int .i64 0, .int .i64 0] 30 ∧ w3.heap.size ≤ w6.heap.size) := by rw [hW]; exact ⟨q1, B_6.out.size⟩
     rw [← hW] at hH; clear hU q1 q2 B_6
     clear hW
     refine step_one 9 rfl (by kernel_rfl) (fun KK hK => ?_)
     go_simp; obtain ⟨q1, q2⟩ := box1 w7 [.int .i64 0, .int .i64 0] 30
     have hU := Below.steps B_7.out q2
     clear hH; refine hK.out _ _ ⟨HG.out.1 _ hU, HG.out.2 _ hU⟩ fun hH => ?_; clear hK KK
     try simp only [nrm]
     refine anyH_world (fun w8 hW => ?_)
     have B_8 : Hid (Below w3.heap.size w3 w8) := by rw [hW]; exact hU
     have A9_8 : Hid (AtN w8 w7.heap.size [.int .i64 0, .int .i64 0] 30 ∧ w3.heap.size ≤ w7.heap.size) := by rw [hW]; exact ⟨q1, B_7.out.size⟩
     have A8_8 : Hid (AtN w8 w6.heap.size [.int .i64 0, .int .i64 0] 30 ∧ w3.heap.size ≤ w6.heap.size) := by rw [hW]; exact ⟨A8_7.out.1.below q2, A8_7.out.2⟩
     have NE : Hid (w6.heap.size ≠ w7.heap.size) := Nat.ne_of_lt A8_7.out.1.lt
     rw [← hW] at hH; clear hU q1 q2 B_7 A8_7
     clear hW; obtain ⟨sb0, sb1⟩ := A8_8.out.1.c2; have sf0 := A8_8.out.1.fz 0; have sf1 := A8_8.out.1.fz 1
     refine step_one 10 rfl (by kernel_rfl) (fun KK hK => ?_)
     go_simp; clear sb0 sb1 sf0 sf1
     have hU := B_8.out.grown (grown_put2 w8 w6.heap.size 0 (.int .i64 c1) (.int .i64 d1)) B_8.out.size (fun r e => by cases e; exact A8_8.out.2)
     clear hH; refine hK.out _ _ ⟨HG.out.1 _ hU, HG.out.2 _ hU⟩ fun hH => ?_; clear hK KK
     try simp only [nrm]
     refine anyH_world (fun w9 hW => ?_)
     have B_9 : Hid (Below w3.heap.size w3 w9) := by rw [hW]; exact hU
     have A8_9 : Hid (AtN w9 w6.heap.size [.int .i64 c1, .int .i64 d1] 30 ∧ w3.heap.size ≤ w6.heap.size) := by rw [hW]; exact ⟨(A8_8.out.1.set 0 _).set 1 _, A8_8.out.2⟩
     have A9_9 := And.intro ((A9_8.out.1.far NE.out 0 (.int .i64 c1)).far NE.out 1 (.int .i64 d1)) A9_8.out.2; rw [← hW] at hH A9_9; have A9_9 := hid A9_9; clear hU B_8 A8_8 A9_8; clear hW; obtain ⟨sb0, sb1⟩ := A9_9.out.1.c2; have sf0 := A9_9.out.1.fz 0; have sf1 := A9_9.out.1.fz 1
     refine step_one 11 rfl (by kernel_rfl) (fun KK hK => ?_)
     go_simp; clear sb0 sb1 sf0 sf1
     have hU := B_9.out.grown (grown_put2 w9 w7.heap.size 0 (.int .i64 c2) (.int .i64 d2)) B_9.out.size (fun r e => by cases e; exact A9_9.out.2)
     clear hH; refine hK.out _ _ ⟨HG.out.1 _ hU, HG.out.2 _ hU⟩ fun hH => ?_; clear hK KK
     try simp only [nrm]
     refine anyH_world (fun w10 hW => ?_)
     have B_10 : Hid (Below w3.heap.size w3 w10) := by rw [hW]; exact hU
     have A9_10 : Hid (AtN w10 w7.heap.size [.int .i64 c2, .int .i64 d2] 30 ∧ w3.heap.size ≤ w7.heap.size) := by rw [hW]; exact ⟨(A9_9.out.1.set 0 _).set 1 _, A9_9.out.2⟩
     have A8_10 := And.intro ((A8_9.out.1.far (NE.out).symm 0 (.int .i64 c2)).far (NE.out).symm 1 (.int .i64 d2)) A8_9.out.2; rw [← hW] at hH A8_10; have A8_10 := hid A8_10; clear hU B_9 A8_9 A9_9; clear hW
     refine wpAnyH_done (by kernel_rfl) ?_ _
     go_wp2_with fail
     go_meet
     case rel => exact ⟨_, _, rfl, rfl, A8_10.out.1, A9_10.out.1, B_10.out⟩
    ·go_simp
     obtain ⟨q1, q2⟩ := box1 w6 [.int .i64 0, .int .i64 0] 30; have hU := Below.steps B_6.out q2
     clear hH; refine hK.out _ _ ⟨HG.out.1 _ hU, HG.out.2 _ hU⟩ fun hH => ?_; clear hK KK
     try simp only [nrm]
     refine anyH_world (fun w7 hW => ?_)
     have B_7 : Hid (Below w3.heap.size w3 w7) := by rw [hW]; exact hU
     have A9_7 : Hid (AtN w7 w6.heap.size [.int .i64 0, .int .i64 0] 30 ∧ w3.heap.size ≤ w6.heap.size) := by rw [hW]; exact ⟨q1, B_6.out.size⟩
     rw [← hW] at hH; clear hU q1 q2 B_6
     clear hW
     refine step_one 8 rfl (by kernel_rfl) (fun KK hK => ?_)
     go_simp; obtain ⟨q1, q2⟩ := box1 w7 [.int .i64 0, .int .i64 0] 30
     have hU := Below.steps B_7.out q2
     clear hH; refine hK.out _ _ ⟨HG.out.1 _ hU, HG.out.2 _ hU⟩ fun hH => ?_; clear hK KK
     try simp only [nrm]
     refine anyH_world (fun w8 hW => ?_)
     have B_8 : Hid (Below w3.heap.size w3 w8) := by rw [hW]; exact hU
     have A8_8 : Hid (AtN w8 w7.heap.size [.int .i64 0, .int .i64 0] 30 ∧ w3.heap.size ≤ w7.heap.size) := by rw [hW]; exact ⟨q1, B_7.out.size⟩
     have A9_8 : Hid (AtN w8 w6.heap.size [.int .i64 0, .int .i64 0] 30 ∧ w3.heap.size ≤ w6.heap.size) := by rw [hW]; exact ⟨A9_7.out.1.below q2, A9_7.out.2⟩
     have NE : Hid (w6.heap.size ≠ w7.heap.size) := Nat.ne_of_lt A9_7.out.1.lt
     rw [← hW] at hH; clear hU q1 q2 B_7 A9_7
     clear hW; obtain ⟨sb0, sb1⟩ := A8_8.out.1.c2; have sf0 := A8_8.out.1.fz 0; have sf1 := A8_8.out.1.fz 1
     refine step_one 10 rfl (by kernel_rfl) (fun KK hK => ?_)
     go_simp; clear sb0 sb1 sf0 sf1
     have hU := B_8.out.grown (grown_put2 w8 w7.heap.size 0 (.int .i64 c1) (.int .i64 d1)) B_8.out.size (fun r e => by cases e; exact A8_8.out.2)
     clear hH; refine hK.out _ _ ⟨HG.out.1 _ hU, HG.out.2 _ hU⟩ fun hH => ?_; clear hK KK
     try simp only [nrm]
     refine anyH_world (fun w9 hW => ?_)
     have B_9 : Hid (Below w3.heap.size w3 w9) := by rw [hW]; exact hU
     have A8_9 : Hid (AtN w9 w7.heap.size [.int .i64 c1, .int .i64 d1] 30 ∧ w3.heap.size ≤ w7.heap.size) := by rw [hW]; exact ⟨(A8_8.out.1.set 0 _).set 1 _, A8_8.out.2⟩
     have A9_9 := And.intro ((A9_8.out.1.far NE.out.symm 0 (.int .i64 c1)).far NE.out.symm 1 (.int .i64 d1)) A9_8.out.2; rw [← hW] at hH A9_9; have A9_9 := hid A9_9; clear hU B_8 A8_8 A9_8; clear hW; obtain ⟨sb0, sb1⟩ := A9_9.out.1.c2; have sf0 := A9_9.out.1.fz 0; have sf1 := A9_9.out.1.fz 1
     refine step_one 11 rfl (by kernel_rfl) (fun KK hK => ?_)
     go_simp; clear sb0 sb1 sf0 sf1
     have hU := B_9.out.grown (grown_put2 w9 w6.heap.size 0 (.int .i64 c2) (.int .i64 d2)) B_9.out.size (fun r e => by cases e; exact A9_9.out.2)
     clear hH; refine hK.out _ _ ⟨HG.out.1 _ hU, HG.out.2 _ hU⟩ fun hH => ?_; clear hK KK
     try simp only [nrm]
     refine anyH_world (fun w10 hW => ?_)
     have B_10 : Hid (Below w3.heap.size w3 w10) := by rw [hW]; exact hU
     have A9_10 : Hid (AtN w10 w6.heap.size [.int .i64 c2, .int .i64 d2] 30 ∧ w3.heap.size ≤ w6.heap.size) := by rw [hW]; exact ⟨(A9_9.out.1.set 0 _).set 1 _, A9_9.out.2⟩
     have A8_10 := And.intro ((A8_9.out.1.far (NE.out.symm).symm 0 (.int .i64 c2)).far (NE.out.symm).symm 1 (.int .i64 d2)) A8_9.out.2; rw [← hW] at hH A8_10; have A8_10 := hid A8_10; clear hU B_9 A8_9 A9_9; clear hW
     refine wpAnyH_done (by kernel_rfl) ?_ _
     go_wp2_with fail
     go_meet
     case rel => exact ⟨_, _, rfl, rfl, A8_10.out.1, A9_10.out.1, B_10.out⟩
   ·go_simp
    obtain ⟨q1, q2⟩ := box1 w5 [.int .i64 0, .int .i64 0] 30; have hU := Below.steps B_5.out q2
    clear hH; refine hK.out _ _ ⟨HG.out.1 _ hU, HG.out.2 _ hU⟩ fun hH => ?_; clear hK KK
    try simp only [nrm]
    refine anyH_world (fun w6 hW => ?_)
    have B_6 : Hid (Below w3.heap.size w3 w6) := by rw [hW]; exact hU
    have A8_6 : Hid (AtN w6 w5.heap.size [.int .i64 0, .int .i64 0] 30 ∧ w3.heap.size ≤ w5.heap.size) := by rw [hW]; exact ⟨q1, B_5.out.size⟩
    rw [← hW] at hH; clear hU q1 q2 B_5
    clear hW
    refine wpAnyH_ready (rs := [7, 9]) (by kernel_rfl) (by simp) (ready_cons rfl (fun KK hK => ?_) (ready_cons rfl (fun KK hK => ?_) (AllReadyH.nil)))
    ·go_simp
     refine (rrof_any c2 d2 (HZB.out.1.below B_6.out) HZB.out.2.1 HZB.out.2.2.1 HZB.out.2.2.2).mono ?_; rintro e w7 ⟨rfl, hB⟩
     have B_7 := hid (Below.steps B_6.out hB); have A8_7 := hid (And.intro (A8_6.out.1.below hB) A8_6.out.2); clear hB B_6 A8_6; go_wp2_with fail
     clear hH; refine hK.out _ _ ⟨HG.out.1 _ B_7.out, HG.out.2 _ B_7.out⟩ fun hH => ?_; clear hK KK
     try simp only [nrm]
     refine step_one 9 rfl (by kernel_rfl) (fun KK hK => ?_)
     go_simp; obtain ⟨q1, q2⟩ := box1 w7 [.int .i64 0, .int .i64 0] 30
     have hU := Below.steps B_7.out q2
     clear hH; refine hK.out _ _ ⟨HG.out.1 _ hU, HG.out.2 _ hU⟩ fun hH => ?_; clear hK KK
     try simp only [nrm]
     refine anyH_world (fun w8 hW => ?_)
     have B_8 : Hid (Below w3.heap.size w3 w8) := by rw [hW]; exact hU
     have A9_8 : Hid (AtN w8 w7.heap.size [.int .i64 0, .int .i64 0] 30 ∧ w3.heap.size ≤ w7.heap.size) := by rw [hW]; exact ⟨q1, B_7.out.size⟩
     have A8_8 : Hid (AtN w8 w5.heap.size [.int .i64 0, .int .i64 0] 30 ∧ w3.heap.size ≤ w5.heap.size) := by rw [hW]; exact ⟨A8_7.out.1.below q2, A8_7.out.2⟩
     have NE : Hid (w5.heap.size ≠ w7.heap.size) := Nat.ne_of_lt A8_7.out.1.lt
     rw [← hW] at hH; clear hU q1 q2 B_7 A8_7
     clear hW; obtain ⟨sb0, sb1⟩ := A8_8.out.1.c2; have sf0 := A8_8.out.1.fz 0; have sf1 := A8_8.out.1.fz 1
     refine step_one 10 rfl (by kernel_rfl) (fun KK hK => ?_)
     go_simp; clear sb0 sb1 sf0 sf1
     have hU := B_8.out.grown (grown_put2 w8 w5.heap.size 0 (.int .i64 c1) (.int .i64 d1)) B_8.out.size (fun r e => by cases e; exact A8_8.out.2)
     clear hH; refine hK.out _ _ ⟨HG.out.1 _ hU, HG.out.2 _ hU⟩ fun hH => ?_; clear hK KK
     try simp only [nrm]
     refine anyH_world (fun w9 hW => ?_)
     have B_9 : Hid (Below w3.heap.size w3 w9) := by rw [hW]; exact hU
     have A8_9 : Hid (AtN w9 w5.heap.size [.int .i64 c1, .int .i64 d1] 30 ∧ w3.heap.size ≤ w5.heap.size) := by rw [hW]; exact ⟨(A8_8.out.1.set 0 _).set 1 _, A8_8.out.2⟩
     have A9_9 := And.intro ((A9_8.out.1.far NE.out 0 (.int .i64 c1)).far NE.out 1 (.int .i64 d1)) A9_8.out.2; rw [← hW] at hH A9_9; have A9_9 := hid A9_9; clear hU B_8 A8_8 A9_8; clear hW; obtain ⟨sb0, sb1⟩ := A9_9.out.1.c2; have sf0 := A9_9.out.1.fz 0; have sf1 := A9_9.out.1.fz 1
     refine step_one 11 rfl (by kernel_rfl) (fun KK hK => ?_)
     go_simp; clear sb0 sb1 sf0 sf1
     have hU := B_9.out.grown (grown_put2 w9 w7.heap.size 0 (.int .i64 c2) (.int .i64 d2)) B_9.out.size (fun r e => by cases e; exact A9_9.out.2)
     clear hH; refine hK.out _ _ ⟨HG.out.1 _ hU, HG.out.2 _ hU⟩ fun hH => ?_; clear hK KK
     try simp only [nrm]
     refine anyH_world (fun w10 hW => ?_)
     have B_10 : Hid (Below w3.heap.size w3 w10) := by rw [hW]; exact hU
     have A9_10 : Hid (AtN w10 w7.heap.size [.int .i64 c2, .int .i64 d2] 30 ∧ w3.heap.size ≤ w7.heap.size) := by rw [hW]; exact ⟨(A9_9.out.1.set 0 _).set 1 _, A9_9.out.2⟩
     have A8_10 := And.intro ((A8_9.out.1.far (NE.out).symm 0 (.int .i64 c2)).far (NE.out).symm 1 (.int .i64 d2)) A8_9.out.2; rw [← hW] at hH A8_10; have A8_10 := hid A8_10; clear hU B_9 A8_9 A9_9; clear hW
     refine wpAnyH_done (by kernel_rfl) ?_ _
     go_wp2_with fail
     go_meet
     case rel => exact ⟨_, _, rfl, rfl, A8_10.out.1, A9_10.out.1, B_10.out⟩
    ·go_simp
     obtain ⟨q1, q2⟩ := box1 w6 [.int .i64 0, .int .i64 0] 30; have hU := Below.steps B_6.out q2
     clear hH; refine hK.out _ _ ⟨HG.out.1 _ hU, HG.out.2 _ hU⟩ fun hH => ?_; clear hK KK
     try simp only [nrm]
     refine anyH_world (fun w7 hW => ?_)
     have B_7 : Hid (Below w3.heap.size w3 w7) := by rw [hW]; exact hU
     have A9_7 : Hid (AtN w7 w6.heap.size [.int .i64 0, .int .i64 0] 30 ∧ w3.heap.size ≤ w6.heap.size) := by rw [hW]; exact ⟨q1, B_6.out.size⟩
     have A8_7 : Hid (AtN w7 w5.heap.size [.int .i64 0, .int .i64 0] 30 ∧ w3.heap.size ≤ w5.heap.size) := by rw [hW]; exact ⟨A8_6.out.1.below q2, A8_6.out.2⟩
     have NE : Hid (w5.heap.size ≠ w6.heap.size) := Nat.ne_of_lt A8_6.out.1.lt
     rw [← hW] at hH; clear hU q1 q2 B_6 A8_6
     clear hW
     refine step_one 7 rfl (by kernel_rfl) (fun KK hK => ?_)
     go_simp; refine (rrof_any c2 d2 (HZB.out.1.below B_7.out) HZB.out.2.1 HZB.out.2.2.1 HZB.out.2.2.2).mono ?_
     rintro e w8 ⟨rfl, hB⟩; have B_8 := hid (Below.steps B_7.out hB); have A8_8 := hid (And.intro (A8_7.out.1.below hB) A8_7.out.2); have A9_8 := hid (And.intro (A9_7.out.1.below hB) A9_7.out.2); clear hB B_7 A8_7 A9_7; go_wp2_with fail
     clear hH; refine hK.out _ _ ⟨HG.out.1 _ B_8.out, HG.out.2 _ B_8.out⟩ fun hH => ?_; clear hK KK
     try simp only [nrm]
     obtain ⟨sb0, sb1⟩ := A8_8.out.1.c2; have sf0 := A8_8.out.1.fz 0; have sf1 := A8_8.out.1.fz 1
     refine step_one 10 rfl (by kernel_rfl) (fun KK hK => ?_)
     go_simp; clear sb0 sb1 sf0 sf1
     have hU := B_8.out.grown (grown_put2 w8 w5.heap.size 0 (.int .i64 c1) (.int .i64 d1)) B_8.out.size (fun r e => by cases e; exact A8_8.out.2)
     clear hH; refine hK.out _ _ ⟨HG.out.1 _ hU, HG.out.2 _ hU⟩ fun hH => ?_; clear hK KK
     try simp only [nrm]
     refine anyH_world (fun w9 hW => ?_)
     have B_9 : Hid (Below w3.heap.size w3 w9) := by rw [hW]; exact hU
     have A8_9 : Hid (AtN w9 w5.heap.size [.int .i64 c1, .int .i64 d1] 30 ∧ w3.heap.size ≤ w5.heap.size) := by rw [hW]; exact ⟨(A8_8.out.1.set 0 _).set 1 _, A8_8.out.2⟩
     have A9_9 := And.intro ((A9_8.out.1.far NE.out 0 (.int .i64 c1)).far NE.out 1 (.int .i64 d1)) A9_8.out.2; rw [← hW] at hH A9_9; have A9_9 := hid A9_9; clear hU B_8 A8_8 A9_8; clear hW; obtain ⟨sb0, sb1⟩ := A9_9.out.1.c2; have sf0 := A9_9.out.1.fz 0; have sf1 := A9_9.out.1.fz 1
     refine step_one 11 rfl (by kernel_rfl) (fun KK hK => ?_)
     go_simp; clear sb0 sb1 sf0 sf1
     have hU := B_9.out.grown (grown_put2 w9 w6.heap.size 0 (.int .i64 c2) (.int .i64 d2)) B_9.out.size (fun r e => by cases e; exact A9_9.out.2)
     clear hH; refine hK.out _ _ ⟨HG.out.1 _ hU, HG.out.2 _ hU⟩ fun hH => ?_; clear hK KK
     try simp only [nrm]
     refine anyH_world (fun w10 hW => ?_)
     have B_10 : Hid (Below w3.heap.size w3 w10) := by rw [hW]; exact hU
     have A9_10 : Hid (AtN w10 w6.heap.size [.int .i64 c2, .int .i64 d2] 30 ∧ w3.heap.size ≤ w6.heap.size) := by rw [hW]; exact ⟨(A9_9.out.1.set 0 _).set 1 _, A9_9.out.2⟩
     have A8_10 := And.intro ((A8_9.out.1.far (NE.out).symm 0 (.int .i64 c2)).far (NE.out).symm 1 (.int .i64 d2)) A8_9.out.2; rw [← hW] at hH A8_10; have A8_10 := hid A8_10; clear hU B_9 A8_9 A9_9; clear hW
     refine wpAnyH_done (by kernel_rfl) ?_ _
     go_wp2_with fail
     go_meet
     case rel => exact ⟨_, _, rfl, rfl, A8_10.out.1, A9_10.out.1, B_10.out⟩
   ·go_simp
    obtain ⟨q1, q2⟩ := box1 w5 [.int .i64 0, .int .i64 0] 30; have hU := Below.steps B_5.out q2
    clear hH; refine hK.out _ _ ⟨HG.out.1 _ hU, HG.out.2 _ hU⟩ fun hH => ?_; clear hK KK
    try simp only [nrm]
    refine anyH_world (fun w6 hW => ?_)
    have B_6 : Hid (Below w3.heap.size w3 w6) := by rw [hW]; exact hU
    have A9_6 : Hid (AtN w6 w5.heap.size [.int .i64 0, .int .i64 0] 30 ∧ w3.heap.size ≤ w5.heap.size) := by rw [hW]; exact ⟨q1, B_5.out.size⟩
    rw [← hW] at hH; clear hU q1 q2 B_5
    clear hW
    refine wpAnyH_ready (rs := [7, 8]) (by kernel_rfl) (by simp) (ready_cons rfl (fun KK hK => ?_) (ready_cons rfl (fun KK hK => ?_) (AllReadyH.nil)))
    ·go_simp
     refine (rrof_any c2 d2 (HZB.out.1.below B_6.out) HZB.out.2.1 HZB.out.2.2.1 HZB.out.2.2.2).mono ?_; rintro e w7 ⟨rfl, hB⟩
     have B_7 := hid (Below.steps B_6.out hB); have A9_7 := hid (And.intro (A9_6.out.1.below hB) A9_6.out.2); clear hB B_6 A9_6; go_wp2_with fail
     clear hH; refine hK.out _ _ ⟨HG.out.1 _ B_7.out, HG.out.2 _ B_7.out⟩ fun hH => ?_; clear hK KK
     try simp only [nrm]
     refine step_one 8 rfl (by kernel_rfl) (fun KK hK => ?_)
     go_simp; obtain ⟨q1, q2⟩ := box1 w7 [.int .i64 0, .int .i64 0] 30
     have hU := Below.steps B_7.out q2
     clear hH; refine hK.out _ _ ⟨HG.out.1 _ hU, HG.out.2 _ hU⟩ fun hH => ?_; clear hK KK
     try simp only [nrm]
     refine anyH_world (fun w8 hW => ?_)
     have B_8 : Hid (Below w3.heap.size w3 w8) := by rw [hW]; exact hU
     have A8_8 : Hid (AtN w8 w7.heap.size [.int .i64 0, .int .i64 0] 30 ∧ w3.heap.size ≤ w7.heap.size) := by rw [hW]; exact ⟨q1, B_7.out.size⟩
     have A9_8 : Hid (AtN w8 w5.heap.size [.int .i64 0, .int .i64 0] 30 ∧ w3.heap.size ≤ w5.heap.size) := by rw [hW]; exact ⟨A9_7.out.1.below q2, A9_7.out.2⟩
     have NE : Hid (w5.heap.size ≠ w7.heap.size) := Nat.ne_of_lt A9_7.out.1.lt
     rw [← hW] at hH; clear hU q1 q2 B_7 A9_7
     clear hW; obtain ⟨sb0, sb1⟩ := A8_8.out.1.c2; have sf0 := A8_8.out.1.fz 0; have sf1 := A8_8.out.1.fz 1
     refine step_one 10 rfl (by kernel_rfl) (fun KK hK => ?_)
     go_simp; clear sb0 sb1 sf0 sf1
     have hU := B_8.out.grown (grown_put2 w8 w7.heap.size 0 (.int .i64 c1) (.int .i64 d1)) B_8.out.size (fun r e => by cases e; exact A8_8.out.2)
     clear hH; refine hK.out _ _ ⟨HG.out.1 _ hU, HG.out.2 _ hU⟩ fun hH => ?_; clear hK KK
     try simp only [nrm]
     refine anyH_world (fun w9 hW => ?_)
     have B_9 : Hid (Below w3.heap.size w3 w9) := by rw [hW]; exact hU
     have A8_9 : Hid (AtN w9 w7.heap.size [.int .i64 c1, .int .i64 d1] 30 ∧ w3.heap.size ≤ w7.heap.size) := by rw [hW]; exact ⟨(A8_8.out.1.set 0 _).set 1 _, A8_8.out.2⟩
     have A9_9 := And.intro ((A9_8.out.1.far NE.out.symm 0 (.int .i64 c1)).far NE.out.symm 1 (.int .i64 d1)) A9_8.out.2; rw [← hW] at hH A9_9; have A9_9 := hid A9_9; clear hU B_8 A8_8 A9_8; clear hW; obtain ⟨sb0, sb1⟩ := A9_9.out.1.c2; have sf0 := A9_9.out.1.fz 0; have sf1 := A9_9.out.1.fz 1
     refine step_one 11 rfl (by kernel_rfl) (fun KK hK => ?_)
     go_simp; clear sb0 sb1 sf0 sf1
     have hU := B_9.out.grown (grown_put2 w9 w5.heap.size 0 (.int .i64 c2) (.int .i64 d2)) B_9.out.size (fun r e => by cases e; exact A9_9.out.2)
     clear hH; refine hK.out _ _ ⟨HG.out.1 _ hU, HG.out.2 _ hU⟩ fun hH => ?_; clear hK KK
     try simp only [nrm]
     refine anyH_world (fun w10 hW => ?_)
     have B_10 : Hid (Below w3.heap.size w3 w10) := by rw [hW]; exact hU
     have A9_10 : Hid (AtN w10 w5.heap.size [.int .i64 c2, .int .i64 d2] 30 ∧ w3.heap.size ≤ w5.heap.size) := by rw [hW]; exact ⟨(A9_9.out.1.set 0 _).set 1 _, A9_9.out.2⟩
     have A8_10 := And.intro ((A8_9.out.1.far (NE.out.symm).symm 0 (.int .i64 c2)).far (NE.out.symm).symm 1 (.int .i64 d2)) A8_9.out.2; rw [← hW] at hH A8_10; have A8_10 := hid A8_10; clear hU B_9 A8_9 A9_9; clear hW
     refine wpAnyH_done (by kernel_rfl) ?_ _
     go_wp2_with fail
     go_meet
     case rel => exact ⟨_, _, rfl, rfl, A8_10.out.1, A9_10.out.1, B_10.out⟩
    ·go_simp
     obtain ⟨q1, q2⟩ := box1 w6 [.int .i64 0, .int .i64 0] 30; have hU := Below.steps B_6.out q2
     clear hH; refine hK.out _ _ ⟨HG.out.1 _ hU, HG.out.2 _ hU⟩ fun hH => ?_; clear hK KK
     try simp only [nrm]
     refine anyH_world (fun w7 hW => ?_)
     have B_7 : Hid (Below w3.heap.size w3 w7) := by rw [hW]; exact hU
     have A8_7 : Hid (AtN w7 w6.heap.size [.int .i64 0, .int .i64 0] 30 ∧ w3.heap.size ≤ w6.heap.size) := by rw [hW]; exact ⟨q1, B_6.out.size⟩
     have A9_7 : Hid (AtN w7 w5.heap.size [.int .i64 0, .int .i64 0] 30 ∧ w3.heap.size ≤ w5.heap.size) := by rw [hW]; exact ⟨A9_6.out.1.below q2, A9_6.out.2⟩
     have NE : Hid (w5.heap.size ≠ w6.heap.size) := Nat.ne_of_lt A9_6.out.1.lt
     rw [← hW] at hH; clear hU q1 q2 B_6 A9_6
     clear hW
     refine step_one 7 rfl (by kernel_rfl) (fun KK hK => ?_)
     go_simp; refine (rrof_any c2 d2 (HZB.out.1.below B_7.out) HZB.out.2.1 HZB.out.2.2.1 HZB.out.2.2.2).mono ?_
     rintro e w8 ⟨rfl, hB⟩; have B_8 := hid (Below.steps B_7.out hB); have A9_8 := hid (And.intro (A9_7.out.1.below hB) A9_7.out.2); have A8_8 := hid (And.intro (A8_7.out.1.below hB) A8_7.out.2); clear hB B_7 A9_7 A8_7; go_wp2_with fail
     clear hH; refine hK.out _ _ ⟨HG.out.1 _ B_8.out, HG.out.2 _ B_8.out⟩ fun hH => ?_; clear hK KK
     try simp only [nrm]
     obtain ⟨sb0, sb1⟩ := A8_8.out.1.c2; have sf0 := A8_8.out.1.fz 0; have sf1 := A8_8.out.1.fz 1
     refine step_one 10 rfl (by kernel_rfl) (fun KK hK => ?_)
     go_simp; clear sb0 sb1 sf0 sf1
     have hU := B_8.out.grown (grown_put2 w8 w6.heap.size 0 (.int .i64 c1) (.int .i64 d1)) B_8.out.size (fun r e => by cases e; exact A8_8.out.2)
     clear hH; refine hK.out _ _ ⟨HG.out.1 _ hU, HG.out.2 _ hU⟩ fun hH => ?_; clear hK KK
     try simp only [nrm]
     refine anyH_world (fun w9 hW => ?_)
     have B_9 : Hid (Below w3.heap.size w3 w9) := by rw [hW]; exact hU
     have A8_9 : Hid (AtN w9 w6.heap.size [.int .i64 c1, .int .i64 d1] 30 ∧ w3.heap.size ≤ w6.heap.size) := by rw [hW]; exact ⟨(A8_8.out.1.set 0 _).set 1 _, A8_8.out.2⟩
     have A9_9 := And.intro ((A9_8.out.1.far NE.out.symm 0 (.int .i64 c1)).far NE.out.symm 1 (.int .i64 d1)) A9_8.out.2; rw [← hW] at hH A9_9; have A9_9 := hid A9_9; clear hU B_8 A8_8 A9_8; clear hW; obtain ⟨sb0, sb1⟩ := A9_9.out.1.c2; have sf0 := A9_9.out.1.fz 0; have sf1 := A9_9.out.1.fz 1
     refine step_one 11 rfl (by kernel_rfl) (fun KK hK => ?_)
     go_simp; clear sb0 sb1 sf0 sf1
     have hU := B_9.out.grown (grown_put2 w9 w5.heap.size 0 (.int .i64 c2) (.int .i64 d2)) B_9.out.size (fun r e => by cases e; exact A9_9.out.2)
     clear hH; refine hK.out _ _ ⟨HG.out.1 _ hU, HG.out.2 _ hU⟩ fun hH => ?_; clear hK KK
     try simp only [nrm]
     refine anyH_world (fun w10 hW => ?_)
     have B_10 : Hid (Below w3.heap.size w3 w10) := by rw [hW]; exact hU
     have A9_10 : Hid (AtN w10 w5.heap.size [.int .i64 c2, .int .i64 d2] 30 ∧ w3.heap.size ≤ w5.heap.size) := by rw [hW]; exact ⟨(A9_9.out.1.set 0 _).set 1 _, A9_9.out.2⟩
     have A8_10 := And.intro ((A8_9.out.1.far (NE.out.symm).symm 0 (.int .i64 c2)).far (NE.out.symm).symm 1 (.int .i64 d2)) A8_9.out.2; rw [← hW] at hH A8_10; have A8_10 := hid A8_10; clear hU B_9 A8_9 A9_9; clear hW
     refine wpAnyH_done (by kernel_rfl) ?_ _
     go_wp2_with fail
     go_meet
     case rel => exact ⟨_, _, rfl, rfl, A8_10.out.1, A9_10.out.1, B_10.out⟩
  ·go_simp
   obtain ⟨q1, q2⟩ := box1 w4 [.int .i64 0, .int .i64 0] 30; have hU := Below.steps B_4.out q2
   clear hH; refine hK.out _ _ ⟨HG.out.1 _ hU, HG.out.2 _ hU⟩ fun hH => ?_; clear hK KK
   try simp only [nrm]
   refine anyH_world (fun w5 hW => ?_)
   have B_5 : Hid (Below w3.heap.size w3 w5) := by rw [hW]; exact hU
   have A8_5 : Hid (AtN w5 w4.heap.size [.int .i64 0, .int .i64 0] 30 ∧ w3.heap.size ≤ w4.heap.size) := by rw [hW]; exact ⟨q1, B_4.out.size⟩
   rw [← hW] at hH; clear hU q1 q2 B_4
   clear hW
   refine wpAnyH_ready (rs := [3, 9]) (by kernel_rfl) (by simp) (ready_cons rfl (fun KK hK => ?_) (ready_cons rfl (fun KK hK => ?_) (AllReadyH.nil)))
   ·go_simp
    refine (rrof_any c1 d1 (HZA.out.1.below B_5.out) HZA.out.2.1 HZA.out.2.2.1 HZA.out.2.2.2).mono ?_; rintro e w6 ⟨rfl, hB⟩
    have B_6 := hid (Below.steps B_5.out hB); have A8_6 := hid (And.intro (A8_5.out.1.below hB) A8_5.out.2); clear hB B_5 A8_5; go_wp2_with fail
    clear hH; refine hK.out _ _ ⟨HG.out.1 _ B_6.out, HG.out.2 _ B_6.out⟩ fun hH => ?_; clear hK KK
    try simp only [nrm]
    refine wpAnyH_ready (rs := [7, 9]) (by kernel_rfl) (by simp) (ready_cons rfl (fun KK hK => ?_) (ready_cons rfl (fun KK hK => ?_) (AllReadyH.nil)))
    ·go_simp
     refine (rrof_any c2 d2 (HZB.out.1.below B_6.out) HZB.out.2.1 HZB.out.2.2.1 HZB.out.2.2.2).mono ?_; rintro e w7 ⟨rfl, hB⟩
     have B_7 := hid (Below.steps B_6.out hB); have A8_7 := hid (And.intro (A8_6.out.1.below hB) A8_6.out.2); clear hB B_6 A8_6; go_wp2_with fail
     clear hH; refine hK.out _ _ ⟨HG.out.1 _ B_7.out, HG.out.2 _ B_7.out⟩ fun hH => ?_; clear hK KK
     try simp only [nrm]
     refine step_one 9 rfl (by kernel_rfl) (fun KK hK => ?_)
     go_simp; obtain ⟨q1, q2⟩ := box1 w7 [.int .i64 0, .int .i64 0] 30
     have hU := Below.steps B_7.out q2
     clear hH; refine hK.out _ _ ⟨HG.out.1 _ hU, HG.out.2 _ hU⟩ fun hH => ?_; clear hK KK
     try simp only [nrm]
     refine anyH_world (fun w8 hW => ?_)
     have B_8 : Hid (Below w3.heap.size w3 w8) := by rw [hW]; exact hU
     have A9_8 : Hid (AtN w8 w7.heap.size [.int .i64 0, .int .i64 0] 30 ∧ w3.heap.size ≤ w7.heap.size) := by rw [hW]; exact ⟨q1, B_7.out.size⟩
     have A8_8 : Hid (AtN w8 w4.heap.size [.int .i64 0, .int .i64 0] 30 ∧ w3.heap.size ≤ w4.heap.size) := by rw [hW]; exact ⟨A8_7.out.1.below q2, A8_7.out.2⟩
     have NE : Hid (w4.heap.size ≠ w7.heap.size) := Nat.ne_of_lt A8_7.out.1.lt
     rw [← hW] at hH; clear hU q1 q2 B_7 A8_7
     clear hW; obtain ⟨sb0, sb1⟩ := A8_8.out.1.c2; have sf0 := A8_8.out.1.fz 0; have sf1 := A8_8.out.1.fz 1
     refine step_one 10 rfl (by kernel_rfl) (fun KK hK => ?_)
     go_simp; clear sb0 sb1 sf0 sf1
     have hU := B_8.out.grown (grown_put2 w8 w4.heap.size 0 (.int .i64 c1) (.int .i64 d1)) B_8.out.size (fun r e => by cases e; exact A8_8.out.2)
     clear hH; refine hK.out _ _ ⟨HG.out.1 _ hU, HG.out.2 _ hU⟩ fun hH => ?_; clear hK KK
     try simp only [nrm]
     refine anyH_world (fun w9 hW => ?_)
     have B_9 : Hid (Below w3.heap.size w3 w9) := by rw [hW]; exact hU
     have A8_9 : Hid (AtN w9 w4.heap.size [.int .i64 c1, .int .i64 d1] 30 ∧ w3.heap.size ≤ w4.heap.size) := by rw [hW]; exact ⟨(A8_8.out.1.set 0 _).set 1 _, A8_8.out.2⟩
     have A9_9 := And.intro ((A9_8.out.1.far NE.out 0 (.int .i64 c1)).far NE.out 1 (.int .i64 d1)) A9_8.out.2; rw [← hW] at hH A9_9; have A9_9 := hid A9_9; clear hU B_8 A8_8 A9_8; clear hW; obtain ⟨sb0, sb1⟩ := A9_9.out.1.c2; have sf0 := A9_9.out.1.fz 0; have sf1 := A9_9.out.1.fz 1
     refine step_one 11 rfl (by kernel_rfl) (fun KK hK => ?_)
     go_simp; clear sb0 sb1 sf0 sf1
     have hU := B_9.out.grown (grown_put2 w9 w7.heap.size 0 (.int .i64 c2) (.int .i64 d2)) B_9.out.size (fun r e => by cases e; exact A9_9.out.2)
     clear hH; refine hK.out _ _ ⟨HG.out.1 _ hU, HG.out.2 _ hU⟩ fun hH => ?_; clear hK KK
     try simp only [nrm]
     refine anyH_world (fun w10 hW => ?_)
     have B_10 : Hid (Below w3.heap.size w3 w10) := by rw [hW]; exact hU
     have A9_10 : Hid (AtN w10 w7.heap.size [.int .i64 c2, .int .i64 d2] 30 ∧ w3.heap.size ≤ w7.heap.size) := by rw [hW]; exact ⟨(A9_9.out.1.set 0 _).set 1 _, A9_9.out.2⟩
     have A8_10 := And.intro ((A8_9.out.1.far (NE.out).symm 0 (.int .i64 c2)).far (NE.out).symm 1 (.int .i64 d2)) A8_9.out.2; rw [← hW] at hH A8_10; have A8_10 := hid A8_10; clear hU B_9 A8_9 A9_9; clear hW
     refine wpAnyH_done (by kernel_rfl) ?_ _
     go_wp2_with fail
     go_meet
     case rel => exact ⟨_, _, rfl, rfl, A8_10.out.1, A9_10.out.1, B_10.out⟩
    ·go_simp
     obtain ⟨q1, q2⟩ := box1 w6 [.int .i64 0, .int .i64 0] 30; have hU := Below.steps B_6.out q2
     clear hH; refine hK.out _ _ ⟨HG.out.1 _ hU, HG.out.2 _ hU⟩ fun hH => ?_; clear hK KK
     try simp only [nrm]
     refine anyH_world (fun w7 hW => ?_)
     have B_7 : Hid (Below w3.heap.size w3 w7) := by rw [hW]; exact hU
     have A9_7 : Hid (AtN w7 w6.heap.size [.int .i64 0, .int .i64 0] 30 ∧ w3.heap.size ≤ w6.heap.size) := by rw [hW]; exact ⟨q1, B_6.out.size⟩
     have A8_7 : Hid (AtN w7 w4.heap.size [.int .i64 0, .int .i64 0] 30 ∧ w3.heap.size ≤ w4.heap.size) := by rw [hW]; exact ⟨A8_6.out.1.below q2, A8_6.out.2⟩
     have NE : Hid (w4.heap.size ≠ w6.heap.size) := Nat.ne_of_lt A8_6.out.1.lt
     rw [← hW] at hH; clear hU q1 q2 B_6 A8_6
     clear hW
     refine step_one 7 rfl (by kernel_rfl) (fun KK hK => ?_)
     go_simp; refine (rrof_any c2 d2 (HZB.out.1.below B_7.out) HZB.out.2.1 HZB.out.2.2.1 HZB.out.2.2.2).mono ?_
     rintro e w8 ⟨rfl, hB⟩; have B_8 := hid (Below.steps B_7.out hB); have A8_8 := hid (And.intro (A8_7.out.1.below hB) A8_7.out.2); have A9_8 := hid (And.intro (A9_7.out.1.below hB) A9_7.out.2); clear hB B_7 A8_7 A9_7; go_wp2_with fail
     clear hH; refine hK.out _ _ ⟨HG.out.1 _ B_8.out, HG.out.2 _ B_8.out⟩ fun hH => ?_; clear hK KK
     try simp only [nrm]
     obtain ⟨sb0, sb1⟩ := A8_8.out.1.c2; have sf0 := A8_8.out.1.fz 0; have sf1 := A8_8.out.1.fz 1
     refine step_one 10 rfl (by kernel_rfl) (fun KK hK => ?_)
     go_simp; clear sb0 sb1 sf0 sf1
     have hU := B_8.out.grown (grown_put2 w8 w4.heap.size 0 (.int .i64 c1) (.int .i64 d1)) B_8.out.size (fun r e => by cases e; exact A8_8.out.2)
     clear hH; refine hK.out _ _ ⟨HG.out.1 _ hU, HG.out.2 _ hU⟩ fun hH => ?_; clear hK KK
     try simp only [nrm]
     refine anyH_world (fun w9 hW => ?_)
     have B_9 : Hid (Below w3.heap.size w3 w9) := by rw [hW]; exact hU
     have A8_9 : Hid (AtN w9 w4.heap.size [.int .i64 c1, .int .i64 d1] 30 ∧ w3.heap.size ≤ w4.heap.size) := by rw [hW]; exact ⟨(A8_8.out.1.set 0 _).set 1 _, A8_8.out.2⟩
     have A9_9 := And.intro ((A9_8.out.1.far NE.out 0 (.int .i64 c1)).far NE.out 1 (.int .i64 d1)) A9_8.out.2; rw [← hW] at hH A9_9; have A9_9 := hid A9_9; clear hU B_8 A8_8 A9_8; clear hW; obtain ⟨sb0, sb1⟩ := A9_9.out.1.c2; have sf0 := A9_9.out.1.fz 0; have sf1 := A9_9.out.1.fz 1
     refine step_one 11 rfl (by kernel_rfl) (fun KK hK => ?_)
     go_simp; clear sb0 sb1 sf0 sf1
     have hU := B_9.out.grown (grown_put2 w9 w6.heap.size 0 (.int .i64 c2) (.int .i64 d2)) B_9.out.size (fun r e => by cases e; exact A9_9.out.2)
     clear hH; refine hK.out _ _ ⟨HG.out.1 _ hU, HG.out.2 _ hU⟩ fun hH => ?_; clear hK KK
     try simp only [nrm]
     refine anyH_world (fun w10 hW => ?_)
     have B_10 : Hid (Below w3.heap.size w3 w10) := by rw [hW]; exact hU
     have A9_10 : Hid (AtN w10 w6.heap.size [.int .i64 c2, .int .i64 d2] 30 ∧ w3.heap.size ≤ w6.heap.size) := by rw [hW]; exact ⟨(A9_9.out.1.set 0 _).set 1 _, A9_9.out.2⟩
     have A8_10 := And.intro ((A8_9.out.1.far (NE.out).symm 0 (.int .i64 c2)).far (NE.out).symm 1 (.int .i64 d2)) A8_9.out.2; rw [← hW] at hH A8_10; have A8_10 := hid A8_10; clear hU B_9 A8_9 A9_9; clear hW
     refine wpAnyH_done (by kernel_rfl) ?_ _
     go_wp2_with fail
     go_meet
     case rel => exact ⟨_, _, rfl, rfl, A8_10.out.1, A9_10.out.1, B_10.out⟩
   ·go_simp
    obtain ⟨q1, q2⟩ := box1 w5 [.int .i64 0, .int .i64 0] 30; have hU := Below.steps B_5.out q2
    clear hH; refine hK.out _ _ ⟨HG.out.1 _ hU, HG.out.2 _ hU⟩ fun hH => ?_; clear hK KK
    try simp only [nrm]
    refine anyH_world (fun w6 hW => ?_)
    have B_6 : Hid (Below w3.heap.size w3 w6) := by rw [hW]; exact hU
    have A9_6 : Hid (AtN w6 w5.heap.size [.int .i64 0, .int .i64 0] 30 ∧ w3.heap.size ≤ w5.heap.size) := by rw [hW]; exact ⟨q1, B_5.out.size⟩
    have A8_6 : Hid (AtN w6 w4.heap.size [.int .i64 0, .int .i64 0] 30 ∧ w3.heap.size ≤ w4.heap.size) := by rw [hW]; exact ⟨A8_5.out.1.below q2, A8_5.out.2⟩
    have NE : Hid (w4.heap.size ≠ w5.heap.size) := Nat.ne_of_lt A8_5.out.1.lt
    rw [← hW] at hH; clear hU q1 q2 B_5 A8_5
    clear hW
    refine step_one 3 rfl (by kernel_rfl) (fun KK hK => ?_)
    go_simp; refine (rrof_any c1 d1 (HZA.out.1.below B_6.out) HZA.out.2.1 HZA.out.2.2.1 HZA.out.2.2.2).mono ?_
    rintro e w7 ⟨rfl, hB⟩; have B_7 := hid (Below.steps B_6.out hB); have A8_7 := hid (And.intro (A8_6.out.1.below hB) A8_6.out.2); have A9_7 := hid (And.intro (A9_6.out.1.below hB) A9_6.out.2); clear hB B_6 A8_6 A9_6; go_wp2_with fail
    clear hH; refine hK.out _ _ ⟨HG.out.1 _ B_7.out, HG.out.2 _ B_7.out⟩ fun hH => ?_; clear hK KK
    try simp only [nrm]
    refine step_one 7 rfl (by kernel_rfl) (fun KK hK => ?_)
    go_simp; refine (rrof_any c2 d2 (HZB.out.1.below B_7.out) HZB.out.2.1 HZB.out.2.2.1 HZB.out.2.2.2).mono ?_
    rintro e w8 ⟨rfl, hB⟩; have B_8 := hid (Below.steps B_7.out hB); have A8_8 := hid (And.intro (A8_7.out.1.below hB) A8_7.out.2); have A9_8 := hid (And.intro (A9_7.out.1.below hB) A9_7.out.2); clear hB B_7 A8_7 A9_7; go_wp2_with fail
    clear hH; refine hK.out _ _ ⟨HG.out.1 _ B_8.out, HG.out.2 _ B_8.out⟩ fun hH => ?_; clear hK KK
    try simp only [nrm]
    obtain ⟨sb0, sb1⟩ := A8_8.out.1.c2; have sf0 := A8_8.out.1.fz 0; have sf1 := A8_8.out.1.fz 1
    refine step_one 10 rfl (by kernel_rfl) (fun KK hK => ?_)
    go_simp; clear sb0 sb1 sf0 sf1
    have hU := B_8.out.grown (grown_put2 w8 w4.heap.size 0 (.int .i64 c1) (.int .i64 d1)) B_8.out.size (fun r e => by cases e; exact A8_8.out.2)
    clear hH; refine hK.out _ _ ⟨HG.out.1 _ hU, HG.out.2 _ hU⟩ fun hH => ?_; clear hK KK
    try simp only [nrm]
    refine anyH_world (fun w9 hW => ?_)
    have B_9 : Hid (Below w3.heap.size w3 w9) := by rw [hW]; exact hU
    have A8_9 : Hid (AtN w9 w4.heap.size [.int .i64 c1, .int .i64 d1] 30 ∧ w3.heap.size ≤ w4.heap.size) := by rw [hW]; exact ⟨(A8_8.out.1.set 0 _).set 1 _, A8_8.out.2⟩
    have A9_9 := And.intro ((A9_8.out.1.far NE.out 0 (.int .i64 c1)).far NE.out 1 (.int .i64 d1)) A9_8.out.2; rw [← hW] at hH A9_9; have A9_9 := hid A9_9; clear hU B_8 A8_8 A9_8; clear hW; obtain ⟨sb0, sb1⟩ := A9_9.out.1.c2; have sf0 := A9_9.out.1.fz 0; have sf1 := A9_9.out.1.fz 1
    refine step_one 11 rfl (by kernel_rfl) (fun KK hK => ?_)
    go_simp; clear sb0 sb1 sf0 sf1
    have hU := B_9.out.grown (grown_put2 w9 w5.heap.size 0 (.int .i64 c2) (.int .i64 d2)) B_9.out.size (fun r e => by cases e; exact A9_9.out.2)
    clear hH; refine hK.out _ _ ⟨HG.out.1 _ hU, HG.out.2 _ hU⟩ fun hH => ?_; clear hK KK
    try simp only [nrm]
    refine anyH_world (fun w10 hW => ?_)
    have B_10 : Hid (Below w3.heap.size w3 w10) := by rw [hW]; exact hU
    have A9_10 : Hid (AtN w10 w5.heap.size [.int .i64 c2, .int .i64 d2] 30 ∧ w3.heap.size ≤ w5.heap.size) := by rw [hW]; exact ⟨(A9_9.out.1.set 0 _).set 1 _, A9_9.out.2⟩
    have A8_10 := And.intro ((A8_9.out.1.far (NE.out).symm 0 (.int .i64 c2)).far (NE.out).symm 1 (.int .i64 d2)) A8_9.out.2; rw [← hW] at hH A8_10; have A8_10 := hid A8_10; clear hU B_9 A8_9 A9_9; clear hW
    refine wpAnyH_done (by kernel_rfl) ?_ _
    go_wp2_with fail
    go_meet
    case rel => exact ⟨_, _, rfl, rfl, A8_10.out.1, A9_10.out.1, B_10.out⟩
  ·go_simp
   obtain ⟨q1, q2⟩ := box1 w4 [.int .i64 0, .int .i64 0] 30; have hU := Below.steps B_4.out q2
   clear hH; refine hK.out _ _ ⟨HG.out.1 _ hU, HG.out.2 _ hU⟩ fun hH => ?_; clear hK KK
   try simp only [nrm]
   refine anyH_world (fun w5 hW => ?_)
   have B_5 : Hid (Below w3.heap.size w3 w5) := by rw [hW]; exact hU
   have A9_5 : Hid (AtN w5 w4.heap.size [.int .i64 0, .int .i64 0] 30 ∧ w3.heap.size ≤ w4.heap.size) := by rw [hW]; exact ⟨q1, B_4.out.size⟩
   rw [← hW] at hH; clear hU q1 q2 B_4
   clear hW
   refine wpAnyH_ready (rs := [3, 8]) (by kernel_rfl) (by simp) (ready_cons rfl (fun KK hK => ?_) (ready_cons rfl (fun KK hK => ?_) (AllReadyH.nil)))
   ·go_simp
    refine (rrof_any c1 d1 (HZA.out.1.below B_5.out) HZA.out.2.1 HZA.out.2.2.1 HZA.out.2.2.2).mono ?_; rintro e w6 ⟨rfl, hB⟩
    have B_6 := hid (Below.steps B_5.out hB); have A9_6 := hid (And.intro (A9_5.out.1.below hB) A9_5.out.2); clear hB B_5 A9_5; go_wp2_with fail
    clear hH; refine hK.out _ _ ⟨HG.out.1 _ B_6.out, HG.out.2 _ B_6.out⟩ fun hH => ?_; clear hK KK
    try simp only [nrm]
    refine wpAnyH_ready (rs := [7, 8]) (by kernel_rfl) (by simp) (ready_cons rfl (fun KK hK => ?_) (ready_cons rfl (fun KK hK => ?_) (AllReadyH.nil)))
    ·go_simp
     refine (rrof_any c2 d2 (HZB.out.1.below B_6.out) HZB.out.2.1 HZB.out.2.2.1 HZB.out.2.2.2).mono ?_; rintro e w7 ⟨rfl, hB⟩
     have B_7 := hid (Below.steps B_6.out hB); have A9_7 := hid (And.intro (A9_6.out.1.below hB) A9_6.out.2); clear hB B_6 A9_6; go_wp2_with fail
     clear hH; refine hK.out _ _ ⟨HG.out.1 _ B_7.out, HG.out.2 _ B_7.out⟩ fun hH => ?_; clear hK KK
     try simp only [nrm]
     refine step_one 8 rfl (by kernel_rfl) (fun KK hK => ?_)
     go_simp; obtain ⟨q1, q2⟩ := box1 w7 [.int .i64 0, .int .i64 0] 30
     have hU := Below.steps B_7.out q2
     clear hH; refine hK.out _ _ ⟨HG.out.1 _ hU, HG.out.2 _ hU⟩ fun hH => ?_; clear hK KK
     try simp only [nrm]
     refine anyH_world (fun w8 hW => ?_)
     have B_8 : Hid (Below w3.heap.size w3 w8) := by rw [hW]; exact hU
     have A8_8 : Hid (AtN w8 w7.heap.size [.int .i64 0, .int .i64 0] 30 ∧ w3.heap.size ≤ w7.heap.size) := by rw [hW]; exact ⟨q1, B_7.out.size⟩
     have A9_8 : Hid (AtN w8 w4.heap.size [.int .i64 0, .int .i64 0] 30 ∧ w3.heap.size ≤ w4.heap.size) := by rw [hW]; exact ⟨A9_7.out.1.below q2, A9_7.out.2⟩
     have NE : Hid (w4.heap.size ≠ w7.heap.size) := Nat.ne_of_lt A9_7.out.1.lt
     rw [← hW] at hH; clear hU q1 q2 B_7 A9_7
     clear hW; obtain ⟨sb0, sb1⟩ := A8_8.out.1.c2; have sf0 := A8_8.out.1.fz 0; have sf1 := A8_8.out.1.fz 1
     refine step_one 10 rfl (by kernel_rfl) (fun KK hK => ?_)
     go_simp; clear sb0 sb1 sf0 sf1
     have hU := B_8.out.grown (grown_put2 w8 w7.heap.size 0 (.int .i64 c1) (.int .i64 d1)) B_8.out.size (fun r e => by cases e; exact A8_8.out.2)
     clear hH; refine hK.out _ _ ⟨HG.out.1 _ hU, HG.out.2 _ hU⟩ fun hH => ?_; clear hK KK
     try simp only [nrm]
     refine anyH_world (fun w9 hW => ?_)
     have B_9 : Hid (Below w3.heap.size w3 w9) := by rw [hW]; exact hU
     have A8_9 : Hid (AtN w9 w7.heap.size [.int .i64 c1, .int .i64 d1] 30 ∧ w3.heap.size ≤ w7.heap.size) := by rw [hW]; exact ⟨(A8_8.out.1.set 0 _).set 1 _, A8_8.out.2⟩
     have A9_9 := And.intro ((A9_8.out.1.far NE.out.symm 0 (.int .i64 c1)).far NE.out.symm 1 (.int .i64 d1)) A9_8.out.2; rw [← hW] at hH A9_9; have A9_9 := hid A9_9; clear hU B_8 A8_8 A9_8; clear hW; obtain ⟨sb0, sb1⟩ := A9_9.out.1.c2; have sf0 := A9_9.out.1.fz 0; have sf1 := A9_9.out.1.fz 1
     refine step_one 11 rfl (by kernel_rfl) (fun KK hK => ?_)
     go_simp; clear sb0 sb1 sf0 sf1
     have hU := B_9.out.grown (grown_put2 w9 w4.heap.size 0 (.int .i64 c2) (.int .i64 d2)) B_9.out.size (fun r e => by cases e; exact A9_9.out.2)
     clear hH; refine hK.out _ _ ⟨HG.out.1 _ hU, HG.out.2 _ hU⟩ fun hH => ?_; clear hK KK
     try simp only [nrm]
     refine anyH_world (fun w10 hW => ?_)
     have B_10 : Hid (Below w3.heap.size w3 w10) := by rw [hW]; exact hU
     have A9_10 : Hid (AtN w10 w4.heap.size [.int .i64 c2, .int .i64 d2] 30 ∧ w3.heap.size ≤ w4.heap.size) := by rw [hW]; exact ⟨(A9_9.out.1.set 0 _).set 1 _, A9_9.out.2⟩
     have A8_10 := And.intro ((A8_9.out.1.far (NE.out.symm).symm 0 (.int .i64 c2)).far (NE.out.symm).symm 1 (.int .i64 d2)) A8_9.out.2; rw [← hW] at hH A8_10; have A8_10 := hid A8_10; clear hU B_9 A8_9 A9_9; clear hW
     refine wpAnyH_done (by kernel_rfl) ?_ _
     go_wp2_with fail
     go_meet
     case rel => exact ⟨_, _, rfl, rfl, A8_10.out.1, A9_10.out.1, B_10.out⟩
    ·go_simp
     obtain ⟨q1, q2⟩ := box1 w6 [.int .i64 0, .int .i64 0] 30; have hU := Below.steps B_6.out q2
     clear hH; refine hK.out _ _ ⟨HG.out.1 _ hU, HG.out.2 _ hU⟩ fun hH => ?_; clear hK KK
     try simp only [nrm]
     refine anyH_world (fun w7 hW => ?_)
     have B_7 : Hid (Below w3.heap.size w3 w7) := by rw [hW]; exact hU
     have A8_7 : Hid (AtN w7 w6.heap.size [.int .i64 0, .int .i64 0] 30 ∧ w3.heap.size ≤ w6.heap.size) := by rw [hW]; exact ⟨q1, B_6.out.size⟩
     have A9_7 : Hid (AtN w7 w4.heap.size [.int .i64 0, .int .i64 0] 30 ∧ w3.heap.size ≤ w4.heap.size) := by rw [hW]; exact ⟨A9_6.out.1.below q2, A9_6.out.2⟩
     have NE : Hid (w4.heap.size ≠ w6.heap.size) := Nat.ne_of_lt A9_6.out.1.lt
     rw [← hW] at hH; clear hU q1 q2 B_6 A9_6
     clear hW
     refine step_one 7 rfl (by kernel_rfl) (fun KK hK => ?_)
     go_simp; refine (rrof_any c2 d2 (HZB.out.1.below B_7.out) HZB.out.2.1 HZB.out.2.2.1 HZB.out.2.2.2).mono ?_
     rintro e w8 ⟨rfl, hB⟩; have B_8 := hid (Below.steps B_7.out hB); have A9_8 := hid (And.intro (A9_7.out.1.below hB) A9_7.out.2); have A8_8 := hid (And.intro (A8_7.out.1.below hB) A8_7.out.2); clear hB B_7 A9_7 A8_7; go_wp2_with fail
     clear hH; refine hK.out _ _ ⟨HG.out.1 _ B_8.out, HG.out.2 _ B_8.out⟩ fun hH => ?_; clear hK KK
     try simp only [nrm]
     obtain ⟨sb0, sb1⟩ := A8_8.out.1.c2; have sf0 := A8_8.out.1.fz 0; have sf1 := A8_8.out.1.fz 1
     refine step_one 10 rfl (by kernel_rfl) (fun KK hK => ?_)
     go_simp; clear sb0 sb1 sf0 sf1
     have hU := B_8.out.grown (grown_put2 w8 w6.heap.size 0 (.int .i64 c1) (.int .i64 d1)) B_8.out.size (fun r e => by cases e; exact A8_8.out.2)
     clear hH; refine hK.out _ _ ⟨HG.out.1 _ hU, HG.out.2 _ hU⟩ fun hH => ?_; clear hK KK
     try simp only [nrm]
     refine anyH_world (fun w9 hW => ?_)
     have B_9 : Hid (Below w3.heap.size w3 w9) := by rw [hW]; exact hU
     have A8_9 : Hid (AtN w9 w6.heap.size [.int .i64 c1, .int .i64 d1] 30 ∧ w3.heap.size ≤ w6.heap.size) := by rw [hW]; exact ⟨(A8_8.out.1.set 0 _).set 1 _, A8_8.out.2⟩
     have A9_9 := And.intro ((A9_8.out.1.far NE.out.symm 0 (.int .i64 c1)).far NE.out.symm 1 (.int .i64 d1)) A9_8.out.2; rw [← hW] at hH A9_9; have A9_9 := hid A9_9; clear hU B_8 A8_8 A9_8; clear hW; obtain ⟨sb0, sb1⟩ := A9_9.out.1.c2; have sf0 := A9_9.out.1.fz 0; have sf1 := A9_9.out.1.fz 1
     refine step_one 11 rfl (by kernel_rfl) (fun KK hK => ?_)
     go_simp; clear sb0 sb1 sf0 sf1
     have hU := B_9.out.grown (grown_put2 w9 w4.heap.size 0 (.int .i64 c2) (.int .i64 d2)) B_9.out.size (fun r e => by cases e; exact A9_9.out.2)
     clear hH; refine hK.out _ _ ⟨HG.out.1 _ hU, HG.out.2 _ hU⟩ fun hH => ?_; clear hK KK
     try simp only [nrm]
     refine anyH_world (fun w10 hW => ?_)
     have B_10 : Hid (Below w3.heap.size w3 w10) := by rw [hW]; exact hU
     have A9_10 : Hid (AtN w10 w4.heap.size [.int .i64 c2, .int .i64 d2] 30 ∧ w3.heap.size ≤ w4.heap.size) := by rw [hW]; exact ⟨(A9_9.out.1.set 0 _).set 1 _, A9_9.out.2⟩
     have A8_10 := And.intro ((A8_9.out.1.far (NE.out.symm).symm 0 (.int .i64 c2)).far (NE.out.symm).symm 1 (.int .i64 d2)) A8_9.out.2; rw [← hW] at hH A8_10; have A8_10 := hid A8_10; clear hU B_9 A8_9 A9_9; clear hW
     refine wpAnyH_done (by kernel_rfl) ?_ _
     go_wp2_with fail
     go_meet
     case rel => exact ⟨_, _, rfl, rfl, A8_10.out.1, A9_10.out.1, B_10.out⟩
   ·go_simp
    obtain ⟨q1, q2⟩ := box1 w5 [.int .i64 0, .int .i64 0] 30; have hU := Below.steps B_5.out q2
    clear hH; refine hK.out _ _ ⟨HG.out.1 _ hU, HG.out.2 _ hU⟩ fun hH => ?_; clear hK KK
    try simp only [nrm]
    refine anyH_world (fun w6 hW => ?_)
    have B_6 : Hid (Below w3.heap.size w3 w6) := by rw [hW]; exact hU
    have A8_6 : Hid (AtN w6 w5.heap.size [.int .i64 0, .int .i64 0] 30 ∧ w3.heap.size ≤ w5.heap.size) := by rw [hW]; exact ⟨q1, B_5.out.size⟩
    have A9_6 : Hid (AtN w6 w4.heap.size [.int .i64 0, .int .i64 0] 30 ∧ w3.heap.size ≤ w4.heap.size) := by rw [hW]; exact ⟨A9_5.out.1.below q2, A9_5.out.2⟩
    have NE : Hid (w4.heap.size ≠ w5.heap.size) := Nat.ne_of_lt A9_5.out.1.lt
    rw [← hW] at hH; clear hU q1 q2 B_5 A9_5
    clear hW
    refine step_one 3 rfl (by kernel_rfl) (fun KK hK => ?_)
    go_simp; refine (rrof_any c1 d1 (HZA.out.1.below B_6.out) HZA.out.2.1 HZA.out.2.2.1 HZA.out.2.2.2).mono ?_
    rintro e w7 ⟨rfl, hB⟩; have B_7 := hid (Below.steps B_6.out hB); have A9_7 := hid (And.intro (A9_6.out.1.below hB) A9_6.out.2); have A8_7 := hid (And.intro (A8_6.out.1.below hB) A8_6.out.2); clear hB B_6 A9_6 A8_6; go_wp2_with fail
    clear hH; refine hK.out _ _ ⟨HG.out.1 _ B_7.out, HG.out.2 _ B_7.out⟩ fun hH => ?_; clear hK KK
    try simp only [nrm]
    refine step_one 7 rfl (by kernel_rfl) (fun KK hK => ?_)
    go_simp; refine (rrof_any c2 d2 (HZB.out.1.below B_7.out) HZB.out.2.1 HZB.out.2.2.1 HZB.out.2.2.2).mono ?_
    rintro e w8 ⟨rfl, hB⟩; have B_8 := hid (Below.steps B_7.out hB); have A9_8 := hid (And.intro (A9_7.out.1.below hB) A9_7.out.2); have A8_8 := hid (And.intro (A8_7.out.1.below hB) A8_7.out.2); clear hB B_7 A9_7 A8_7; go_wp2_with fail
    clear hH; refine hK.out _ _ ⟨HG.out.1 _ B_8.out, HG.out.2 _ B_8.out⟩ fun hH => ?_; clear hK KK
    try simp only [nrm]
    obtain ⟨sb0, sb1⟩ := A8_8.out.1.c2; have sf0 := A8_8.out.1.fz 0; have sf1 := A8_8.out.1.fz 1
    refine step_one 10 rfl (by kernel_rfl) (fun KK hK => ?_)
    go_simp; clear sb0 sb1 sf0 sf1
    have hU := B_8.out.grown (grown_put2 w8 w5.heap.size 0 (.int .i64 c1) (.int .i64 d1)) B_8.out.size (fun r e => by cases e; exact A8_8.out.2)
    clear hH; refine hK.out _ _ ⟨HG.out.1 _ hU, HG.out.2 _ hU⟩ fun hH => ?_; clear hK KK
    try simp only [nrm]
    refine anyH_world (fun w9 hW => ?_)
    have B_9 : Hid (Below w3.heap.size w3 w9) := by rw [hW]; exact hU
    have A8_9 : Hid (AtN w9 w5.heap.size [.int .i64 c1, .int .i64 d1] 30 ∧ w3.heap.size ≤ w5.heap.size) := by rw [hW]; exact ⟨(A8_8.out.1.set 0 _).set 1 _, A8_8.out.2⟩
    have A9_9 := And.intro ((A9_8.out.1.far NE.out.symm 0 (.int .i64 c1)).far NE.out.symm 1 (.int .i64 d1)) A9_8.out.2; rw [← hW] at hH A9_9; have A9_9 := hid A9_9; clear hU B_8 A8_8 A9_8; clear hW; obtain ⟨sb0, sb1⟩ := A9_9.out.1.c2; have sf0 := A9_9.out.1.fz 0; have sf1 := A9_9.out.1.fz 1
    refine step_one 11 rfl (by kernel_rfl) (fun KK hK => ?_)
    go_simp; clear sb0 sb1 sf0 sf1
    have hU := B_9.out.grown (grown_put2 w9 w4.heap.size 0 (.int .i64 c2) (.int .i64 d2)) B_9.out.size (fun r e => by cases e; exact A9_9.out.2)
    clear hH; refine hK.out _ _ ⟨HG.out.1 _ hU, HG.out.2 _ hU⟩ fun hH => ?_; clear hK KK
    try simp only [nrm]
    refine anyH_world (fun w10 hW => ?_)
    have B_10 : Hid (Below w3.heap.size w3 w10) := by rw [hW]; exact hU
    have A9_10 : Hid (AtN w10 w4.heap.size [.int .i64 c2, .int .i64 d2] 30 ∧ w3.heap.size ≤ w4.heap.size) := by rw [hW]; exact ⟨(A9_9.out.1.set 0 _).set 1 _, A9_9.out.2⟩
    have A8_10 := And.intro ((A8_9.out.1.far (NE.out.symm).symm 0 (.int .i64 c2)).far (NE.out.symm).symm 1 (.int .i64 d2)) A8_9.out.2; rw [← hW] at hH A8_10; have A8_10 := hid A8_10; clear hU B_9 A8_9 A9_9; clear hW
    refine wpAnyH_done (by kernel_rfl) ?_ _
    go_wp2_with fail
    go_meet
    case rel => exact ⟨_, _, rfl, rfl, A8_10.out.1, A9_10.out.1, B_10.out⟩
 case rest =>
 obtain ⟨pa, pb, rfl, rfl, HC⟩ := hcut; obtain ⟨w20, hW⟩ : ∃ w20, w20 = wc := ⟨_, rfl⟩; rw [← hW] at HC ⊢; clear hW HZB
 rcases H3.out with ⟨h1, h2, rfl⟩ | ⟨h1, h2, rfl⟩ | ⟨h1, h2, rfl⟩
 focus
  have hx := hid h1; have hy := hid h2; clear h1 h2; obtain ⟨e0, e1⟩ := HC.out.1.c2; obtain ⟨f0, f1⟩ := HC.out.2.1.c2; go_wp2_with fail; refine (rless_any c1 d1 c2 d2 true hx.out).mono ?_; rintro e w21 ⟨rfl, hB⟩
  have HC2 : Hid (AtN w21 pa [.int .i64 c1, .int .i64 d1] 30 ∧ AtN w21 pb [.int .i64 c2, .int .i64 d2] 30 ∧ Below w3.heap.size w3 w21) := ⟨HC.out.1.below hB, HC.out.2.1.below hB, Below.steps HC.out.2.2 hB⟩
  clear hB e0 e1 f0 f1 HC; obtain ⟨e0, e1⟩ := HC2.out.1.c2; obtain ⟨f0, f1⟩ := HC2.out.2.1.c2; go_wp2_with fail; refine (rless_any c2 d2 c1 d1 false hy.out).mono ?_; rintro e w22 ⟨rfl, hB⟩
  have HC : Hid (AtN w22 pa [.int .i64 c1, .int .i64 d1] 30 ∧ Below w3.heap.size w3 w22) := ⟨HC2.out.1.below hB, Below.steps HC2.out.2.2 hB⟩
  clear hB e0 e1 f0 f1 HC2
  go_upto_region 10 with (fail)
 rotate_left
 focus
  have hx := hid h1; have hy := hid h2; clear h1 h2; obtain ⟨e0, e1⟩ := HC.out.1.c2; obtain ⟨f0, f1⟩ := HC.out.2.1.c2; go_wp2_with fail; refine (rless_any c1 d1 c2 d2 false hx.out).mono ?_; rintro e w21 ⟨rfl, hB⟩
  have HC2 : Hid (AtN w21 pa [.int .i64 c1, .int .i64 d1] 30 ∧ AtN w21 pb [.int .i64 c2, .int .i64 d2] 30 ∧ Below w3.heap.size w3 w21) := ⟨HC.out.1.below hB, HC.out.2.1.below hB, Below.steps HC.out.2.2 hB⟩
  clear hB e0 e1 f0 f1 HC; obtain ⟨e0, e1⟩ := HC2.out.1.c2; obtain ⟨f0, f1⟩ := HC2.out.2.1.c2; go_wp2_with fail; refine (rless_any c2 d2 c1 d1 true hy.out).mono ?_; rintro e w22 ⟨rfl, hB⟩
  have HC : Hid (AtN w22 pa [.int .i64 c1, .int .i64 d1] 30 ∧ Below w3.heap.size w3 w22) := ⟨HC2.out.1.below hB, Below.steps HC2.out.2.2 hB⟩
  clear hB e0 e1 f0 f1 HC2
  go_upto_region 10 with (fail)
 rotate_left
 focus
  have hx := hid h1; have hy := hid h2; clear h1 h2; obtain ⟨e0, e1⟩ := HC.out.1.c2; obtain ⟨f0, f1⟩ := HC.out.2.1.c2; go_wp2_with fail; refine (rless_any c1 d1 c2 d2 false hx.out).mono ?_; rintro e w21 ⟨rfl, hB⟩
  have HC2 : Hid (AtN w21 pa [.int .i64 c1, .int .i64 d1] 30 ∧ AtN w21 pb [.int .i64 c2, .int .i64 d2] 30 ∧ Below w3.heap.size w3 w21) := ⟨HC.out.1.below hB, HC.out.2.1.below hB, Below.steps HC.out.2.2 hB⟩
  clear hB e0 e1 f0 f1 HC; obtain ⟨e0, e1⟩ := HC2.out.1.c2; obtain ⟨f0, f1⟩ := HC2.out.2.1.c2; go_wp2_with fail; refine (rless_any c2 d2 c1 d1 false hy.out).mono ?_; rintro e w22 ⟨rfl, hB⟩
  have HC : Hid (AtN w22 pa [.int .i64 c1, .int .i64 d1] 30 ∧ Below w3.heap.size w3 w22) := ⟨HC2.out.1.below hB, Below.steps HC2.out.2.2 hB⟩
  clear hB e0 e1 f0 f1 HC2
  go_upto_region 10 with (fail)
 rotate_left
 all_goals (clear H3 hx hy)
 all_goals
  refine wp_region_held_drew (S := fun w' => (w'.cell? ⟨pa, 0, none⟩ = some (.int .i64 c1) ∧ w'.cell? ⟨pa, 1, none⟩ = some (.int .i64 d1)) ∧ w'.cell? ⟨g, 0, none⟩ = some (.slice xo xn xc) ∧ w'.cell? ⟨g, 1, none⟩ = some (.slice yo yn yc)) (by kernel_rfl) ⟨HC.out.1.c2, HG.out.1 _ HC.out.2.drew, HG.out.2 _ HC.out.2.drew⟩ (fun hH => ?_)
  refine anyH_world (fun w31 hW => ?_)
  have C_31 : Hid (AtN w31 pa [.int .i64 c1, .int .i64 d1] 30 ∧ Below w3.heap.size w3 w31) := by rw [hW]; exact ⟨HC.out.1.below (Below.refl _ _).drew, HC.out.2.drew⟩
  rw [← hW] at hH; clear HC
  clear hW
  refine son 0 hH ?_; try simp only [nrm]
  refine son 2 hH ?_; try simp only [nrm]
  refine step_one 1 rfl (by kernel_rfl) (fun KK hK => ?_)
  go_simp; refine (rof_any c1 d1 (HP.out.1.below (Below.steps HB3.out C_31.out.2)) HL.out.1 HR1.out.1 HR1.out.2).mono ?_
  rintro e w32 ⟨rfl, hB⟩; have C_32 := hid (And.intro (C_31.out.1.below hB) (Below.steps C_31.out.2 hB)); clear hB C_31; go_wp2_with fail
  clear hH; refine hK.out _ _ ⟨C_32.out.1.c2, HG.out.1 _ C_32.out.2, HG.out.2 _ C_32.out.2⟩ fun hH => ?_; clear hK KK
  try simp only [nrm]
  refine son 3 hH ?_; try simp only [nrm]
  refine son 4 hH ?_; try simp only [nrm]
  refine son 5 hH ?_; try simp only [nrm]
  refine son 6 hH ?_; try simp only [nrm]
  refine son 8 hH ?_; try simp only [nrm]
  refine step_one 7 rfl (by kernel_rfl) (fun KK hK => ?_)
  go_simp; refine (rcompare_any _ (HP.out.1.below (Below.steps HB3.out C_32.out.2)) HL.out.1 (HP.out.2.1.below (Below.steps HB3.out C_32.out.2)) HL.out.2.1 HZZ.out).mono ?_
  rintro e w33 ⟨rfl, hB⟩; have C_33 := hid (And.intro (C_32.out.1.below hB) (Below.steps C_32.out.2 hB)); clear hB C_32; go_wp2_with fail
  clear hH; refine hK.out _ _ ⟨C_33.out.1.c2, HG.out.1 _ C_33.out.2, HG.out.2 _ C_33.out.2⟩ fun hH => ?_; clear hK KK
  try simp only [nrm]
  refine son 9 hH ?_; try simp only [nrm]
  refine son 10 hH ?_; try simp only [nrm]
  refine son 11 hH ?_; try simp only [nrm]
  refine son 12 hH ?_; try simp only [nrm]
  refine son 13 hH ?_; try simp only [nrm]
  refine son 15 hH ?_; try simp only [nrm]
  refine son 16 hH ?_; try simp only [nrm]
  refine son 17 hH ?_; try simp only [nrm]
  refine son 18 hH ?_; try simp only [nrm]
  refine son 19 hH ?_; try simp only [nrm]
  refine son 20 hH ?_; try simp only [nrm]
  refine step_one 14 rfl (by kernel_rfl) (fun KK hK => ?_)
  go_simp; refine (rreduced_any r (HP.out.1.below (Below.steps HB3.out C_33.out.2)) HL.out.1 HL.out.2.2 (HP.out.2.1.below (Below.steps HB3.out C_33.out.2)) HL.out.2.1 HRR.out).mono ?_
  rintro e w34 ⟨rfl, hB⟩; have C_34 := hid (And.intro (C_33.out.1.below hB) (Below.steps C_33.out.2 hB)); clear hB C_33; go_wp2_with fail
  clear hH; refine hK.out _ _ ⟨C_34.out.1.c2, HG.out.1 _ C_34.out.2, HG.out.2 _ C_34.out.2⟩ fun hH => ?_; clear hK KK
  try simp only [nrm]
  refine step_one 21 rfl (by kernel_rfl) (fun KK hK => ?_)
  go_simp; refine (rrred_any r (HZA.out.1.below C_34.out.2) HZA.out.2.1 (HZQ.out.1.below C_34.out.2) HZQ.out.2.1 HRR.out).mono ?_
  rintro e w35 ⟨rfl, hB⟩; have C_35 := hid (And.intro (C_34.out.1.below hB) (Below.steps C_34.out.2 hB)); clear hB C_34; go_wp2_with fail
  clear hH; refine hK.out _ _ ⟨C_35.out.1.c2, HG.out.1 _ C_35.out.2, HG.out.2 _ C_35.out.2⟩ fun hH => ?_; clear hK KK
  try simp only [nrm]
  refine son 22 hH ?_; try simp only [nrm]
  refine son 23 hH ?_; try simp only [nrm]
  refine son 24 hH ?_; try simp only [nrm]
  refine son 25 hH ?_; try simp only [nrm]
  refine son 26 hH ?_; try simp only [nrm]
  refine son 28 hH ?_; try simp only [nrm]
  refine son 29 hH ?_; try simp only [nrm]
  refine son 30 hH ?_; try simp only [nrm]
  refine son 31 hH ?_; try simp only [nrm]
  refine step_one 27 rfl (by kernel_rfl) (fun KK hK => ?_)
  go_simp; refine (rby_any t (HP.out.1.below (Below.steps HB3.out C_35.out.2)) HL.out.1 HL.out.2.2 (HX.out.1.below (Below.steps HB3.out C_35.out.2)) HX.out.2.1.lim2 HT.out).mono ?_
  rintro e w36 ⟨rfl, hB⟩; have C_36 := hid (And.intro (C_35.out.1.below hB) (Below.steps C_35.out.2 hB)); clear hB C_35; go_wp2_with fail
  clear hH; refine hK.out _ _ ⟨C_36.out.1.c2, HG.out.1 _ C_36.out.2, HG.out.2 _ C_36.out.2⟩ fun hH => ?_; clear hK KK
  try simp only [nrm]
  refine step_one 32 rfl (by kernel_rfl) (fun KK hK => ?_)
  go_simp; refine (plain15_any (HX.out.1.below (Below.steps HB3.out C_36.out.2)) HX.out.2.1).mono ?_
  rintro e w37 ⟨tao, tn, tc, rfl, htl, hT, hB⟩; have HTT := hid (And.intro hT htl); clear hT htl; have C_37 := hid (And.intro (C_36.out.1.below hB) (Below.steps C_36.out.2 hB)); clear hB C_36; go_wp2_with fail
  clear hH; refine hK.out _ _ ⟨C_37.out.1.c2, HG.out.1 _ C_37.out.2, HG.out.2 _ C_37.out.2⟩ fun hH => ?_; clear hK KK
  try simp only [nrm]
  refine step_one 33 rfl (by kernel_rfl) (fun KK hK => ?_)
  go_simp
  refine (rrby_any t (HZA.out.1.below C_37.out.2) HZA.out.2.1 HTT.out.1 (fun q hq => by obtain ⟨xs, hxs, rfl⟩ := List.mem_map.1 hq; exact HXF.out xs hxs) (by have := HTT.out.2; have h8 := HX.out.2.1.len; rw [List.length_map] at this; omega) (by rw [List.all_map]; exact HT.out)).mono ?_
  rintro e w38 ⟨rfl, hB⟩; have C_38 := hid (And.intro (C_37.out.1.below hB) (Below.steps C_37.out.2 hB)); clear hB C_37; go_wp2_with fail
  clear hH; refine hK.out _ _ ⟨C_38.out.1.c2, HG.out.1 _ C_38.out.2, HG.out.2 _ C_38.out.2⟩ fun hH => ?_; clear hK KK
  try simp only [nrm]
  refine son 34 hH ?_; try simp only [nrm]
  refine son 35 hH ?_; try simp only [nrm]
  refine son 36 hH ?_; try simp only [nrm]
  refine step_one 37 rfl (by kernel_rfl) (fun KK hK => ?_)
  go_simp; refine (known15_any _).mono ?_
  rintro e w39 ⟨rfl, hB⟩; have C_39 := hid (And.intro (C_38.out.1.below hB) (Below.steps C_38.out.2 hB)); clear hB C_38; go_wp2_with fail
  clear hH; refine hK.out _ _ ⟨C_39.out.1.c2, HG.out.1 _ C_39.out.2, HG.out.2 _ C_39.out.2⟩ fun hH => ?_; clear hK KK
  try simp only [nrm]
  refine son 38 hH ?_; try simp only [nrm]
  refine son 39 hH ?_; try simp only [nrm]
  refine wpAnyH_done (by kernel_rfl) ?_ _
  go_wp2_with fail
  go_ret
  exact ⟨rfl, Below.steps HB3.out C_39.out.2⟩
theorem rankTells_any [Ol] {ao bo co : Option Addr} {n cap m cb l lc : Nat} {ps qs : List Raw} {w : World} (hp : Pr w ao n cap ps) (hq : Pr w bo m cb qs) (hx : (∃ f, Plx w co l f) ∧ (l ≤ 4398046511104 → ∃ ls, Plr w co l lc ls)) :
  Calls Try.prog 3 #[.slice ao n cap, .slice bo m cb, .slice co l lc] w (RetB (.bool true) w) := by
 by_cases h1 : Grt 2 (fun k => [ps, qs].getD k [])
 ·exact rankTells_great1 hp hq h1
 ·by_cases hb : l ≤ 4398046511104
  ·obtain ⟨ls, hP⟩ := hx.2 hb
   by_cases h2 : Grt l (fun k => ls.getD k [])
   ·exact rankTells_great2 hp hq h1 hP.plx h2
   ·exact rankTells_main hp hq h1 hP (Small15.of (fun _ _ => rfl) (by rw [hP.len]; exact h2))
  ·obtain ⟨f, hX⟩ := hx.1
   exact rankTells_great2 hp hq h1 hX (.inr (by omega))
end Go.Proofs.Ytmmgipcacceakaa

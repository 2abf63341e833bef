/-
  The contracts of rank.Of, rank.Compare; poly.Lead at a list as it stands; rank.Reduced.
-/
import Derived.Test.YtmmgipcacceakaaRkA
import Derived.Test.YtmmgipcacceakaaGPa
set_option maxHeartbeats 40000000
set_option maxRecDepth 100000
namespace Go.Proofs.Ytmmgipcacceakaa
open Lib (hid)
open Go.RowKit
section
variable {ao bo : Option Addr} {n cap m cb : Nat} {ps qs : List Raw} {w : World}
theorem rof_any [Ol] (c d : Int) (hp : Pr w ao n cap ps) (hl : ∀ t ∈ ps, t.1.2.length ≤ 1000) (hc : clsP (plnR ps) = c) (hd : degP (plnR ps) c = d) :
  Calls Try.prog 11 #[.slice ao n cap] w (RetB (.agg #[.int .i64 c, .int .i64 d]) w) := by
 have HP := hid hp; have HL := hid hl; have HC := hid hc; have HD := hid hd; clear hp hl hc hd
 go_enter Try.func11, Try.ntmps11
 go_upto_region 1 with (fail)
 refine wp_world (fun W hW => ?_)
 obtain ⟨a1, hB⟩ := box1 w [.int .i64 0, .int .i64 0] 30; rw [← hW] at a1 hB; clear hW; have HA0 := hid a1; have HB0 := hid hB; clear a1 hB; go_wp2_with fail; refine (vClass_any c (HP.out.below HB0.out) HL.out HC.out).mono ?_; rintro e w1 ⟨rfl, hB⟩; have HA1 := hid (HA0.out.below hB); have HB1 := hid (Below.steps HB0.out hB); clear hB HA0 HB0; go_wp2_with fail; refine (vDegree_any c d (HP.out.below HB1.out) HL.out HD.out).mono ?_; rintro e w2 ⟨rfl, hB⟩; have HA2 := hid (HA1.out.below hB)
 have HB2 := hid (Below.steps HB1.out hB); clear hB HA1 HB1; obtain ⟨d0, d1⟩ := HA2.out.c2; have f0 := HA2.out.fz 0; have f1 := HA2.out.fz 1; go_wp2_with fail; clear d0 d1 f0 f1
 refine post_world (Q := bodyPost _ _ _ _ _) (fun W hW => ?_)
 have R : AtN W w.heap.size [.int .i64 c, .int .i64 d] 30 := by rw [hW]; exact (HA2.out.set 0 _).set 1 _
 have HBW : Below w.heap.size w W := by rw [hW]; exact HB2.out.grown (grown_put2 _ w.heap.size 0 _ _) HB2.out.size (fun r e => by cases e; exact Nat.le_refl _)
 clear hW; obtain ⟨d0, d1⟩ := R.c2
 exact bodyPost_ret (v := .agg #[.int .i64 c, .int .i64 d]) (by simp [results, Try.results11, go_sem, d0, d1]) rfl ⟨rfl, HBW⟩
theorem rcompare_any [Ol] (z : Int) (hp : Pr w ao n cap ps) (hl : ∀ t ∈ ps, t.1.2.length ≤ 1000) (hq : Pr w bo m cb qs) (hk : ∀ t ∈ qs, t.1.2.length ≤ 1000) (hz : cmpRk (rkP (plnR ps)) (rkP (plnR qs)) = z) :
  Calls Try.prog 12 #[.slice ao n cap, .slice bo m cb] w (RetB (.int .i64 z) w) := by
 obtain ⟨c1, hc1⟩ : ∃ c, clsP (plnR ps) = c := ⟨_, rfl⟩; obtain ⟨d1, hd1⟩ : ∃ d, degP (plnR ps) c1 = d := ⟨_, rfl⟩; obtain ⟨c2, hc2⟩ : ∃ c, clsP (plnR qs) = c := ⟨_, rfl⟩; obtain ⟨d2, hd2⟩ : ∃ d, degP (plnR qs) c2 = d := ⟨_, rfl⟩
 have HZ : Hid (cmpRk (c1, d1) (c2, d2) = z) := by
  rw [Hid, ← hz, ← hd1, ← hd2, ← hc1, ← hc2]
  rfl
 have H1 := hid (And.intro hp (And.intro hl (And.intro hc1 hd1))); have H2 := hid (And.intro hq (And.intro hk (And.intro hc2 hd2))); clear hp hl hc1 hd1 hq hk hc2 hd2 hz
 go_enter Try.func12, Try.ntmps12
 go_wp2_with fail; refine (rof_any c1 d1 H1.out.1 H1.out.2.1 H1.out.2.2.1 H1.out.2.2.2).mono ?_
 rintro e w1 ⟨rfl, hB⟩; have HB1 := hid hB; clear hB; go_wp2_with fail; refine (rof_any c2 d2 (H2.out.1.below HB1.out) H2.out.2.1 H2.out.2.2.1 H2.out.2.2.2).mono ?_; rintro e w2 ⟨rfl, hB⟩; have HB2 := hid (Below.steps HB1.out hB); clear hB HB1; go_wp2_with fail; refine (rcmp_any c1 d1 c2 d2 z _ HZ.out).mono ?_; rintro e w3 ⟨rfl, hB⟩; have HB3 := hid (Below.steps HB2.out hB); clear hB HB2; go_wp2_with fail
 go_ret
 exact ⟨rfl, HB3.out⟩
end
theorem Pc.cut1 [Ol] {K : Nat} {w : World} {ao : Option Addr} {n cap : Nat} {p : List Term} (h : Pc K w ao n cap p) (k : Nat) (hk : k ≤ n) : Pc K w ao k cap (p.take k) := by
 obtain ⟨X, h1, h2⟩ := h
 exact ⟨X.take k, h1.take k hk, tmsT_take k h2⟩
def LeadB (w : World) (r : Bool) (e : Ending) (w' : World) : Prop := ∃ m ao n cap bo k cb, e = .returned (.tuple #[.agg #[.bool m, .slice ao n cap, .slice bo k cb], .bool r]) ∧ Below w.heap.size w w'
theorem plead_raw [Ol] {K : Nat} {w : World} {ao : Option Addr} {n cap : Nat} {ps : List Raw} (h0p : Pr w ao n cap ps) (hl : ∀ t ∈ ps, t.1.2.length ≤ K) (hn : n ≤ 1000000) (hK : K ≤ 1000) :
  Calls Try.prog 34 #[.slice ao n cap] w (LeadB w (!decide ((plnR ps).length = 0))) := by
 obtain ⟨p, hpp⟩ : ∃ p, plnR ps = p := ⟨_, rfl⟩
 have HQ : Hid (Calls Try.prog 64 #[.slice ao n cap] w (OrZ K w n ps)) := orZ_pc h0p hl hK
 have HPP := hid hpp; have HPR := hid (And.intro h0p hl); rw [hpp]; clear h0p hl hpp HQ
 go_enter Try.func34, Try.ntmps34
 go_upto_region 1 with (fail)
 refine wp_world (fun w0 hW => ?_)
 obtain ⟨a1, hB⟩ := box1 w [.bool false, .slice none 0 0, .slice none 0 0] 63; rw [← hW] at a1 hB; clear hW; have HA0 := hid a1; have HB0 := hid hB; clear a1 hB; go_wp2_with fail; refine (orZ_pc (HPR.out.1.below HB0.out) HPR.out.2 hK).mono ?_; rintro e w1 ⟨ao, n1, cap, rfl, hX, hmn, hB⟩; rw [HPP.out] at hX; have HPL := hid hX.len; have HP := hid hX; obtain ⟨X, hX1, _⟩ := hX; have hcap := hX1.le; have hbig := hX1.big; clear hX1 HPR; have HA1 := hid (HA0.out.below hB); have HB1 := hid (Below.steps HB0.out hB)
 clear hB HA0 HB0
 by_cases h0 : n1 = 0
 ·subst h0
  have hp0 : p = [] := List.eq_nil_of_length_eq_zero HPL.out
  have HP0 := hid hp0; obtain ⟨d0, d1, d2⟩ := HA1.out.c3; obtain ⟨f0, f1, f2⟩ := HA1.out.f3; clear hp0; go_wp2_with fail; clear d0 d1 d2 f0 f1 f2
  refine post_world (Q := bodyPost _ _ _ _ _) (fun W hW => ?_)
  have R : AtN W w.heap.size [.bool false, .slice none 0 0, .slice none 0 0] 63 := by rw [hW]; exact ((HA1.out.set 0 _).set 1 _).set 2 _
  have HBW : Below w.heap.size w W := by rw [hW]; exact HB1.out.grown (grown_put3 _ w.heap.size 0 _ _ _) HB1.out.size (fun r e => by cases e; exact Nat.le_refl _)
  clear hW; obtain ⟨d0, d1, d2⟩ := R.c3
  exact bodyPost_ret (v := .tuple #[.agg #[.bool false, .slice none 0 0, .slice none 0 0], .bool false]) (by simp [results, Try.results34, go_sem, d0, d1, d2]) rfl ⟨_, _, _, _, _, _, _, by rw [HP0.out]; rfl, HBW⟩
 ·have hd : ((n1 : Int) == 0) = false := beq_eq_false_iff_ne.2 (by omega)
  have h1c : 1 ≤ cap := by omega
  go_wp2_with fail
  refine (own_any8 (HP.out.cut1 1 (by omega)).inn (by omega) (by omega)).mono ?_
  rintro e w2 ⟨oa, on, oc, rfl, h1, h2⟩
  have hpl : (p.take 1).length = 1 := by rw [List.length_take, HPL.out]; omega
  obtain rfl : on = 1 := by rw [← h1.len, hpl]
  obtain ⟨t, r, hpt⟩ : ∃ t r, p = t :: r := by
   cases p with
   | nil => exact absurd HPL.out.symm (by simpa using h0)
   | cons t r => exact ⟨t, r, rfl⟩
  subst hpt; have HA2 := hid (HA1.out.below h2); have HB2 := hid (Below.steps HB1.out h2)
  obtain ⟨b, off, xm, xa, xn, xc, xp, xq, xr, hao, hbl, hc, hCn, hBd, hMl⟩ := h1.pc.at (k := 0) (by omega)
  subst hao; rw [Nat.zero_mul, Nat.add_zero] at hc; obtain ⟨c0, c1, c2⟩ := hc w2 (Below.refl _ _); clear h1 h2 hc hCn hBd hMl hpl; obtain ⟨d0, d1, d2⟩ := HA2.out.c3; obtain ⟨f0, f1, f2⟩ := HA2.out.f3; go_wp2_with fail; clear d0 d1 d2 f0 f1 f2 c0 c1 c2
  refine post_world (Q := bodyPost _ _ _ _ _) (fun W hW => ?_)
  have hg := grown_put3 w2 w.heap.size 0 (.bool xm) (.slice xa xn xc) (.slice xp xq xr)
  have R : AtN W w.heap.size [.bool xm, .slice xa xn xc, .slice xp xq xr] 63 := by rw [hW]; exact ((HA2.out.set 0 _).set 1 _).set 2 _
  have HBW : Below w.heap.size w W := by rw [hW]; exact HB2.out.grown hg HB2.out.size (fun r e => by cases e; exact Nat.le_refl _)
  clear hW hg; obtain ⟨d0, d1, d2⟩ := R.c3
  exact bodyPost_ret (v := .tuple #[.agg #[.bool xm, .slice xa xn xc, .slice xp xq xr], .bool true]) (by simp [results, Try.results34, go_sem, d0, d1, d2]) rfl ⟨_, _, _, _, _, _, _, rfl, HBW⟩
end Go.Proofs.Ytmmgipcacceakaa

/-
  The contracts of rank.Reduced; slices.IndexFunc and ContainsFunc at lists of polynomials; rank.By.
-/
import Derived.Test.YtmmgipcacceakaaRkB
import Derived.Test.YtmmgipcacceakaaVLp
set_option maxHeartbeats 40000000
set_option maxRecDepth 100000
namespace Go.Proofs.Ytmmgipcacceakaa
open Lib (hid)
open Go.RowKit
section
variable {ao bo : Option Addr} {n cap m cb : Nat} {ps qs : List Raw} {w : World}
theorem rreduced_any [Ol] (r : Bool) (hp : Pr w ao n cap ps) (hl : ∀ t ∈ ps, t.1.2.length ≤ 1000) (hn : n ≤ 1000000) (hq : Pr w bo m cb qs) (hk : ∀ t ∈ qs, t.1.2.length ≤ 1000) (hr : redP (plnR ps) (plnR qs) = r) :
  Calls Try.prog 13 #[.slice ao n cap, .slice bo m cb] w (RetB (.bool r) w) := by
 obtain ⟨c, hc⟩ : ∃ c, clsP (plnR qs) = c := ⟨_, rfl⟩; obtain ⟨d, hd⟩ : ∃ d, degP (plnR qs) c = d := ⟨_, rfl⟩; obtain ⟨y, hy⟩ : ∃ y, degP (plnR ps) c = y := ⟨_, rfl⟩; have HY := hid hy
 have HR : Hid ((if c = 0 then decide ((plnR ps).length = 0) else decide (y < d)) = r) := by
  rw [Hid, ← hr, ← hy, ← hd, ← hc]
  rfl
 have HP := hid (And.intro hp hl); have HQ := hid (And.intro hq (And.intro hk (And.intro hc hd))); clear hp hl hc hd hq hk hr hy
 go_enter Try.func13, Try.ntmps13
 go_wp2_with fail; refine (rof_any c d HQ.out.1 HQ.out.2.1 HQ.out.2.2.1 HQ.out.2.2.2).mono ?_
 rintro e w1 ⟨rfl, hB⟩; have HB1 := hid hB; clear hB
 go_upto_region 2 with (fail)
 refine wp_world (fun W hW => ?_)
 obtain ⟨q1, q2⟩ := box1 w1 [.int .i64 c, .int .i64 d] 30
 have A2 : Hid (AtN W w1.heap.size [.int .i64 c, .int .i64 d] 30) := by rw [hW]; exact q1
 have HB2 : Hid (Below w.heap.size w W) := by
  rw [hW]
  exact Below.steps HB1.out q2
 clear hW q1 q2 HB1
 by_cases hc0 : c = 0
 ·have HR2 : Hid ((!(!decide ((plnR ps).length = 0))) = r) := by
   have h := HR.out; rw [if_pos hc0] at h; rw [Hid, Bool.not_not]
   exact h
  obtain ⟨d0, d1⟩ := A2.out.c2
  have hd : (c == 0) = true := by simpa using hc0
  clear HR hc0; go_wp2_with fail
  refine (plead_raw (HP.out.1.below HB2.out) HP.out.2 hn (by omega)).mono ?_
  rintro e w3 ⟨xm, xa, xn, xc, xb, xk, xl, rfl, hB⟩; have HB3 := hid (Below.steps HB2.out hB); obtain ⟨z, hz⟩ : ∃ z, (!decide ((plnR ps).length = 0)) = z := ⟨_, rfl⟩; have HR3 := HR2.out; rw [hz] at HR3 ⊢; have HR4 := hid HR3; clear hB HB2 A2 d0 d1 HR2 hz HR3
  go_upto_region 4 with (fail)
  refine wp_world (fun W2 hW => ?_)
  obtain ⟨q1, q2⟩ := box1 w3 [.bool xm, .slice xa xn xc, .slice xb xk xl] 63
  have HB4 : Hid (Below w.heap.size w W2) := by
   rw [hW]
   exact Below.steps HB3.out q2
  clear hW q1 q2 HB3; go_wp2_with fail
  go_ret
  rw [HR4.out]
  exact ⟨rfl, HB4.out⟩
 ·have HR2 : Hid (decide (y < d) = r) := by
   have h := HR.out; rw [if_neg hc0] at h
   exact h
  have hd : (c == 0) = false := by simpa using hc0
  have hyr := HR2.out; clear HR hc0; obtain ⟨d0, d1⟩ := A2.out.c2
  go_upto_region 5 with (fail)
  clear d0 d1
  refine wp_region_held_drew (S := fun w' => w'.cell? ⟨w1.heap.size, 0, none⟩ = some (.int .i64 c) ∧ w'.cell? ⟨w1.heap.size, 1, none⟩ = some (.int .i64 d)) (by kernel_rfl) A2.out.c2 (fun hH => ?_)
  refine anyH_world (fun w3 hW => ?_)
  have HB3 : Hid (Below w.heap.size w w3) := by rw [hW]; exact HB2.out.drew
  have A3 : Hid (AtN w3 w1.heap.size [.int .i64 c, .int .i64 d] 30) := by rw [hW]; exact A2.out.below (Below.refl _ _).drew
  rw [← hW] at hH; clear HB2 A2
  clear hW
  refine son 0 hH ?_; try simp only [nrm]
  refine son 1 hH ?_; try simp only [nrm]
  refine son 2 hH ?_; try simp only [nrm]
  refine son 4 hH ?_; try simp only [nrm]
  refine son 5 hH ?_; try simp only [nrm]
  refine step_one 3 rfl (by kernel_rfl) (fun KK hK => ?_)
  go_simp; refine (vDegree_any c y (HP.out.1.below HB3.out) HP.out.2 HY.out).mono ?_
  rintro e w4 ⟨rfl, hB⟩; have HB4 := hid (Below.steps HB3.out hB); have A4 := hid (A3.out.below hB); clear hB HB3 A3; go_wp2_with fail
  clear hH; refine hK.out _ _ A4.out.c2 fun hH => ?_; clear hK KK
  try simp only [nrm]
  refine son 6 hH ?_; try simp only [nrm]
  refine son 7 hH ?_; try simp only [nrm]
  refine wpAnyH_done (by kernel_rfl) ?_ _
  go_wp2_with fail
  go_ret
  exact ⟨rfl, HB4.out⟩
end
end Go.Proofs.Ytmmgipcacceakaa

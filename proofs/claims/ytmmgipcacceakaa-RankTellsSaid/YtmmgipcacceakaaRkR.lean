/-
  The contracts of the reference's Of, Less, Reduced, By of layer 15.
-/
import Derived.Test.YtmmgipcacceakaaRkP
import Derived.Test.YtmmgipcacceakaaVPz
set_option maxHeartbeats 40000000
set_option maxRecDepth 100000
namespace Go.Proofs.Ytmmgipcacceakaa
open Lib (hid)
open Go.RowKit
section
variable {K B : Nat} {ao bo : Option Addr} {n cap m cb : Nat} {p q : List Term} {w : World}
theorem rrof_any [Ol] (c d : Int) (hp : Pz K w ao n cap p) (hf : fall p) (hc : clsP p = c) (hd : degP p c = d) :
  Calls Try.prog 9 #[.slice ao n cap] w (RetB (.agg #[.int .i64 c, .int .i64 d]) w) := by
 have HP := hid (And.intro hp hf); have HC := hid hc; have HD := hid hd
 have HZ : Hid (c = 0 → d = 0) := fun h => by rw [← hd, h]; exact deg_zero_var (fall_mays hf)
 clear hp hf hc hd
 go_enter Try.func9, Try.ntmps9
 go_upto_region 1 with (fail)
 refine wp_world (fun W hW => ?_)
 obtain ⟨a1, hB⟩ := box1 w [.int .i64 0, .int .i64 0] 30; rw [← hW] at a1 hB; clear hW; have HA0 := hid a1; have HB0 := hid hB; clear a1 hB; go_wp2_with fail; refine (rcls_any c (HP.out.1.below HB0.out) HP.out.2 HC.out).mono ?_; rintro e w1 ⟨rfl, hB⟩; have HA1 := hid (HA0.out.below hB); have HB1 := hid (Below.steps HB0.out hB); clear hB HA0 HB0
 by_cases hc0 : c = 0
 ·have hcc : (c == 0) = true := by simpa using hc0
  have HE : Hid (c = 0 ∧ d = 0) := ⟨hc0, HZ.out hc0⟩
  obtain ⟨d0, d1⟩ := HA1.out.c2; have f0 := HA1.out.fz 0; have f1 := HA1.out.fz 1; clear hc0; go_wp2_with fail; clear d0 d1 f0 f1
  refine post_world (Q := bodyPost _ _ _ _ _) (fun W hW => ?_)
  have R : AtN W w.heap.size [.int .i64 c, .int .i64 d] 30 := by rw [hW, HE.out.1, HE.out.2]; exact (HA1.out.set 0 _).set 1 _
  have HBW : Below w.heap.size w W := by rw [hW]; exact HB1.out.grown (grown_put2 _ w.heap.size 0 _ _) HB1.out.size (fun r e => by cases e; exact Nat.le_refl _)
  clear hW; obtain ⟨d0, d1⟩ := R.c2
  exact bodyPost_ret (v := .agg #[.int .i64 c, .int .i64 d]) (by simp [results, Try.results9, go_sem, d0, d1]) rfl ⟨rfl, HBW⟩
 ·have hcc : (c == 0) = false := by simpa using hc0
  clear hc0; go_wp2_with fail; refine (rdeg_any c d (HP.out.1.below HB1.out) HP.out.2 HD.out).mono ?_; rintro e w2 ⟨rfl, hB⟩; have HA2 := hid (HA1.out.below hB); have HB2 := hid (Below.steps HB1.out hB); clear hB HA1 HB1; obtain ⟨d0, d1⟩ := HA2.out.c2; have f0 := HA2.out.fz 0; have f1 := HA2.out.fz 1; go_wp2_with fail; clear d0 d1 f0 f1
  refine post_world (Q := bodyPost _ _ _ _ _) (fun W hW => ?_)
  have R : AtN W w.heap.size [.int .i64 c, .int .i64 d] 30 := by rw [hW]; exact (HA2.out.set 0 _).set 1 _
  have HBW : Below w.heap.size w W := by rw [hW]; exact HB2.out.grown (grown_put2 _ w.heap.size 0 _ _) HB2.out.size (fun r e => by cases e; exact Nat.le_refl _)
  clear hW; obtain ⟨d0, d1⟩ := R.c2
  exact bodyPost_ret (v := .agg #[.int .i64 c, .int .i64 d]) (by simp [results, Try.results9, go_sem, d0, d1]) rfl ⟨rfl, HBW⟩
theorem rless_any (a1 a2 b1 b2 : Int) (r : Bool) (hr : ltRk (a1, a2) (b1, b2) = r) :
  Calls Try.prog 10 #[.agg #[.int .i64 a1, .int .i64 a2], .agg #[.int .i64 b1, .int .i64 b2]] w (RetB (.bool r) w) := by
 have HR : Hid ((decide (a1 < b1) || ((a1 == b1) && decide (a2 < b2))) = r) := by
  have e : (a1 == b1) = decide (a1 = b1) := by by_cases h : a1 = b1 <;> simp [h]
  rw [Hid, ← hr, e]
  unfold ltRk
  simp
 clear hr
 go_enter Try.func10, Try.ntmps10
 go_upto_region 1 with (fail)
 refine wp_world (fun W hW => ?_)
 obtain ⟨q1, q2, hB⟩ := box2 w [.int .i64 a1, .int .i64 a2] [.int .i64 b1, .int .i64 b2] 30 30; rw [← hW] at q1 q2 hB; clear hW; have HB := hid hB; obtain ⟨c0, c1⟩ := q1.c2; obtain ⟨d0, d1⟩ := q2.c2; clear q1 q2 hB; obtain ⟨x, hx⟩ : ∃ x, decide (a1 < b1) = x := ⟨_, rfl⟩; obtain ⟨y, hy⟩ : ∃ y, (a1 == b1) = y := ⟨_, rfl⟩; have H := HR.out; rw [hx, hy] at H; clear HR
 cases x with
 | true =>
  have HR := hid H; clear H; go_wp2_with fail
  go_ret
  have h := HR.out; subst h
  exact ⟨rfl, HB.out⟩
 | false =>
  cases y with
  | true =>
   have h : decide (a2 < b2) = r := H
   clear H; go_wp2_with fail
   go_ret
   exact ⟨rfl, HB.out⟩
  | false =>
   have HR := hid H; clear H; go_wp2_with fail
   go_ret
   have h := HR.out; subst h
   exact ⟨rfl, HB.out⟩
theorem rrred_any [Ol] (r : Bool) (hp : Pz K w ao n cap p) (hf : fall p) (hq : Pz K w bo m cb q) (hg : fall q) (hr : redP p q = r) :
  Calls Try.prog 14 #[.slice ao n cap, .slice bo m cb] w (RetB (.bool r) w) := by
 obtain ⟨c, hc⟩ : ∃ c, clsP q = c := ⟨_, rfl⟩; obtain ⟨d, hd⟩ : ∃ d, degP q c = d := ⟨_, rfl⟩; obtain ⟨y, hy⟩ : ∃ y, degP p c = y := ⟨_, rfl⟩; have hpn := hp.len; have HY := hid hy
 have HR : Hid ((if c = 0 then ((n : Int) == 0) else decide (y < d)) = r) := by
  rw [Hid, ← hr, ← hy, ← hd, ← hc]
  unfold redP
  rw [hpn]
  split
  ·by_cases h : n = 0
   ·subst h; rfl
   ·rw [decide_eq_false h]; simpa using h
  ·rfl
 have HP := hid (And.intro hp hf); have HQ := hid (And.intro hq (And.intro hg (And.intro hc hd))); clear hp hf hc hd hq hg hr hy hpn
 go_enter Try.func14, Try.ntmps14
 go_wp2_with fail; refine (rrof_any c d HQ.out.1 HQ.out.2.1 HQ.out.2.2.1 HQ.out.2.2.2).mono ?_
 rintro e w1 ⟨rfl, hB⟩; have HB1 := hid hB; clear hB
 go_upto_region 2 with (fail)
 refine wp_world (fun W hW => ?_)
 obtain ⟨q1, q2⟩ := box1 w1 [.int .i64 c, .int .i64 d] 30
 have A2 : Hid (AtN W w1.heap.size [.int .i64 c, .int .i64 d] 30) := by rw [hW]; exact q1
 have HB2 : Hid (Below w.heap.size w W) := by
  rw [hW]
  exact Below.steps HB1.out q2
 clear hW q1 q2 HB1
 by_cases hc0 : c = 0
 ·have hr2 := HR.out
  rw [if_pos hc0] at hr2; obtain ⟨d0, d1⟩ := A2.out.c2
  have hd : (c == 0) = true := by simpa using hc0
  clear HR hc0; go_wp2_with fail
  go_ret
  exact ⟨rfl, HB2.out⟩
 ·have hyr := HR.out
  rw [if_neg hc0] at hyr
  have hd : (c == 0) = false := by simpa using hc0
  clear HR hc0; obtain ⟨d0, d1⟩ := A2.out.c2
  go_upto_region 4 with (fail)
  clear d0 d1
  refine wp_region_held_drew (S := fun w' => w'.cell? ⟨w1.heap.size, 0, none⟩ = some (.int .i64 c) ∧ w'.cell? ⟨w1.heap.size, 1, none⟩ = some (.int .i64 d)) (by kernel_rfl) A2.out.c2 (fun hH => ?_)
  refine anyH_world (fun w3 hW => ?_)
  have HB3 : Hid (Below w.heap.size w w3) := by rw [hW]; exact HB2.out.drew
  have A3 : Hid (AtN w3 w1.heap.size [.int .i64 c, .int .i64 d] 30) := by rw [hW]; exact A2.out.below (Below.refl _ _).drew
  rw [← hW] at hH; clear HB2 A2
  clear hW
  refine son 0 hH ?_; try simp only [nrm]
  refine son 1 hH ?_; try simp only [nrm]
  refine son 2 hH ?_; try simp only [nrm]
  refine son 4 hH ?_; try simp only [nrm]
  refine son 5 hH ?_; try simp only [nrm]
  refine step_one 3 rfl (by kernel_rfl) (fun KK hK => ?_)
  go_simp; refine (rdeg_any c y (HP.out.1.below HB3.out) HP.out.2 HY.out).mono ?_
  rintro e w4 ⟨rfl, hB⟩; have HB4 := hid (Below.steps HB3.out hB); have A4 := hid (A3.out.below hB); clear hB HB3 A3; go_wp2_with fail
  clear hH; refine hK.out _ _ A4.out.c2 fun hH => ?_; clear hK KK
  try simp only [nrm]
  refine son 6 hH ?_; try simp only [nrm]
  refine son 7 hH ?_; try simp only [nrm]
  refine wpAnyH_done (by kernel_rfl) ?_ _
  go_wp2_with fail
  go_ret
  exact ⟨rfl, HB4.out⟩
theorem all_next {f : List Term → Bool} {ls : List (List Term)} {k : Nat} (h : k < ls.length) : (ls.take (k + 1)).all f = ((ls.take k).all f && f (ls.getD k [])) := by
 rw [List.take_succ_eq_append_getElem h, List.all_append, getD_of _ h]
 simp
theorem rrby_any [Ol] (r : Bool) {ls : List (List Term)} (hp : Pz K w ao n cap p) (hf : fall p) (h : Plz B K w bo m cb ls) (hg : ∀ q ∈ ls, fall q) (hm : m ≤ 1000000) (hr : (ls.all fun q => redP p q) = r) :
  Calls Try.prog 16 #[.slice ao n cap, .slice bo m cb] w (RetB (.bool r) w) := by
 have HR := hid hr; have HP := hid (And.intro hp hf); have HL := hid h; have HLL := hid h.len; have HG := hid hg; clear hp hf h hg hr
 go_enter Try.func16, Try.ntmps16
 go_wp2
 go_loopw [5] (fun i wr => ∃ k : Nat, i = .int .i64 k ∧ k ≤ m ∧ Hid (Below w.heap.size w wr ∧ (ls.take k).all (fun q => redP p q) = true)) (fun i _ => m - (intOf i).toNat)
 case atStart => exact ⟨0, rfl, Nat.zero_le _, Below.refl _ _, by rw [List.take_zero]; rfl⟩
 case round =>
  obtain ⟨k, rfl, hk, HS⟩ := hrel
  by_cases hkn : k < m
  ·obtain ⟨g, po, pn, pc, hao, hgl, hq, hcl⟩ := (HL.out.below HS.out.1).at hkn
   subst hao; have c0 := hcl wr (Below.refl _ _)
   have hki : (k : Int) < (m : Int) := by omega
   have hkl : k < ls.length := by rw [HLL.out]; exact hkn
   obtain ⟨z, hz⟩ : ∃ z, redP p (ls.getD k []) = z := ⟨_, rfl⟩
   have hnx := all_next (f := fun q => redP p q) hkl
   rw [HS.out.2, Bool.true_and, hz] at hnx; have HN := hid hnx
   have HC := hid (rrred_any z (HP.out.1.below HS.out.1) HP.out.2 hq (HG.out _ (getD_in [] hkl)) hz); clear hcl hq hz hnx
   cases z with
   | true =>
    go_wp2_with fail
    refine HC.out.mono ?_
    rintro e w2 ⟨rfl, hB⟩; have HB2 := hid (Below.steps HS.out.1 hB); clear hB HC c0
    go_wp2
    go_roundw
    case rel => exact ⟨k + 1, by go_num, by omega, HB2.out, HN.out⟩
    case measure => simp [intOf]; omega
   | false =>
    have hr : r = false := by
     rw [← HR.out]; have h := HN.out
     rw [List.all_eq_false] at h ⊢; obtain ⟨x, hx, h2⟩ := h
     exact ⟨x, List.mem_of_mem_take hx, h2⟩
    subst hr; go_wp2_with fail
    refine HC.out.mono ?_
    rintro e w2 ⟨rfl, hB⟩; have HB2 := hid (Below.steps HS.out.1 hB); clear hB HC c0
    go_wp2
    go_ret
    exact ⟨rfl, HB2.out⟩
  ·obtain rfl : k = m := by omega
   have h := HS.out
   rw [List.take_of_length_le (by rw [HLL.out]; exact Nat.le_refl _), HR.out] at h
   obtain ⟨h1, rfl⟩ := h; have HB2 := hid h1; clear HS h1
   go_wp2
   go_ret
   exact ⟨rfl, HB2.out⟩
end
end Go.Proofs.Ytmmgipcacceakaa

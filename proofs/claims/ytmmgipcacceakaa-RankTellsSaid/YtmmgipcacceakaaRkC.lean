/-
  The contracts of rank.Reduced; slices.IndexFunc and ContainsFunc at lists of polynomials; rank.By.
-/
import Derived.Test.YtmmgipcacceakaaRkB
import Derived.Test.YtmmgipcacceakaaVLp
set_option maxHeartbeats 40000000
set_option maxRecDepth 100000
namespace Go.Proofs.Ytmmgipcacceakaa
open Lib (hid)
open Go.RowKit
section
variable {ao bo : Option Addr} {n cap m cb : Nat} {ps qs : List Raw} {w : World}
theorem rreduced_any [Ol] (r : Bool) (hp : Pr w ao n cap ps) (hl : ∀ t ∈ ps, t.1.2.length ≤ 1000) (hn : n ≤ 1000000) (hq : Pr w bo m cb qs) (hk : ∀ t ∈ qs, t.1.2.length ≤ 1000) (hr : redP (plnR ps) (plnR qs) = r) :
  Calls Try.prog 13 #[.slice ao n cap, .slice bo m cb] w (RetB (.bool r) w) := by
 obtain ⟨c, hc⟩ : ∃ c, clsP (plnR qs) = c := ⟨_, rfl⟩; obtain ⟨d, hd⟩ : ∃ d, degP (plnR qs) c = d := ⟨_, rfl⟩; obtain ⟨y, hy⟩ : ∃ y, degP (plnR ps) c = y := ⟨_, rfl⟩; have HY := hid hy
 have HR : Hid ((if c = 0 then decide ((plnR ps).length = 0) else decide (y < d)) = r) := by
  rw [Hid, ← hr, ← hy, ← hd, ← hc]
  rfl
 have HP := hid (And.intro hp hl); have HQ := hid (And.intro hq (And.intro hk (And.intro hc hd))); clear hp hl hc hd hq hk hr hy
 go_enter Try.func13, Try.ntmps13
 go_wp2_with fail; refine (rof_any c d HQ.out.1 HQ.out.2.1 HQ.out.2.2.1 HQ.out.2.2.2).mono ?_
 rintro e w1 ⟨rfl, hB⟩; have HB1 := hid hB; clear hB
 go_upto_region 2 with (fail)
 refine wp_world (fun W hW => ?_)
 obtain ⟨q1, q2⟩ := box1 w1 [.int .i64 c, .int .i64 d] 30
 have A2 : Hid (AtN W w1.heap.size [.int .i64 c, .int .i64 d] 30) := by rw [hW]; exact q1
 have HB2 : Hid (Below w.heap.size w W) := by
  rw [hW]
  exact Below.steps HB1.out q2
 clear hW q1 q2 HB1
 by_cases hc0 : c = 0
 ·have HR2 : Hid ((!(!decide ((plnR ps).length = 0))) = r) := by
   have h := HR.out; rw [if_pos hc0] at h; rw [Hid, Bool.not_not]
   exact h
  obtain ⟨d0, d1⟩ := A2.out.c2
  have hd : (c == 0) = true := by simpa using hc0
  clear HR hc0; go_wp2_with fail
  refine (plead_raw (HP.out.1.below HB2.out) HP.out.2 hn (by omega)).mono ?_
  rintro e w3 ⟨xm, xa, xn, xc, xb, xk, xl, rfl, hB⟩; have HB3 := hid (Below.steps HB2.out hB); obtain ⟨z, hz⟩ : ∃ z, (!decide ((plnR ps).length = 0)) = z := ⟨_, rfl⟩; have HR3 := HR2.out; rw [hz] at HR3 ⊢; have HR4 := hid HR3; clear hB HB2 A2 d0 d1 HR2 hz HR3
  go_upto_region 4 with (fail)
  refine wp_world (fun W2 hW => ?_)
  obtain ⟨q1, q2⟩ := box1 w3 [.bool xm, .slice xa xn xc, .slice xb xk xl] 63
  have HB4 : Hid (Below w.heap.size w W2) := by
   rw [hW]
   exact Below.steps HB3.out q2
  clear hW q1 q2 HB3; go_wp2_with fail
  go_ret
  rw [HR4.out]
  exact ⟨rfl, HB4.out⟩
 ·have HR2 : Hid (decide (y < d) = r) := by
   have h := HR.out; rw [if_neg hc0] at h
   exact h
  have hd : (c == 0) = false := by simpa using hc0
  have hyr := HR2.out; clear HR hc0; obtain ⟨d0, d1⟩ := A2.out.c2
  go_upto_region 5 with (fail)
  clear d0 d1
  refine wp_region_held_drew (S := fun w' => w'.cell? ⟨w1.heap.size, 0, none⟩ = some (.int .i64 c) ∧ w'.cell? ⟨w1.heap.size, 1, none⟩ = some (.int .i64 d)) (by kernel_rfl) A2.out.c2 (fun hH => ?_)
  refine anyH_world (fun w3 hW => ?_)
  have HB3 : Hid (Below w.heap.size w w3) := by rw [hW]; exact HB2.out.drew
  have A3 : Hid (AtN w3 w1.heap.size [.int .i64 c, .int .i64 d] 30) := by rw [hW]; exact A2.out.below (Below.refl _ _).drew
  rw [← hW] at hH; clear HB2 A2
  clear hW
  refine son 0 hH ?_; try simp only [nrm]
  refine son 1 hH ?_; try simp only [nrm]
  refine son 2 hH ?_; try simp only [nrm]
  refine son 4 hH ?_; try simp only [nrm]
  refine son 5 hH ?_; try simp only [nrm]
  refine step_one 3 rfl (by kernel_rfl) (fun KK hK => ?_)
  go_simp; refine (vDegree_any c y (HP.out.1.below HB3.out) HP.out.2 HY.out).mono ?_
  rintro e w4 ⟨rfl, hB⟩; have HB4 := hid (Below.steps HB3.out hB); have A4 := hid (A3.out.below hB); clear hB HB3 A3; go_wp2_with fail
  clear hH; refine hK.out _ _ A4.out.c2 fun hH => ?_; clear hK KK
  try simp only [nrm]
  refine son 6 hH ?_; try simp only [nrm]
  refine son 7 hH ?_; try simp only [nrm]
  refine wpAnyH_done (by kernel_rfl) ?_ _
  go_wp2_with fail
  go_ret
  exact ⟨rfl, HB4.out⟩
def IsG [Ol] (G : Nat) (lb : Array Value) (f : List Raw → Bool) (w0 : World) : Prop := ∀ (ao : Option Addr) (n cap : Nat) (ps : List Raw) (W : World), Below w0.heap.size w0 W → Pr W ao n cap ps → (∀ t ∈ ps, t.1.2.length ≤ 1000) →
 Calls Try.prog G (#[.slice ao n cap] ++ lb) W (RetB (.bool (f ps)) W)
theorem any_next (f : List Raw → Bool) {ls : List (List Raw)} {k : Nat} (h : k < ls.length) : (ls.take (k + 1)).any f = ((ls.take k).any f || f (ls.getD k [])) := by
 rw [List.take_succ_eq_append_getElem h, List.any_append, getD_of _ h]
 simp
theorem indexP_any [Ol] {G : Nat} {lb : Array Value} {f : List Raw → Bool} (eg : ∀ args w, (callFunc G args).run Try.prog w = .ok (.enter G args) w) {ls : List (List Raw)} (hV : IsG G lb f w)
  (h : Plr w ao n cap ls) (hl : ∀ ps ∈ ls, ∀ t ∈ ps, t.1.2.length ≤ 1000) :
  Calls Try.prog 66 #[.slice ao n cap, .func (.func G) #[] lb] w (fun e w' => ∃ z : Int, e = .returned (.int .i64 z) ∧ Below w.heap.size w w' ∧ (decide (0 ≤ z) = ls.any f)) := by
 have HP := hid h; have HPL := hid h.len; have HL := hid hl; have HV := hid hV; have hbig := h.big; clear h hl hV
 go_enter Try.func66, Try.ntmps66
 go_wp2
 go_loopw [8] (fun i wr => ∃ k : Nat, i = .int .i64 k ∧ k ≤ n ∧ Hid (Below w.heap.size w wr ∧ (ls.take k).any f = false)) (fun i _ => n - (intOf i).toNat)
 case atStart => exact ⟨0, rfl, Nat.zero_le _, Below.refl _ _, by rw [List.take_zero]; rfl⟩
 case round =>
  obtain ⟨k, rfl, hk, HS⟩ := hrel
  by_cases hkn : k < n
  ·obtain ⟨b, off, po, pn, pc, hao, hb, hc, hp⟩ := (HP.out.below HS.out.1).at hkn
   subst hao; have c0 := hc wr (Below.refl _ _)
   have hki : (k : Int) < (n : Int) := by omega
   have hkl : k < ls.length := by rw [HPL.out]; exact hkn
   obtain ⟨q, hq⟩ : ∃ q, f (ls.getD k []) = q := ⟨_, rfl⟩; have hnx := any_next f hkl; rw [HS.out.2, Bool.false_or, hq] at hnx; have HN := hid hnx; have hcall := HV.out po pn pc _ wr HS.out.1 hp (HL.out _ (getD_in [] hkl)); rw [hq] at hcall; have HC := hid hcall; clear hc hp hq hnx hcall
   cases q with
   | true =>
    go_wp2_with (go_at_fn G; refine HC.out.mono ?_; rintro e w2 ⟨rfl, hB⟩; have HB2 := hid hB; clear hB)
    go_ret
    refine ⟨k, rfl, Below.steps HS.out.1 HB2.out, ?_⟩
    rw [decide_eq_true (by omega)]
    refine (List.any_eq_true.2 ?_).symm
    obtain ⟨x, hx, h2⟩ := List.any_eq_true.1 HN.out
    exact ⟨x, List.mem_of_mem_take hx, h2⟩
   | false =>
    go_wp2_with (go_at_fn G; refine HC.out.mono ?_; rintro e w2 ⟨rfl, hB⟩; have HB2 := hid hB; clear hB)
    go_roundw
    case rel => exact ⟨k + 1, by go_num, by omega, Below.steps HS.out.1 HB2.out, HN.out⟩
    case measure => simp [intOf]; omega
  ·obtain rfl : k = n := by omega
   have HN : Hid (ls.any f = false) := by
    have h := HS.out.2
    rw [List.take_of_length_le (by rw [HPL.out]; exact Nat.le_refl _)] at h
    exact h
   go_wp2
   go_ret
   exact ⟨-1, rfl, HS.out.1, by rw [HN.out]; rfl⟩
theorem containsP_any [Ol] {G : Nat} {lb : Array Value} {f : List Raw → Bool} (eg : ∀ args w, (callFunc G args).run Try.prog w = .ok (.enter G args) w) {ls : List (List Raw)} (hV : IsG G lb f w)
  (h : Plr w ao n cap ls) (hl : ∀ ps ∈ ls, ∀ t ∈ ps, t.1.2.length ≤ 1000) :
  Calls Try.prog 35 #[.slice ao n cap, .func (.func G) #[] lb] w (RetB (.bool (ls.any f)) w) := by
 have H := hid (indexP_any eg hV h hl); clear h hl hV
 go_enter Try.func35, Try.ntmps35
 go_wp2_with fail
 refine H.out.mono ?_
 rintro e w1 ⟨z, rfl, hB, hz⟩; have HB := hid hB; have HZ := hid hz; clear hB hz; go_wp2_with fail
 go_ret
 refine ⟨?_, HB.out⟩
 rw [← HZ.out]
 try rfl
theorem rby1_any [Ol] (r : Bool) {B : Nat} (hb : w.cell? ⟨B, 0, none⟩ = some (.slice ao n cap)) (hp : Pr w ao n cap ps) (hl : ∀ t ∈ ps, t.1.2.length ≤ 1000) (hn : n ≤ 1000000) (hq : Pr w bo m cb qs) (hk : ∀ t ∈ qs, t.1.2.length ≤ 1000) (hr : (!redP (plnR ps) (plnR qs)) = r) :
  Calls Try.prog 36 #[.slice bo m cb, .pointer (some ⟨B, 0, none⟩)] w (RetB (.bool r) w) := by
 obtain ⟨q, hq2⟩ : ∃ q, redP (plnR ps) (plnR qs) = q := ⟨_, rfl⟩; rw [hq2] at hr; have H := hid (rreduced_any q hp hl hn hq hk hq2); clear hp hl hq hk hq2
 go_enter Try.func36, Try.ntmps36
 go_wp2_with fail
 refine H.out.mono ?_
 rintro e w1 ⟨rfl, hB⟩; have HB := hid hB; clear hB hb; go_wp2_with fail
 go_ret
 exact ⟨rfl, HB.out⟩
theorem all_not {α : Type} (f : α → Bool) (l : List α) : (!l.any fun x => !f x) = l.all f := by
 induction l with
 | nil => rfl
 | cons x l ih => rw [List.any_cons, List.all_cons, ← ih, Bool.not_or, Bool.not_not]
theorem rby_any [Ol] (r : Bool) {ls : List (List Raw)} (hp : Pr w ao n cap ps) (hl : ∀ t ∈ ps, t.1.2.length ≤ 1000) (hn : n ≤ 1000000) (h : Plr w bo m cb ls) (hk : ∀ qs ∈ ls, ∀ t ∈ qs, t.1.2.length ≤ 1000) (hr : (ls.all fun qs => redP (plnR ps) (plnR qs)) = r) :
  Calls Try.prog 15 #[.slice ao n cap, .slice bo m cb] w (RetB (.bool r) w) := by
 rw [← all_not] at hr; have HR := hid hr
 have HP := hid (And.intro hp hl); have HL := hid (And.intro h hk); clear hp hl h hk hr
 go_enter Try.func15, Try.ntmps15
 go_upto_region 1 with (fail)
 refine wp_world (fun W hW => ?_)
 obtain ⟨a1, hB⟩ := box1 w [.slice ao n cap] 23; rw [← hW] at a1 hB; clear hW; have HB0 := hid hB
 have HG : Hid (IsG 36 #[.pointer (some ⟨w.heap.size, 0, none⟩)] (fun qs => !redP (plnR ps) (plnR qs)) W) := fun bo m cb qs W2 hW2 hq hk => by
  exact rby1_any _ ((hW2.cell (p := ⟨w.heap.size, 0, none⟩) a1.lt).trans a1.c1) (HP.out.1.below (Below.steps hB hW2)) HP.out.2 hn hq hk rfl
 clear a1 hB; go_wp2_with fail
 refine (containsP_any (enters_of Try.func36 (by kernel_rfl) rfl) HG.out (HL.out.1.below HB0.out) HL.out.2).mono ?_
 rintro e w1 ⟨rfl, hB⟩; have HB1 := hid (Below.steps HB0.out hB); clear hB HB0
 obtain ⟨z, hz⟩ : ∃ z, (ls.any fun qs => !redP (plnR ps) (plnR qs)) = z := ⟨_, rfl⟩
 have HR2 := HR.out; rw [hz] at HR2 ⊢; clear hz HR; go_wp2_with fail
 go_ret
 exact ⟨rfl, HB1.out⟩
end
end Go.Proofs.Ytmmgipcacceakaa

/-
  The contracts of slices.CompareFunc at lists of polynomials by rank.Compare; rank.Lower.
-/
import Derived.Test.YtmmgipcacceakaaRkC
set_option maxHeartbeats 40000000
set_option maxRecDepth 100000
namespace Go.Proofs.Ytmmgipcacceakaa
open Lib (hid)
open Go.RowKit
def rks (ls : List (List Raw)) : List (Int × Int) := ls.map fun ps => rkP (plnR ps)
theorem difL_take : ∀ (q : Nat) (l m : List (Int × Int)), (l.length ≤ q ∨ m.length ≤ q) → difL (l.take q) (m.take q) = difL l m
 | 0, [], m, _ => by rw [List.take_zero]; rfl
 | 0, _ :: _, [], _ => rfl
 | 0, _ :: _, _ :: _, h => by simp at h
 | _ + 1, [], m, _ => rfl
 | _ + 1, a :: l, [], _ => rfl
 | q + 1, a :: l, b :: m, h => by
  show (if cmpRk a b = 0 then difL (l.take q) (m.take q) else cmpRk a b) = if cmpRk a b = 0 then difL l m else cmpRk a b
  rw [difL_take q l m (by simpa using h)]
theorem Plr.cut [Ol] {w : World} {ao : Option Addr} {n cap : Nat} {ls : List (List Raw)} (h : Plr w ao n cap ls) (q : Nat) (hq : q ≤ n) : Plr w ao q cap (ls.take q) := by
 obtain ⟨X, h1, h2⟩ := h
 exact ⟨X.take q, h1.take q hq, tmsT_take q h2⟩
section
variable {ao bo : Option Addr} {n cap m cb : Nat} {ls ms : List (List Raw)} {w : World}
theorem cmpf_any [Ol] (z : Int) (h : Plr w ao n cap ls) (h2 : Plr w bo n cb ms) (hl : ∀ ps ∈ ls, ∀ t ∈ ps, t.1.2.length ≤ 1000) (hk : ∀ ps ∈ ms, ∀ t ∈ ps, t.1.2.length ≤ 1000) (hz : difL (rks ls) (rks ms) = z) :
  Calls Try.prog 38 #[.slice ao n cap, .slice bo n cb, .func (.func 12) #[] #[]] w (RetB (.int .i64 z) w) := by
 have HP := hid (And.intro h (And.intro h2 (And.intro hl hk))); have HPL := hid (And.intro h.len h2.len); have HZ := hid hz; have hbig := h.big
 have eg := fun args w => enters_of Try.func12 (by kernel_rfl) rfl (args := args) (w := w)
 clear h h2 hl hk hz
 go_enter Try.func38, Try.ntmps38
 go_wp2
 go_loopw [13] (fun i wr => ∃ k : Nat, i = .int .i64 k ∧ k ≤ n ∧ Hid (Below w.heap.size w wr ∧ difL ((rks ls).drop k) ((rks ms).drop k) = z)) (fun i _ => n - (intOf i).toNat)
 case atStart => exact ⟨0, rfl, Nat.zero_le _, Below.refl _ _, HZ.out⟩
 case round =>
  obtain ⟨k, rfl, hk, HS⟩ := hrel
  by_cases hkn : k < n
  ·obtain ⟨b, off, po, pn, pc, hao, hb, hc, hp⟩ := (HP.out.1.below HS.out.1).at hkn
   obtain ⟨b2, off2, qo, qn, qc, hbo, hb2, hc2, hq⟩ := (HP.out.2.1.below HS.out.1).at hkn; subst hao; subst hbo; have c0 := hc wr (Below.refl _ _); have d0 := hc2 wr (Below.refl _ _)
   have hki : (k : Int) < (n : Int) := by omega
   have hkl : k < ls.length := by rw [HPL.out.1]; exact hkn
   have hkm : k < ms.length := by rw [HPL.out.2]; exact hkn
   obtain ⟨v, hv⟩ : ∃ v, cmpRk (rkP (plnR (ls.getD k []))) (rkP (plnR (ms.getD k []))) = v := ⟨_, rfl⟩
   have hd := difL_drop (l := rks ls) (m := rks ms) (k := k) (by unfold rks; rw [List.length_map]; exact hkl) (by unfold rks; rw [List.length_map]; exact hkm)
   rw [HS.out.2] at hd
   have hr1 : (rks ls)[k]'(by unfold rks; rw [List.length_map]; exact hkl) = rkP (plnR (ls.getD k [])) := by
    rw [getD_of [] hkl]
    simp [rks]
   have hr2 : (rks ms)[k]'(by unfold rks; rw [List.length_map]; exact hkm) = rkP (plnR (ms.getD k [])) := by
    rw [getD_of [] hkm]
    simp [rks]
   rw [hr1, hr2, hv] at hd; have HD := hid hd
   have HC := hid (rcompare_any v hp (HP.out.2.2.1 _ (getD_in [] hkl)) hq (HP.out.2.2.2 _ (getD_in [] hkm)) hv); clear hc hp hc2 hq hv hd hr1 hr2; go_wp2_with fail
   refine HC.out.mono ?_
   rintro e w2 ⟨rfl, hB⟩; have HB2 := hid (Below.steps HS.out.1 hB); clear hB HC c0 d0
   by_cases hv0 : v = 0
   ·have hx : (v != 0) = false := by simp [hv0]
    have HN : Hid (difL ((rks ls).drop (k + 1)) ((rks ms).drop (k + 1)) = z) := by
     have h := HD.out; rw [if_pos hv0] at h
     exact h.symm
    clear hv0
    go_wp2
    go_roundw
    case rel => exact ⟨k + 1, by go_num, by omega, HB2.out, HN.out⟩
    case measure => simp [intOf]; omega
   ·have hx : (v != 0) = true := by simpa using hv0
    have HN : Hid (z = v) := by
     have h := HD.out; rw [if_neg hv0] at h
     exact h
    clear hv0
    go_wp2
    go_ret
    rw [HN.out]
    exact ⟨rfl, HB2.out⟩
  ·obtain rfl : k = n := by omega
   have HN : Hid (z = 0) := by
    rw [Hid, ← HS.out.2]
    exact difL_end (.inl (by unfold rks; rw [List.length_map, HPL.out.1]; exact Nat.le_refl _))
   have HB2 := hid HS.out.1; clear HS
   go_wp2
   go_ret
   rw [HN.out]
   exact ⟨rfl, HB2.out⟩
theorem rlower_any [Ol] (z : Int) (h : Plr w ao n cap ls) (h2 : Plr w bo m cb ms) (hl : ∀ ps ∈ ls, ∀ t ∈ ps, t.1.2.length ≤ 1000) (hk : ∀ ps ∈ ms, ∀ t ∈ ps, t.1.2.length ≤ 1000) (hz : lowL (rks ls) (rks ms) = z) :
  Calls Try.prog 17 #[.slice ao n cap, .slice bo m cb] w (RetB (.int .i64 z) w) := by
 have hn := h.big; have hm := h2.big; obtain ⟨x, hx⟩ : ∃ x, difL (rks ls) (rks ms) = x := ⟨_, rfl⟩; obtain ⟨y, hy⟩ : ∃ y, cmpI m n = y := ⟨_, rfl⟩
 have hll : (rks ls).length = n := by unfold rks; rw [List.length_map]; exact h.len
 have hml : (rks ms).length = m := by unfold rks; rw [List.length_map]; exact h2.len
 have HZ : Hid ((if x = 0 then y else x) = z) := by
  rw [Hid, ← hz]
  unfold lowL
  rw [hll, hml, hx, hy]
 have HY := hid hy
 obtain ⟨q, hq⟩ : ∃ q : Nat, (m < n ∧ q = m) ∨ (n ≤ m ∧ q = n) := by
  by_cases hmn : m < n
  ·exact ⟨m, .inl ⟨hmn, rfl⟩⟩
  ·exact ⟨n, .inr ⟨by omega, rfl⟩⟩
 have HP : Hid (Plr w ao q cap (ls.take q) ∧ Plr w bo q cb (ms.take q) ∧ (∀ ps ∈ ls.take q, ∀ t ∈ ps, t.1.2.length ≤ 1000) ∧ (∀ ps ∈ ms.take q, ∀ t ∈ ps, t.1.2.length ≤ 1000) ∧ difL (rks (ls.take q)) (rks (ms.take q)) = x) := by
  refine ⟨h.cut q (by omega), h2.cut q (by omega), fun ps hp => hl ps (List.mem_of_mem_take hp), fun ps hp => hk ps (List.mem_of_mem_take hp), ?_⟩
  unfold rks at hx hll hml ⊢
  rw [List.map_take, List.map_take, difL_take q _ _ (by rw [hll, hml]; omega), hx]
 clear h h2 hl hk hz hx hy hll hml
 have hqq : min (n : Int) (m : Int) = (q : Int) := by omega
 have hqn : q ≤ n := by omega
 have hqm : q ≤ m := by omega
 have hb1 : q ≤ cap := by omega
 have hb2 : q ≤ cb := by omega
 clear hq
 go_enter Try.func17, Try.ntmps17
 go_upto_region 2 with (fail)
 clear hqq hqn hqm
 refine wp_region_held_drew (S := fun w' => True) (by kernel_rfl) trivial (fun hH => ?_)
 refine anyH_world (fun w1 hW => ?_)
 have HB_1 : Hid (Below w.heap.size w w1) := by rw [hW]; exact (Below.refl _ _).drew
 clear hW
 refine son 0 hH ?_; try simp only [nrm]
 refine son 1 hH ?_; try simp only [nrm]
 refine son 2 hH ?_; try simp only [nrm]
 refine son 3 hH ?_; try simp only [nrm]
 refine son 4 hH ?_; try simp only [nrm]
 refine son 5 hH ?_; try simp only [nrm]
 refine son 7 hH ?_; try simp only [nrm]
 refine son 8 hH ?_; try simp only [nrm]
 refine son 9 hH ?_; try simp only [nrm]
 refine son 10 hH ?_; try simp only [nrm]
 refine step_one 6 rfl (by kernel_rfl) (fun KK hK => ?_)
 go_simp; refine (cmpf_any x (HP.out.1.below HB_1.out) (HP.out.2.1.below HB_1.out) HP.out.2.2.1 HP.out.2.2.2.1 HP.out.2.2.2.2).mono ?_
 rintro e w2 ⟨rfl, hB⟩; have HB_2 := hid (Below.steps HB_1.out hB); clear hB HB_1; go_wp2_with fail
 clear hH; refine hK.out _ _ trivial fun hH => ?_; clear hK KK
 try simp only [nrm]
 refine step_one 11 rfl (by kernel_rfl) (fun KK hK => ?_)
 go_simp; refine (ccmp_any m n y _ HY.out).mono ?_
 rintro e w3 ⟨rfl, rfl⟩; go_wp2_with fail
 clear hH; refine hK.out _ _ trivial fun hH => ?_; clear hK KK
 try simp only [nrm]
 refine step_one 12 rfl (by kernel_rfl) (fun KK hK => ?_)
 go_simp
 clear hH; refine hK.out _ _ trivial fun hH => ?_; clear hK KK
 try simp only [nrm]
 refine anyH_world (fun w4 hW => ?_)
 have HB_4 : Hid (Below w.heap.size w w4) := by rw [hW]; exact HB_2.out.alloc HB_2.out.size _
 have HC : Hid (∀ k, k < 2 → w4.cell? ⟨w2.heap.size, k, none⟩ = some (.int .i64 ([x, y].getD k 0))) := fun k hk => by
  rw [hW]
  obtain h | h : k = 0 ∨ k = 1 := by omega
  ·subst h; simp
  ·subst h; simp
 clear hW
 refine step_one 13 rfl (by kernel_rfl) (fun KK hK => ?_)
 go_simp
 refine (cor_any (fun k => [x, y].getD k 0) z HC.out HZ.out).mono ?_
 rintro e w5 ⟨rfl, rfl⟩; go_wp2_with fail
 clear hH; refine hK.out _ _ trivial fun hH => ?_; clear hK KK
 try simp only [nrm]
 refine son 14 hH ?_; try simp only [nrm]
 refine wpAnyH_done (by kernel_rfl) ?_ _
 go_wp2_with fail
 go_ret
 exact ⟨rfl, HB_4.out⟩
end
end Go.Proofs.Ytmmgipcacceakaa

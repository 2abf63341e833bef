/-
  The contracts of rank.Sort's function that compares, of slices.insertionSortCmpFunc, stableCmpFunc and SortStableFunc at a row of ranked polynomials.
-/
import Derived.Test.YtmmgipcacceakaaRkRw
import Derived.Test.YtmmgipcacceakaaRkA
set_option maxHeartbeats 40000000
set_option maxRecDepth 100000
namespace Go.Proofs.Ytmmgipcacceakaa
open Lib (hid)
open Go.Shelf Go.RowKit Go.Lib
def Try.ins20_ren : Go.Shelf.Ren := ⟨fun | 20 => 92 | n => n, fun | 0 => 0 | 3 => 3 | 4 => 4 | 22 => 70 | 24 => 75 | 25 => 77 | n => n, fun n => n⟩
theorem Try.ins20 : Go.Proofs.SlLaysF0.n20 Try.prog Try.ins20_ren := {
 mixed := by kernel_rfl
 f20 := ⟨"slices.insertionSortCmpFunc[porism/rank.ranked]", by kernel_rfl, Try.func92.trans (congrArg some (by kernel_rfl))⟩
 t0 := Try.underlying0
 a0 := Try.isAgg0
 z0 := Try.sizeOf0
 v0 := Try.zeroValue0
 t3 := Try.underlying3
 a3 := Try.isAgg3
 z3 := Try.sizeOf3
 v3 := Try.zeroValue3
 t4 := Try.underlying4
 a4 := Try.isAgg4
 z4 := Try.sizeOf4
 v4 := Try.zeroValue4
 t22 := Try.underlying70
 a22 := Try.isAgg70
 z22 := Try.sizeOf70
 v22 := Try.zeroValue70
 t25 := Try.underlying77
 a25 := Try.isAgg77
 z25 := Try.sizeOf77
 v25 := Try.zeroValue77 }
theorem rsort1_any (x y : RCell) (w : World) : Calls Try.prog 42 #[.agg x.vs.toArray, .agg y.vs.toArray] w (RetB (.int .i64 (cfR x y)) w) := by
 obtain ⟨c, d, ao, n, cap, p⟩ := x; obtain ⟨c', d', bo, m, cb, q⟩ := y; obtain ⟨z, hz⟩ : ∃ z, cmpRk (c, d) (c', d') = z := ⟨_, rfl⟩
 show Calls Try.prog 42 #[.agg #[.int .i64 c, .int .i64 d, .slice ao n cap], .agg #[.int .i64 c', .int .i64 d', .slice bo m cb]] w (RetB (.int .i64 (cmpRk (c, d) (c', d'))) w)
 rw [hz]; have HZ := hid hz
 clear hz
 go_enter Try.func42, Try.ntmps42
 go_upto_region 1 with (fail)
 refine wp_world (fun W hW => ?_)
 obtain ⟨a1, a2, hB⟩ := box2 w [.int .i64 c, .int .i64 d, .slice ao n cap] [.int .i64 c', .int .i64 d', .slice bo m cb] 75 75; rw [← hW] at a1 a2 hB; clear hW; have HB := hid hB; obtain ⟨e0, e1, _⟩ := a1.c3; obtain ⟨f0, f1, _⟩ := a2.c3; clear a1 a2 hB; go_wp2_with fail; refine (rcmp_any c d c' d' z _ HZ.out).mono ?_; rintro e w1 ⟨rfl, hB⟩; have HB1 := hid (Below.steps HB.out hB); clear hB HB e0 e1 f0 f1; go_wp2_with fail
 go_ret
 exact ⟨rfl, HB1.out⟩
theorem seg_of_take {L : List Value} {X : List (List Value)} (hE : Each 3 X) (h : L.take (X.length * 3) = X.flatten) : Seg 3 L 0 X := fun t ht j hj => by
 rw [Nat.zero_add, ← each_get hE t j ht hj, ← h, List.getElem?_take_of_lt (by omega)]
theorem take_of_seg {L : List Value} {X : List (List Value)} (hE : Each 3 X) (h : Seg 3 L 0 X) (hl : X.length * 3 ≤ L.length) : L.take (X.length * 3) = X.flatten := by
 apply List.ext_getElem?
 intro i
 by_cases hi : i < X.length * 3
 ·rw [List.getElem?_take_of_lt hi]
  have h1 := h (i / 3) (by omega) (i % 3) (by omega)
  have h2 := each_get hE (i / 3) (i % 3) (by omega) (by omega)
  rw [show i / 3 * 3 + i % 3 = i by omega] at h2
  rw [show 0 + i / 3 * 3 + i % 3 = i by omega] at h1
  rw [h1, h2]
 ·rw [List.getElem?_eq_none (by rw [List.length_take]; omega), List.getElem?_eq_none (by rw [each_len hE]; omega)]
theorem predU_putK {α : Type} [Inhabited α] {enc : α → List Value} (hk : ∀ x, (enc x).length = 3) (hc : ∀ x, ∀ v ∈ enc x, notU v = true) {L : List Value} (hL : ∀ u ∈ L, notU u = true) (off : Nat) (d : Array α) :
  ∀ u ∈ (Sort.putCells id off (Sort.flatK enc 3 d) L.toArray).toList, notU u = true := fun u hu => by
 obtain ⟨i, hi, rfl⟩ := List.mem_iff_getElem.1 hu
 have hi2 : i < L.length := by rw [put_len] at hi; exact hi
 have h := put_at (enc := enc) L off d i hi2; rw [List.getElem?_eq_getElem hi] at h; rw [Option.some.inj h]
 by_cases hh : off ≤ i ∧ i < off + d.size * 3
 ·rw [if_pos hh]
  have hm : (i - off) % 3 < (enc d[(i - off) / 3]!).length := by rw [hk]; omega
  rw [getElem!_pos (enc d[(i - off) / 3]!) ((i - off) % 3) hm]
  exact hc _ _ (List.getElem_mem hm)
 ·rw [if_neg hh]; exact hL _ (List.getElem_mem hi2)
theorem vsR_notU (x : RCell) : ∀ v ∈ RCell.vs x, notU v = true := fun v hv => by
 simp only [RCell.vs, List.mem_cons, List.not_mem_nil, or_false] at hv
 rcases hv with rfl | rfl | rfl <;> rfl
def ltC (x y : RCell) : Bool := ltRk x.rk y.rk
theorem ltC_is : ltOf cfR = ltC := funext fun x => funext fun y => ltR_is x y
def Srt [Ol] (B K : Nat) (w : World) (ao : Option Addr) (n cap : Nat) (l : List RCell) (w' : World) : Prop := Rr B K w' ao n cap (isort ltC l) ∧ w.grownBy w' (Value.slice ao n cap).ownBlock
section
variable {B K : Nat} {w : World} {ao : Option Addr} {n cap : Nat} {l : List RCell}
theorem rins_any [Ol] (hlo : Ol.lo ≤ B) (h : Rr B K w ao n cap l) (hn : n ≤ 8) :
  Calls Try.prog 92 #[.slice ao n cap, .int .i64 0, .int .i64 (n : Nat), .func (.func 42) #[] #[]] w (fun e w' => e = .returned (.tuple #[]) ∧ Srt B K w ao n cap l w') := by
 by_cases h0 : n = 0
 ·have hao := h.nil h0
  subst h0; subst hao
  have hl : l = [] := List.eq_nil_of_length_eq_zero h.len
  subst hl
  have HS : Hid (Srt B K w .none 0 cap [] w) := ⟨h, ⟨rfl, rfl, rfl, Nat.le_refl _, fun _ _ _ => rfl⟩⟩
  clear h
  go_enter Try.func92, Try.ntmps92
  go_wp2
  go_loopw [8] (fun i wr => i = .int .i64 1 ∧ w = wr) (fun _ _ => 0)
  case atStart => exact ⟨rfl, rfl⟩
  case round =>
   obtain ⟨rfl, rfl⟩ := hrel
   go_wp2
   go_end0
   exact ⟨rfl, HS.out⟩
 ·obtain ⟨g, cap', cur, hv, hg, hh, hnc, hcm, hcs, htk⟩ := h.row.2.resolve_left fun e => h0 e.2
  simp only [Value.slice.injEq, true_and] at hv
  obtain ⟨rfl, rfl⟩ := hv
  have hA : AtN w g cur.toList 75 := by unfold AtN; simpa using hh
  have hlen : l.length = n := h.len
  have hseg : Seg 3 cur.toList 0 (l.map RCell.vs) := seg_of_take (each_rc l) (by rw [List.length_map, hlen]; exact htk)
  have hH : Sort.HoldsK RCell.vs 3 w g 0 l.toArray := holds_seg vsR_len hA hseg
  have hcmp : CmpLays Try.prog 42 #[] RCell.vs 3 cfR g 0 l.toArray.size w := fun m os dk _ x y => by
   rw [Array.append_empty]
   exact (Dw.calls_drawn (rsort1_any x y _) (fun e w' hr => ⟨_, hr.1⟩)).mono fun e w' hr => ⟨hr.1.1, grown_of hr.1.2 hr.2⟩
  have hsz : l.toArray.size = n := by simpa using hlen
  have hC := AnyQ.insertionSortCmpFunc Try.ins20 3 Try.isAgg75 Try.sizeOf75 RCell.vs vsR_len vsR_one cfR 42 #[] g 0 cap 0 n l.toArray w
   (enters_of Try.func42 (by kernel_rfl) rfl) hcmp hH hA.lt (Nat.zero_le _) (by rw [hsz]; exact Nat.le_refl _) (by rw [hsz]; omega)
  rw [hsz] at hC
  refine hC.mono ?_
  rintro e w' ⟨rfl, m, os, rfl⟩; rw [← hlen, ins_sort, ltC_is]; rw [hlen]; have hG := grown_sorted RCell.vs w g 0 (isort ltC l).toArray m os
  have hlen2 : (isort ltC l).length = n := by rw [isort_len, hlen]
  have hA2 := hA.sorted (enc := RCell.vs) (off := 0) (isort ltC l).toArray m os
  have hcl : ∀ u ∈ cur.toList, notU u = true := h.cln g rfl cur _ _ hh
  have hl3 : (isort ltC l).toArray.size * 3 ≤ cur.toList.length := by
   rw [List.size_toArray, hlen2, Array.length_toList, hcs]
   exact Nat.mul_le_mul_right _ hnc
  refine ⟨rfl, ⟨⟨?_, .inr ⟨g, cap, (Sort.putCells id 0 (Sort.flatK RCell.vs 3 (isort ltC l).toArray) cur), rfl, hg, ?_, hnc, hcm, ?_, ?_⟩⟩, hlen2, fun g' hg' => ?_, fun h => absurd h h0, fun x hx => h.far hlo hG (h.mem x ((isort_perm ltC l).mem_iff.1 hx))⟩, hG⟩
  ·rw [each_len (each_rc _), List.length_map, hlen2]
  ·unfold AtN at hA2
   simpa using hA2
  ·simp [Sort.putCells, hcs]
  ·have hs2 := seg_put (enc := RCell.vs) vsR_len cur.toList 0 (isort ltC l).toArray (by rw [Nat.zero_add]; exact hl3)
   have ht := take_of_seg (each_rc (isort ltC l)) (by simpa using hs2) (by rw [put_len]; simpa using hl3)
   rw [List.length_map, hlen2] at ht
   simpa using ht
  ·cases hg'
   intro cur2 T2 fr2 hh2 u hu
   unfold AtN at hA2
   rw [hA2] at hh2
   cases hh2
   exact predU_putK vsR_len vsR_notU hcl 0 _ u (by simpa using hu)
theorem rstab_any {R : World → Prop} (hn : n ≤ 8) {fv : Value} (H : Calls Try.prog 92 #[.slice ao n cap, .int .i64 0, .int .i64 (n : Nat), fv] w (fun e w' => e = .returned (.tuple #[]) ∧ R w')) :
  Calls Try.prog 70 #[.slice ao n cap, .int .i64 (n : Nat), fv] w (fun e w' => e = .returned (.tuple #[]) ∧ R w') := by
 have HH := hid H
 have hni : ¬ (20 : Int) ≤ (n : Int) := by omega
 have hni2 : ¬ (20 : Int) < (n : Int) := by omega
 clear H
 go_enter Try.func70, Try.ntmps70
 go_wp2
 go_loopw [7, 8] (fun a b wr => a = .int .i64 0 ∧ b = .int .i64 20 ∧ w = wr) (fun _ _ _ => 0)
 case atStart => exact ⟨rfl, rfl, rfl⟩
 case round =>
  obtain ⟨rfl, rfl, rfl⟩ := hrel; go_wp2_with fail
  refine HH.out.mono ?_
  rintro e w1 ⟨rfl, hR⟩; have HR := hid hR; clear hR HH; go_wp2_with fail
  go_loopw [6] (fun a wr => a = .int .i64 20 ∧ w1 = wr) (fun _ _ => 0)
  case atStart => exact ⟨rfl, rfl⟩
  case round =>
   obtain ⟨rfl, rfl⟩ := hrel
   go_wp2
   go_end0
   exact ⟨rfl, HR.out⟩
theorem rstable_any [Ol] (hlo : Ol.lo ≤ B) (h : Rr B K w ao n cap l) (hn : n ≤ 8) :
  Calls Try.prog 41 #[.slice ao n cap, .func (.func 42) #[] #[]] w (fun e w' => e = .returned (.tuple #[]) ∧ Srt B K w ao n cap l w') := by
 have HH := hid (rstab_any hn (rins_any hlo h hn)); clear h
 go_enter Try.func41, Try.ntmps41
 go_wp2_with fail
 refine HH.out.mono ?_
 rintro e w1 ⟨rfl, hR⟩; have HR := hid hR; clear hR HH; go_wp2_with fail
 go_end0
 exact ⟨rfl, HR.out⟩
end
end Go.Proofs.Ytmmgipcacceakaa

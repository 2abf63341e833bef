/- RkI, RkRw, RkSt, RkPc, RkSo -/
import Derived.Test.YtmmgipcacceakaaGreatGPb
import Derived.Test.YtmmgipcacceakaaGreatGRk1
import Derived.Test.YtmmgipcacceakaaGreatVPz
import Derived.Test.YtmmgipcacceakaaGreatGQ1
set_option maxHeartbeats 40000000
set_option maxRecDepth 100000
/- The shelf's insertion sort, in plain words; a row of ranked polynomials as cells. -/
namespace Go.Proofs.YtmmgipcacceakaaGreat
open Go.Shelf Go.RowKit Go.Lib
section
variable {α : Type} [Inhabited α] (lt : α → α → Bool)
theorem swp_mid (s t : List α) (x y : α) {j : Nat} (h : s.length = j) : Sort.swp (s ++ y :: x :: t).toArray (j + 1) j = (s ++ x :: y :: t).toArray := by
 subst h
 unfold Sort.swp
 have e1 : ((s ++ y :: x :: t).toArray)[s.length]! = y := by simp
 have e2 : ((s ++ y :: x :: t).toArray)[s.length + 1]! = x := by simp
 rw [e1, e2, List.setIfInBounds_toArray, List.setIfInBounds_toArray]
 congr 1
 rw [List.set_append_right _ _ (by omega), show s.length + 1 - s.length = 1 by omega, List.set_append_right _ _ (Nat.le_refl _), Nat.sub_self]
 rfl
theorem ins_inner : ∀ (j : Nat) (s t : List α) (x : α), s.length = j → Sort.insInner lt 0 j (s ++ x :: t).toArray = (insR lt x s ++ t).toArray
 | 0, s, t, x, h => by
  obtain rfl : s = [] := List.eq_nil_of_length_eq_zero h
  unfold Sort.insInner
  rfl
 | j + 1, s, t, x, h => by
  rcases List.eq_nil_or_concat s with e | ⟨s', y, e⟩
  ·subst e; cases h
  ·rw [List.concat_eq_append] at e
   subst e
   have hl : s'.length = j := by simpa using h
   have ea : (s' ++ [y] ++ x :: t) = s' ++ y :: x :: t := by simp
   rw [ea]
   have e1 : ((s' ++ y :: x :: t).toArray)[j]! = y := by rw [← hl]; simp
   have e2 : ((s' ++ y :: x :: t).toArray)[j + 1]! = x := by rw [← hl]; simp
   unfold Sort.insInner
   rw [e1, e2, insR_snoc]
   by_cases hx : lt x y = true
   ·rw [if_pos (by simp [hx]), if_pos hx, swp_mid s' t x y hl, ins_inner j s' (y :: t) x hl]
    simp
   ·rw [if_neg (by simp [hx]), if_neg hx]
    simp
theorem ins_outer (n : Nat) : ∀ (l s : List α), s.length + l.length = n → Sort.insOuter lt 0 n s.length (s ++ l).toArray = (isortF lt s l).toArray
 | [], s, h => by
  rw [Sort.insOuter, if_neg (by simp at h; omega), List.append_nil]
  rfl
 | x :: l, s, h => by
  have hlt : s.length < n := by simp at h; omega
  rw [Sort.insOuter, if_pos hlt, ins_inner lt s.length s l x rfl]
  have hl : (insR lt x s).length = s.length + 1 := (insR_perm lt x s).length_eq
  rw [← hl]
  exact ins_outer n l (insR lt x s) (by rw [hl]; simp at h; omega)
theorem ins_sort (l : List α) : Sort.insertionSort lt l.toArray 0 l.length = (isort lt l).toArray := by
 unfold Sort.insertionSort
 cases l with
 | nil => rw [Sort.insOuter, if_neg (by simp)]; rfl
 | cons x l => exact ins_outer lt (x :: l).length l [x] (by simp; omega)
end
structure RCell where
 c : Int
 d : Int
 ao : Option Addr
 n : Nat
 cap : Nat
 p : List Term
instance : Inhabited RCell := ⟨⟨0, 0, none, 0, 0, []⟩⟩
def RCell.vs (x : RCell) : List Value := [.int .i64 x.c, .int .i64 x.d, .slice x.ao x.n x.cap]
def RCell.rk (x : RCell) : Int × Int := (x.c, x.d)
def cfR (x y : RCell) : Int := cmpRk x.rk y.rk
theorem ltR_is (x y : RCell) : ltOf cfR x y = ltRk x.rk y.rk := by
 unfold ltOf cfR
 rcases cmpRk_is x.rk y.rk with ⟨h, e⟩ | ⟨h, e⟩ | ⟨_, h, _, e⟩
 ·rw [e, h]; rfl
 ·rw [e, lt_asym h]; rfl
 ·rw [e, h]; rfl
theorem vsR_len (x : RCell) : (RCell.vs x).length = 3 := rfl
theorem vsR_one (x : RCell) : ∀ v ∈ RCell.vs x, v.oneCell' = true := fun v hv => by
 simp only [RCell.vs, List.mem_cons, List.not_mem_nil, or_false] at hv
 rcases hv with rfl | rfl | rfl <;> rfl
end Go.Proofs.YtmmgipcacceakaaGreat

/- A row of ranked polynomials in memory of the call's own; append of one; what slices.SortStableFunc makes of it. -/
namespace Go.Proofs.YtmmgipcacceakaaGreat
open Go.Shelf Go.RowKit Go.Lib
def notU (v : Value) : Bool := !isU v
structure Rr [Ol] (B K : Nat) (w : World) (ao : Option Addr) (n cap : Nat) (l : List RCell) : Prop where
 row : w.ownsRow B 62 3 (.slice ao n cap) n (l.map RCell.vs).flatten
 len : l.length = n
 cln : ∀ g, (Value.slice ao n cap).ownBlock = some g → PredB notU w g
 nil : n = 0 → ao = none
 mem : ∀ x ∈ l, Pc K w x.ao x.n x.cap x.p
section
variable {B K : Nat} {w V : World} {ao : Option Addr} {n cap : Nat} {l : List RCell}
theorem Rr.none [Ol] (B K : Nat) (w : World) : Rr B K w .none 0 0 [] := ⟨World.ownsRow_nil _ _ _ _, rfl, (fun _ h => by cases h), (fun _ => rfl), (fun _ h => by cases h)⟩
theorem Rr.parts [Ol] (h : Rr B K w ao n cap l) : (ao = .none ∧ n = 0 ∧ cap = 0 ∧ l = []) ∨ ∃ g L, ao = some ⟨g, 0, .none⟩ ∧ B ≤ g ∧ g < w.heap.size ∧ n ≤ cap ∧ AtN w g L 62 ∧ L.take (n * 3) = (l.map RCell.vs).flatten ∧ 0 < n ∧ n * 3 ≤ L.length := by
 rcases h.row.2 with ⟨hv, h0⟩ | ⟨g, cap', cur, hv, hg, hh, hn, hcm, hcs, htk⟩
 ·simp only [Value.slice.injEq] at hv
  exact .inl ⟨hv.1, hv.2.1, hv.2.2, List.eq_nil_of_length_eq_zero (by rw [h.len, h0])⟩
 ·simp only [Value.slice.injEq, true_and] at hv
  obtain ⟨rfl, rfl⟩ := hv
  have hn0 : 0 < n := Nat.pos_of_ne_zero fun h0 => by have := h.nil h0; cases this
  refine .inr ⟨g, cur.toList, rfl, hg, lt_of_block hh, hn, (by unfold AtN; simpa using hh), htk, hn0, ?_⟩
  rw [Array.length_toList, hcs]
  exact Nat.mul_le_mul_right _ hn
theorem Rr.own [Ol] (h : Rr B K w ao n cap l) : ∀ r, (Value.slice ao n cap).ownBlock = some r → B ≤ r ∧ r < w.heap.size := fun r e => by
 rcases h.parts with ⟨rfl, _⟩ | ⟨g, L, rfl, h1, h2, _⟩
 ·cases e
 ·cases e; exact ⟨h1, h2⟩
theorem each_rc (l : List RCell) : Each 3 (l.map RCell.vs) := fun vs hv => by
 obtain ⟨x, _, rfl⟩ := List.mem_map.1 hv
 exact ⟨rfl, vsR_one x⟩
theorem Rr.far [Ol] (hlo : Ol.lo ≤ B) (h : Rr B K w ao n cap l) {W : World} (hG : w.grownBy W (Value.slice ao n cap).ownBlock) : ∀ {K2 : Nat} {bo : Option Addr} {m cb : Nat} {p : List Term}, Pc K2 w bo m cb p → Pc K2 W bo m cb p := by
 intro K2 bo m cb p hp
 rcases h.parts with ⟨rfl, _⟩ | ⟨g, L, rfl, h1, h2, h3, hA, htk, hn0, hL⟩
 ·exact hp.below ⟨hG.os, hG.tape, hG.output, hG.size, fun k hk => hG.block k hk (by simp [Value.ownBlock])⟩
 ·refine hp.farB (FarB.mk' (Nat.le_trans hlo h1) hA (by decide +kernel) ?_ (fun u hu => ?_) hG)
  ·cases l with
   | nil => have := h.len; simp at this; omega
   | cons x l =>
    refine ⟨.int .i64 x.c, ?_, rfl⟩
    have : (Value.int .i64 x.c) ∈ L.take (n * 3) := by rw [htk]; simp [RCell.vs]
    exact List.mem_of_mem_take this
  ·have hc := h.cln g rfl L.toArray _ _ hA u (by simpa using hu)
   unfold notU at hc
   simpa using hc
theorem Rr.below [Ol] (h : Rr B K w ao n cap l) (hb : Below w.heap.size w V) : Rr B K V ao n cap l := by
 have ho := h.own
 refine ⟨⟨h.row.1, ?_⟩, h.len, fun g hg => (h.cln g hg).keep (hb.block g (ho g hg).2), h.nil, fun x hx => (h.mem x hx).below hb⟩
 rcases h.row.2 with h2 | ⟨g, cap', cur, hv, hg, hh, r⟩
 ·exact .inl h2
 ·simp only [Value.slice.injEq, true_and] at hv
  obtain ⟨rfl, rfl⟩ := hv
  exact .inr ⟨g, cap, cur, rfl, hg, by rw [hb.block g (lt_of_block hh)]; exact hh, r⟩
theorem Rr.at [Ol] (h : Rr B K w ao n cap l) {k : Nat} (hk : k < n) : ∃ g, ao = some ⟨g, 0, .none⟩ ∧ g < w.heap.size ∧ ∀ V : World, Below w.heap.size w V →
  V.cell? ⟨g, k * 3, .none⟩ = some (.int .i64 (l.getD k default).c) ∧ V.cell? ⟨g, k * 3 + 1, .none⟩ = some (.int .i64 (l.getD k default).d) ∧ V.cell? ⟨g, k * 3 + 2, .none⟩ = some (.slice (l.getD k default).ao (l.getD k default).n (l.getD k default).cap) := by
 have hkl : k < l.length := by rw [h.len]; exact hk
 rcases h.parts with ⟨_, h0, _⟩ | ⟨g, L, rfl, _, h2, _⟩
 ·omega
 ·refine ⟨g, rfl, h2, fun V hV => ?_⟩
  have e : (l.map RCell.vs).getD k [] = RCell.vs (l.getD k default) := by rw [getD_of _ hkl, getD_of _ (by rw [List.length_map]; exact hkl)]; simp
  have hc : ∀ j, j < 3 → V.cell? ⟨g, k * 3 + j, .none⟩ = (RCell.vs (l.getD k default))[j]? := fun j hj => by
   rw [hV.cell (p := ⟨g, k * 3 + j, .none⟩) h2, h.row.cellAt (k * 3 + j) (by omega), each_get (each_rc l) k j (by rw [List.length_map]; exact hkl) hj, e]
  exact ⟨hc 0 (by omega), hc 1 (by omega), hc 2 (by omega)⟩
theorem Tryz.info_rk : (Tryz.prog.info? 62).map (fun i => (i.zero, i.size, i.bytes)) = some (some (.agg #[.int .i64 0, .int .i64 0, .slice .none 0 0]), 3, 40) := by kernel_rfl
def RrPush [Ol] (B K : Nat) (w : World) (ao : Option Addr) (n cap : Nat) (l : List RCell) (v : Value) (W : World) : Prop := ∃ ro rc, v = .slice ro (n + 1) rc ∧ Rr B K W ro (n + 1) rc l ∧ w.grownBy W (Value.slice ao n cap).ownBlock
theorem rr_push [Ol] (hlo : Ol.lo ≤ B) (h : Rr B K w ao n cap l) (x : RCell) (hq : Pc K w x.ao x.n x.cap x.p) (hB : B ≤ w.heap.size) (hn : n ≤ 1000000) (tt ty : TypeId) :
  ∃ v W, (Builtin.append_ #[57, 57] ty #[.slice ao n cap, .slice (some ⟨w.heap.size, 0, .none⟩) 1 1]).run Tryz.prog (w.alloc (.cells #[.int .i64 x.c, .int .i64 x.d, .slice x.ao x.n x.cap] tt)) = .ok v W ∧ RrPush B K w ao n cap (l ++ [x]) v W := by
 obtain ⟨i0, hi, hz0, hz1, hz2⟩ := info_parts Tryz.info_rk; have ha := below_alloc w (.cells #[.int .i64 x.c, .int .i64 x.d, .slice x.ao x.n x.cap] tt)
 have hc : ∀ j u, (RCell.vs x)[j]? = some u → (w.alloc (.cells #[.int .i64 x.c, .int .i64 x.d, .slice x.ao x.n x.cap] tt)).cell? ((⟨w.heap.size, 0, .none⟩ : Addr).add j) = some u := fun j u hj => by
  rw [Addr.add_lit, Nat.zero_add]
  exact ((AtN.new w (RCell.vs x) tt).cell j).trans hj
 obtain ⟨w1, h1⟩ : ∃ w1, w1 = w.alloc (.cells #[.int .i64 x.c, .int .i64 x.d, .slice x.ao x.n x.cap] tt) := ⟨_, rfl⟩; rw [← h1] at ha hc ⊢; have hh := h.below ha
 obtain ⟨v', w', hr, hown', hgrow, hpr⟩ := run_append_pred (φ := notU) (P := Tryz.prog) w1 B 57 ty 62 i0 (.agg #[.int .i64 0, .int .i64 0, .slice .none 0 0]) 3 40 Tryz.underlying57 hi hz0 hz1 hz2 rfl (by omega) _ n (l.map RCell.vs).flatten hh.row ⟨w.heap.size, 0, .none⟩ 1 1 (RCell.vs x) rfl
  hc (vsR_one x) (by unfold maxLen; omega) (by omega) (Nat.le_trans hB ha.size) hh.cln (fun u hu => by
   simp only [RCell.vs, List.mem_cons, List.not_mem_nil, or_false] at hu
   rcases hu with rfl | rfl | rfl <;> rfl) (by simp [Value.cells, notU, isU])
 obtain ⟨ao', cap', rfl⟩ := owns_shape3 hown'
 have hW : w.grownBy w' (Value.slice ao n cap).ownBlock := ⟨hgrow.os.trans ha.os, hgrow.tape.trans ha.tape, hgrow.output.trans ha.output, Nat.le_trans ha.size hgrow.size, fun k hk hne => (hgrow.block k (Nat.lt_of_lt_of_le hk ha.size) hne).trans (ha.block k hk)⟩
 refine ⟨_, _, hr, ao', cap', rfl, ⟨?_, by rw [List.length_append, h.len]; rfl, hpr, (fun h0 => by omega), fun y hy => ?_⟩, hW⟩
 ·rw [List.map_append, List.flatten_append]
  simpa using hown'
 ·rcases List.mem_append.1 hy with hy | hy
  ·exact h.far hlo hW (h.mem y hy)
  ·rw [List.mem_singleton] at hy
   subst hy
   exact h.far hlo hW hq
end
end Go.Proofs.YtmmgipcacceakaaGreat

/- The contracts of rank.Sort's function that compares, of slices.insertionSortCmpFunc, stableCmpFunc and SortStableFunc at a row of ranked polynomials. -/
namespace Go.Proofs.YtmmgipcacceakaaGreat
open Lib (hid)
open Go.Shelf Go.RowKit Go.Lib
def Tryz.ins20_ren : Go.Shelf.Ren := ⟨fun | 20 => 98 | n => n, fun | 0 => 0 | 3 => 3 | 4 => 4 | 22 => 57 | 24 => 62 | 25 => 65 | n => n, fun n => n⟩
theorem Tryz.ins20 : Go.Proofs.SlLaysF0.n20 Tryz.prog Tryz.ins20_ren := {
 mixed := by kernel_rfl
 f20 := ⟨"slices.insertionSortCmpFunc[porism/rank.ranked]", by kernel_rfl, Tryz.func98.trans (congrArg some (by kernel_rfl))⟩
 t0 := Tryz.underlying0
 a0 := Tryz.isAgg0
 z0 := Tryz.sizeOf0
 v0 := Tryz.zeroValue0
 t3 := Tryz.underlying3
 a3 := Tryz.isAgg3
 z3 := Tryz.sizeOf3
 v3 := Tryz.zeroValue3
 t4 := Tryz.underlying4
 a4 := Tryz.isAgg4
 z4 := Tryz.sizeOf4
 v4 := Tryz.zeroValue4
 t22 := Tryz.underlying57
 a22 := Tryz.isAgg57
 z22 := Tryz.sizeOf57
 v22 := Tryz.zeroValue57
 t25 := Tryz.underlying65
 a25 := Tryz.isAgg65
 z25 := Tryz.sizeOf65
 v25 := Tryz.zeroValue65 }
theorem rsort1_any (x y : RCell) (w : World) : Calls Tryz.prog 30 #[.agg x.vs.toArray, .agg y.vs.toArray] w (RetB (.int .i64 (cfR x y)) w) := by
 obtain ⟨c, d, ao, n, cap, p⟩ := x; obtain ⟨c', d', bo, m, cb, q⟩ := y; obtain ⟨z, hz⟩ : ∃ z, cmpRk (c, d) (c', d') = z := ⟨_, rfl⟩
 show Calls Tryz.prog 30 #[.agg #[.int .i64 c, .int .i64 d, .slice ao n cap], .agg #[.int .i64 c', .int .i64 d', .slice bo m cb]] w (RetB (.int .i64 (cmpRk (c, d) (c', d'))) w)
 rw [hz]; have HZ := hid hz
 clear hz
 go_enter Tryz.func30, Tryz.ntmps30
 go_upto_region 1 with (fail)
 refine wp_world (fun W hW => ?_)
 obtain ⟨a1, a2, hB⟩ := box2 w [.int .i64 c, .int .i64 d, .slice ao n cap] [.int .i64 c', .int .i64 d', .slice bo m cb] 62 62; rw [← hW] at a1 a2 hB; clear hW; have HB := hid hB; obtain ⟨e0, e1, _⟩ := a1.c3; obtain ⟨f0, f1, _⟩ := a2.c3; clear a1 a2 hB; go_wp2_with fail; refine (rcmp_any c d c' d' z _ HZ.out).mono ?_; rintro e w1 ⟨rfl, hB⟩; have HB1 := hid (Below.steps HB.out hB); clear hB HB e0 e1 f0 f1; go_wp2_with fail
 go_ret
 exact ⟨rfl, HB1.out⟩
theorem seg_of_take {L : List Value} {X : List (List Value)} (hE : Each 3 X) (h : L.take (X.length * 3) = X.flatten) : Seg 3 L 0 X := fun t ht j hj => by
 rw [Nat.zero_add, ← each_get hE t j ht hj, ← h, List.getElem?_take_of_lt (by omega)]
theorem take_of_seg {L : List Value} {X : List (List Value)} (hE : Each 3 X) (h : Seg 3 L 0 X) (hl : X.length * 3 ≤ L.length) : L.take (X.length * 3) = X.flatten := by
 apply List.ext_getElem?
 intro i
 by_cases hi : i < X.length * 3
 ·rw [List.getElem?_take_of_lt hi]
  have h1 := h (i / 3) (by omega) (i % 3) (by omega)
  have h2 := each_get hE (i / 3) (i % 3) (by omega) (by omega)
  rw [show i / 3 * 3 + i % 3 = i by omega] at h2
  rw [show 0 + i / 3 * 3 + i % 3 = i by omega] at h1
  rw [h1, h2]
 ·rw [List.getElem?_eq_none (by rw [List.length_take]; omega), List.getElem?_eq_none (by rw [each_len hE]; omega)]
theorem predU_putK {α : Type} [Inhabited α] {enc : α → List Value} (hk : ∀ x, (enc x).length = 3) (hc : ∀ x, ∀ v ∈ enc x, notU v = true) {L : List Value} (hL : ∀ u ∈ L, notU u = true) (off : Nat) (d : Array α) :
  ∀ u ∈ (Sort.putCells id off (Sort.flatK enc 3 d) L.toArray).toList, notU u = true := fun u hu => by
 obtain ⟨i, hi, rfl⟩ := List.mem_iff_getElem.1 hu
 have hi2 : i < L.length := by rw [put_len] at hi; exact hi
 have h := put_at (enc := enc) L off d i hi2; rw [List.getElem?_eq_getElem hi] at h; rw [Option.some.inj h]
 by_cases hh : off ≤ i ∧ i < off + d.size * 3
 ·rw [if_pos hh]
  have hm : (i - off) % 3 < (enc d[(i - off) / 3]!).length := by rw [hk]; omega
  rw [getElem!_pos (enc d[(i - off) / 3]!) ((i - off) % 3) hm]
  exact hc _ _ (List.getElem_mem hm)
 ·rw [if_neg hh]; exact hL _ (List.getElem_mem hi2)
theorem vsR_notU (x : RCell) : ∀ v ∈ RCell.vs x, notU v = true := fun v hv => by
 simp only [RCell.vs, List.mem_cons, List.not_mem_nil, or_false] at hv
 rcases hv with rfl | rfl | rfl <;> rfl
def ltC (x y : RCell) : Bool := ltRk x.rk y.rk
theorem ltC_is : ltOf cfR = ltC := funext fun x => funext fun y => ltR_is x y
def Srt [Ol] (B K : Nat) (w : World) (ao : Option Addr) (n cap : Nat) (l : List RCell) (w' : World) : Prop := Rr B K w' ao n cap (isort ltC l) ∧ w.grownBy w' (Value.slice ao n cap).ownBlock
section
variable {B K : Nat} {w : World} {ao : Option Addr} {n cap : Nat} {l : List RCell}
theorem rins_any [Ol] (hlo : Ol.lo ≤ B) (h : Rr B K w ao n cap l) (hn : n ≤ 8) :
  Calls Tryz.prog 98 #[.slice ao n cap, .int .i64 0, .int .i64 (n : Nat), .func (.func 30) #[] #[]] w (fun e w' => e = .returned (.tuple #[]) ∧ Srt B K w ao n cap l w') := by
 by_cases h0 : n = 0
 ·have hao := h.nil h0
  subst h0; subst hao
  have hl : l = [] := List.eq_nil_of_length_eq_zero h.len
  subst hl
  have HS : Hid (Srt B K w .none 0 cap [] w) := ⟨h, ⟨rfl, rfl, rfl, Nat.le_refl _, fun _ _ _ => rfl⟩⟩
  clear h
  go_enter Tryz.func98, Tryz.ntmps98
  go_wp2
  go_loopw [8] (fun i wr => i = .int .i64 1 ∧ w = wr) (fun _ _ => 0)
  case atStart => exact ⟨rfl, rfl⟩
  case round =>
   obtain ⟨rfl, rfl⟩ := hrel
   go_wp2
   go_end0
   exact ⟨rfl, HS.out⟩
 ·obtain ⟨g, cap', cur, hv, hg, hh, hnc, hcm, hcs, htk⟩ := h.row.2.resolve_left fun e => h0 e.2
  simp only [Value.slice.injEq, true_and] at hv
  obtain ⟨rfl, rfl⟩ := hv
  have hA : AtN w g cur.toList 62 := by unfold AtN; simpa using hh
  have hlen : l.length = n := h.len
  have hseg : Seg 3 cur.toList 0 (l.map RCell.vs) := seg_of_take (each_rc l) (by rw [List.length_map, hlen]; exact htk)
  have hH : Sort.HoldsK RCell.vs 3 w g 0 l.toArray := holds_seg vsR_len hA hseg
  have hcmp : CmpLays Tryz.prog 30 #[] RCell.vs 3 cfR g 0 l.toArray.size w := fun m os dk _ x y => by
   rw [Array.append_empty]
   exact (Dw.calls_drawn (rsort1_any x y _) (fun e w' hr => ⟨_, hr.1⟩)).mono fun e w' hr => ⟨hr.1.1, grown_of hr.1.2 hr.2⟩
  have hsz : l.toArray.size = n := by simpa using hlen
  have hC := AnyQ.insertionSortCmpFunc Tryz.ins20 3 Tryz.isAgg62 Tryz.sizeOf62 RCell.vs vsR_len vsR_one cfR 30 #[] g 0 cap 0 n l.toArray w
   (enters_of Tryz.func30 (by kernel_rfl) rfl) hcmp hH hA.lt (Nat.zero_le _) (by rw [hsz]; exact Nat.le_refl _) (by rw [hsz]; omega)
  rw [hsz] at hC
  refine hC.mono ?_
  rintro e w' ⟨rfl, m, os, rfl⟩; rw [← hlen, ins_sort, ltC_is]; rw [hlen]; have hG := grown_sorted RCell.vs w g 0 (isort ltC l).toArray m os
  have hlen2 : (isort ltC l).length = n := by rw [isort_len, hlen]
  have hA2 := hA.sorted (enc := RCell.vs) (off := 0) (isort ltC l).toArray m os
  have hcl : ∀ u ∈ cur.toList, notU u = true := h.cln g rfl cur _ _ hh
  have hl3 : (isort ltC l).toArray.size * 3 ≤ cur.toList.length := by
   rw [List.size_toArray, hlen2, Array.length_toList, hcs]
   exact Nat.mul_le_mul_right _ hnc
  refine ⟨rfl, ⟨⟨?_, .inr ⟨g, cap, (Sort.putCells id 0 (Sort.flatK RCell.vs 3 (isort ltC l).toArray) cur), rfl, hg, ?_, hnc, hcm, ?_, ?_⟩⟩, hlen2, fun g' hg' => ?_, fun h => absurd h h0, fun x hx => h.far hlo hG (h.mem x ((isort_perm ltC l).mem_iff.1 hx))⟩, hG⟩
  ·rw [each_len (each_rc _), List.length_map, hlen2]
  ·unfold AtN at hA2
   simpa using hA2
  ·simp [Sort.putCells, hcs]
  ·have hs2 := seg_put (enc := RCell.vs) vsR_len cur.toList 0 (isort ltC l).toArray (by rw [Nat.zero_add]; exact hl3)
   have ht := take_of_seg (each_rc (isort ltC l)) (by simpa using hs2) (by rw [put_len]; simpa using hl3)
   rw [List.length_map, hlen2] at ht
   simpa using ht
  ·cases hg'
   intro cur2 T2 fr2 hh2 u hu
   unfold AtN at hA2
   rw [hA2] at hh2
   cases hh2
   exact predU_putK vsR_len vsR_notU hcl 0 _ u (by simpa using hu)
theorem rstab_any {R : World → Prop} (hn : n ≤ 8) {fv : Value} (H : Calls Tryz.prog 98 #[.slice ao n cap, .int .i64 0, .int .i64 (n : Nat), fv] w (fun e w' => e = .returned (.tuple #[]) ∧ R w')) :
  Calls Tryz.prog 65 #[.slice ao n cap, .int .i64 (n : Nat), fv] w (fun e w' => e = .returned (.tuple #[]) ∧ R w') := by
 have HH := hid H
 have hni : ¬ (20 : Int) ≤ (n : Int) := by omega
 have hni2 : ¬ (20 : Int) < (n : Int) := by omega
 clear H
 go_enter Tryz.func65, Tryz.ntmps65
 go_wp2
 go_loopw [7, 8] (fun a b wr => a = .int .i64 0 ∧ b = .int .i64 20 ∧ w = wr) (fun _ _ _ => 0)
 case atStart => exact ⟨rfl, rfl, rfl⟩
 case round =>
  obtain ⟨rfl, rfl, rfl⟩ := hrel; go_wp2_with fail
  refine HH.out.mono ?_
  rintro e w1 ⟨rfl, hR⟩; have HR := hid hR; clear hR HH; go_wp2_with fail
  go_loopw [6] (fun a wr => a = .int .i64 20 ∧ w1 = wr) (fun _ _ => 0)
  case atStart => exact ⟨rfl, rfl⟩
  case round =>
   obtain ⟨rfl, rfl⟩ := hrel
   go_wp2
   go_end0
   exact ⟨rfl, HR.out⟩
theorem rstable_any [Ol] (hlo : Ol.lo ≤ B) (h : Rr B K w ao n cap l) (hn : n ≤ 8) :
  Calls Tryz.prog 29 #[.slice ao n cap, .func (.func 30) #[] #[]] w (fun e w' => e = .returned (.tuple #[]) ∧ Srt B K w ao n cap l w') := by
 have HH := hid (rstab_any hn (rins_any hlo h hn)); clear h
 go_enter Tryz.func29, Tryz.ntmps29
 go_wp2_with fail
 refine HH.out.mono ?_
 rintro e w1 ⟨rfl, hR⟩; have HR := hid hR; clear hR HH; go_wp2_with fail
 go_end0
 exact ⟨rfl, HR.out⟩
end
end Go.Proofs.YtmmgipcacceakaaGreat

/- Lists of polynomials in memory of the call's own: a row of slices alone; append of one. -/
namespace Go.Proofs.YtmmgipcacceakaaGreat
open Go.RowKit
theorem Pc.farS [Ol] {B K : Nat} {e : TypeId} {w V : World} {ao : Option Addr} {n cap : Nat} {X : List (List Value)} {po : Option Addr} {pn pc : Nat} {q : List Term} (h : Pc K w po pn pc q) (hO : Go1 B e 1 w ao n cap X) (hS : ∀ g, (Value.slice ao n cap).ownBlock = some g → PredB slc w g) (hG : w.grownBy V (Value.slice ao n cap).ownBlock) : Pc K V po pn pc q := by
 obtain ⟨vss, h1, h2⟩ := h.ex
 have hfar : 0 < pn → ∀ a, po = some a → (Value.slice ao n cap).ownBlock ≠ some a.block := fun h0 a ha eq => by
  have hl := h2.len
  obtain ⟨m, ao', n', cap', bo, k, cb, hv, _⟩ := Tms.get (0, []) h2 0 (by rw [← hl, h1.len]; exact h0)
  have hc := h1.cells a ha 0 h0 0 (by omega)
  rw [hv] at hc
  exact SlcB.far (hS _ eq) (m := m) hc (add_block3 _ _)
 refine ⟨vss, ⟨h1.len, h1.le, h1.big, h1.each, h1.nil, h1.spot, fun ad had h0 => Nat.lt_of_lt_of_le (h1.lt ad had h0) hG.size, fun ad had t ht j hj => ?_, fun h0 ad had => (h1.kp h0 ad had).keep (hG.block ad.block (h1.lt ad had h0) fun eq => hfar h0 ad had eq.symm)⟩, h2.imp fun _ _ h => h.stays hO hG⟩
 have hb := hG.block ad.block (h1.lt ad had (by omega)) fun eq => hfar (by omega) ad had eq.symm
 rw [World.cell?_of_block (w := w) (by rw [add_block3]; exact hb)]
 exact h1.cells ad had t ht j hj
def PcLR [Ol] (K : Nat) (w : World) (vs : List Value) (p : List Term) : Prop := ∃ ao n cap, vs = [.slice ao n cap] ∧ Pc K w ao n cap p
structure Pcl [Ol] (B K : Nat) (w : World) (ao : Option Addr) (n cap : Nat) (ls : List (List Term)) : Prop where
 ex : ∃ X, Go1 B 26 1 w ao n cap X ∧ (∀ g, (Value.slice ao n cap).ownBlock = some g → PredB slc w g) ∧ Tms (PcLR K w) X ls
section
variable {B K : Nat} {w V : World} {ao : Option Addr} {n cap : Nat} {ls : List (List Term)}
theorem Pcl.nil [Ol] (B K : Nat) (w : World) : Pcl B K w none 0 0 [] := ⟨[], Go1.nil _ _ _ _, (fun _ h => by cases h), trivial⟩
theorem Pcl.len [Ol] (h : Pcl B K w ao n cap ls) : ls.length = n := by
 obtain ⟨X, h1, _, h3⟩ := h.ex; rw [← h3.len, h1.len]
theorem Pcl.own [Ol] (h : Pcl B K w ao n cap ls) : ∀ r, (Value.slice ao n cap).ownBlock = some r → B ≤ r ∧ r < w.heap.size := fun r e => by
 obtain ⟨X, h1, _, _⟩ := h.ex
 rcases h1.parts with ⟨rfl, _⟩ | ⟨g, cur, rfl, hg, hlt, _⟩
 ·cases e
 ·cases e; exact ⟨hg, hlt⟩
theorem Pcl.below [Ol] (h : Pcl B K w ao n cap ls) (hb : Below w.heap.size w V) : Pcl B K V ao n cap ls := by
 have hl := h.own; obtain ⟨X, h1, h2, h3⟩ := h.ex
 exact ⟨X, h1.below hb, fun g hg => (h2 g hg).keep (hb.block g (hl g hg).2), h3.imp fun _ _ ⟨a, b, c, h4, h5⟩ => ⟨a, b, c, h4, h5.below hb⟩⟩
theorem Pcl.mono [Ol] {K' : Nat} (h : Pcl B K w ao n cap ls) (hk : K ≤ K') : Pcl B K' w ao n cap ls := by
 obtain ⟨X, h1, h2, h3⟩ := h.ex
 exact ⟨X, h1, h2, h3.imp fun _ _ ⟨a, b, c, h4, h5⟩ => ⟨a, b, c, h4, h5.mono hk⟩⟩
theorem Pcl.at [Ol] (h : Pcl B K w ao n cap ls) {k : Nat} (hk : k < n) : ∃ g po pn pc, ao = some ⟨g, 0, none⟩ ∧ g < w.heap.size ∧ Pc K w po pn pc (ls.getD k []) ∧ ∀ V : World, Below w.heap.size w V → V.cell? ⟨g, k, none⟩ = some (.slice po pn pc) := by
 have hl := h.len; obtain ⟨X, h1, h2, h3⟩ := h.ex
 obtain ⟨po, pn, pc, hv, hp⟩ := Tms.get [] h3 k (by omega)
 rcases h1.parts with ⟨_, h0, _⟩ | ⟨g, cur, rfl, hg, hlt, _⟩
 ·omega
 ·refine ⟨g, po, pn, pc, rfl, hlt, hp, fun V hV => ?_⟩
  have hc := (h1.gl.below hV).cells _ rfl k hk 0 (by omega)
  rw [hv, Addr.add_lit, Nat.mul_one, Nat.add_zero, Nat.zero_add] at hc
  exact hc
end
theorem Tryz.info_ap : (Tryz.prog.info? 26).map (fun i => (i.zero, i.size, i.bytes)) = some (some (.slice none 0 0), 1, 24) := by kernel_rfl
def PclPush [Ol] (B K : Nat) (w : World) (ao : Option Addr) (n cap : Nat) (ls : List (List Term)) (v : Value) (W : World) : Prop := ∃ ro rc, v = .slice ro (n + 1) rc ∧ Pcl B K W ro (n + 1) rc ls ∧ w.grownBy W (Value.slice ao n cap).ownBlock
theorem pcl_push [Ol] {B K : Nat} {w : World} {ao : Option Addr} {n cap : Nat} {ls : List (List Term)} {po : Option Addr} {pn pc : Nat} {q : List Term} (h : Pcl B K w ao n cap ls) (hq : Pc K w po pn pc q) (hB : B ≤ w.heap.size) (hn : n ≤ 1000000) (tt ty : TypeId) :
  ∃ v W, (Builtin.append_ #[22, 22] ty #[.slice ao n cap, .slice (some ⟨w.heap.size, 0, none⟩) 1 1]).run Tryz.prog (w.alloc (.cells #[.slice po pn pc] tt)) = .ok v W ∧ PclPush B K w ao n cap (ls ++ [q]) v W := by
 obtain ⟨i0, hi, hz0, hz1, hz2⟩ := info_parts Tryz.info_ap; have ha := below_alloc w (.cells #[.slice po pn pc] tt)
 have hc : (w.alloc (.cells #[.slice po pn pc] tt)).cell? ⟨w.heap.size, 0, none⟩ = some (.slice po pn pc) := by simp
 obtain ⟨w1, h1⟩ : ∃ w1, w1 = w.alloc (.cells #[.slice po pn pc] tt) := ⟨_, rfl⟩; rw [← h1] at ha hc ⊢; have hh := h.below ha; obtain ⟨X, hO, hS, hT⟩ := hh.ex
 obtain ⟨v', w', hr, hown', hgrow, hpr⟩ := run_append_pred (φ := slc) (P := Tryz.prog) w1 B 22 ty 26 i0 (.slice none 0 0) 1 24 Tryz.underlying22 hi hz0 hz1 hz2 rfl (by omega) _ n X.flatten hO.row ⟨w.heap.size, 0, none⟩ 1 1 [.slice po pn pc] rfl
  (fun j u hj => by
   rcases j with _ | j
   ·simp at hj; subst hj; exact hc
   ·simp at hj) (fun u hu => by simp at hu; subst hu; rfl) (by unfold maxLen; omega) (by omega) (Nat.le_trans hB ha.size) hS (fun u hu => by simp at hu; subst hu; rfl) (by simp [Value.cells, slc])
 obtain ⟨v2, w2, hr2, _, _, hcl⟩ := run_append_clean (P := Tryz.prog) w1 B 22 ty 26 i0 (.slice none 0 0) 1 24 Tryz.underlying22 hi hz0 hz1 hz2 rfl (by omega) _ n X.flatten hO.row ⟨w.heap.size, 0, none⟩ 1 1 [.slice po pn pc] rfl
  (fun j u hj => by
   rcases j with _ | j
   ·simp at hj; subst hj; exact hc
   ·simp at hj) (fun u hu => by simp at hu; subst hu; rfl) (by unfold maxLen; omega) (by omega) (Nat.le_trans hB ha.size) hO.cln (fun u hu => by simp at hu; subst hu; rfl) (by simp [Value.cells, notInt])
 rw [hr] at hr2
 cases hr2
 obtain ⟨ao', cap', rfl⟩ := owns_shape3 hown'
 have hO2 : Go1 B 26 1 w' ao' (n + 1) cap' (X ++ [[.slice po pn pc]]) := ⟨by rw [List.flatten_append]; exact hown', by rw [List.length_append, hO.len]; rfl, by omega, hO.each.append (Each.mk1 rfl fun v hv => by simp at hv; subst hv; rfl), hcl⟩
 refine ⟨_, _, hr, ao', cap', rfl, ⟨X ++ [[.slice po pn pc]], hO2, hpr, Tms.append (hT.imp fun _ _ ⟨a, b, c, h4, h5⟩ => ⟨a, b, c, h4, h5.farS hO hS hgrow⟩) ⟨⟨po, pn, pc, rfl, (hq.below ha).farS hO hS hgrow⟩, trivial⟩⟩, ?_⟩
 exact ⟨hgrow.os.trans ha.os, hgrow.tape.trans ha.tape, hgrow.output.trans ha.output, Nat.le_trans ha.size hgrow.size, fun k hk hne => (hgrow.block k (Nat.lt_of_lt_of_le hk ha.size) hne).trans (ha.block k hk)⟩
theorem Pcl.plr [Ol] {B K : Nat} {w : World} {ao : Option Addr} {n cap : Nat} {ls : List (List Term)} (h : Pcl B K w ao n cap ls) : Plr w ao n cap (ls.map fun p => p.map rawC) := by
 obtain ⟨X, h1, _, h3⟩ := h.ex
 exact ⟨X, h1.gl, Tms.map (fun p : List Term => p.map rawC) (fun _ _ _ ⟨ao, n, cap, e, h2⟩ => ⟨ao, n, cap, e, h2.raw⟩) h3⟩
theorem Pcl.lens [Ol] {B K : Nat} {w : World} {ao : Option Addr} {n cap : Nat} {ls : List (List Term)} (h : Pcl B K w ao n cap ls) : ∀ p ∈ ls, ∀ t ∈ p.map rawC, t.1.2.length ≤ K := fun p hp => by
 obtain ⟨k, hk, rfl⟩ := List.mem_iff_getElem.1 hp
 obtain ⟨_, _, _, _, _, _, hc, _⟩ := h.at (k := k) (by rw [← h.len]; exact hk)
 rw [getD_of [] hk] at hc
 exact hc.lens
end Go.Proofs.YtmmgipcacceakaaGreat

/- The contract of rank.Sort. -/
namespace Go.Proofs.YtmmgipcacceakaaGreat
open Lib (hid)
open Go.RowKit
def keepR (ls : List (List Raw)) : List (List Term) := (ls.map plnR).filter fun p => !p.isEmpty
theorem keepR_next {ls : List (List Raw)} {k : Nat} (h : k < ls.length) : keepR (ls.take (k + 1)) = keepR (ls.take k) ++ if (plnR (ls.getD k [])).length = 0 then [] else [plnR (ls.getD k [])] := by
 unfold keepR
 rw [List.take_succ_eq_append_getElem h, List.map_append, List.filter_append, getD_of [] h]
 congr 1
 cases hp : plnR ls[k] with
 | nil => simp [hp]
 | cons t r => simp [hp]
theorem srt_cells {l : List RCell} (h : ∀ x ∈ l, x.rk = rkP x.p) : (isort ltC l).map RCell.p = srtP (l.map RCell.p) := by
 have e : l = l.map fun x => { x with c := (rkP x.p).1, d := (rkP x.p).2 } := by
  conv => lhs; rw [← List.map_id l]
  refine List.map_congr_left fun x hx => ?_
  have h1 := h x hx; obtain ⟨c, d, ao, n, cap, p⟩ := x
  unfold RCell.rk at h1
  simp only at h1
  show RCell.mk c d ao n cap p = RCell.mk (rkP p).1 (rkP p).2 ao n cap p
  rw [← h1]
 have e2 := isort_map (lt := fun x y : RCell => ltP x.p y.p) (lt2 := ltC) (f := fun x => { x with c := (rkP x.p).1, d := (rkP x.p).2 }) (fun _ _ => rfl) l
 rw [← e] at e2; rw [← e2, List.map_map]
 exact isort_map (lt := fun x y : RCell => ltP x.p y.p) (lt2 := ltP) (f := RCell.p) (fun _ _ => rfl) l
def NewPcl [Ol] (K : Nat) (w : World) (ls : List (List Term)) (e : Ending) (w' : World) : Prop := ∃ ao n cap B, e = .returned (.slice ao n cap) ∧ ls.length = n ∧ Pcl B K w' ao n cap ls ∧ Below w.heap.size w w'
theorem rsort_any [Ol] {K : Nat} (hK : K ≤ 900) {ao : Option Addr} {n cap : Nat} {ls : List (List Raw)} {w : World} (hlo : Ol.lo ≤ w.heap.size) (h : Plr w ao n cap ls) (hl : ∀ ps ∈ ls, ∀ t ∈ ps, t.1.2.length ≤ K) (ht : ∀ ps ∈ ls, ps.length ≤ 1000) (hn : n ≤ 8) :
  Calls Tryz.prog 8 #[.slice ao n cap] w (NewPcl (K + 1) w (srtP (keepR ls))) := by
 have HP := hid h; have HPL := hid h.len; have HL := hid hl; have HT := hid ht
 have HS0 : Hid (Rr w.heap.size (K + 1) w none 0 0 [] ∧ ([] : List RCell).map RCell.p = keepR (ls.take 0) ∧ (∀ x ∈ ([] : List RCell), x.rk = rkP x.p) ∧ Below w.heap.size w w) := ⟨Rr.none _ _ _, by rw [List.take_zero]; rfl, (fun _ h => by cases h), Below.refl _ _⟩
 clear h hl ht
 go_enter Tryz.func8, Tryz.ntmps8
 go_wp2
 go_loopw [3, 13] (fun rv i wr => ∃ (k m : Nat) (ro : Option Addr) (rc : Nat) (l : List RCell), rv = .slice ro m rc ∧ i = .int .i64 k ∧ k ≤ n ∧ m ≤ k ∧ Hid (Rr w.heap.size (K + 1) wr ro m rc l ∧ l.map RCell.p = keepR (ls.take k) ∧ (∀ x ∈ l, x.rk = rkP x.p) ∧ Below w.heap.size w wr)) (fun _ i _ => n - (intOf i).toNat)
 case atStart => exact ⟨0, 0, none, 0, [], rfl, rfl, Nat.zero_le _, Nat.le_refl _, HS0.out⟩
 case round =>
  clear HS0; obtain ⟨k, m, ro, rc, l, rfl, rfl, hk, hmk, HS⟩ := hrel
  by_cases hkn : k < n
  ·obtain ⟨b, off, po, pn, pc, hao, hb, hc, hp⟩ := (HP.out.below HS.out.2.2.2).at hkn
   subst hao; have c0 := hc wr (Below.refl _ _)
   have hki : (k : Int) < (n : Int) := by omega
   have hkl : k < ls.length := by rw [HPL.out]; exact hkn
   have hnx := keepR_next hkl; obtain ⟨ps, hps⟩ : ∃ ps, ls.getD k [] = ps := ⟨_, rfl⟩
   have hpl : ∀ t ∈ ps, t.1.2.length ≤ K := HL.out ps (by rw [← hps]; exact getD_in [] hkl)
   have hpt : ps.length ≤ 1000 := HT.out ps (by rw [← hps]; exact getD_in [] hkl)
   rw [hps] at hp hnx; obtain ⟨p, hpp⟩ : ∃ p, plnR ps = p := ⟨_, rfl⟩
   have HNX := hid hnx
   have hpn : pn ≤ 1000 := by have := hp.len; omega
   have hfl := pln_fall hp.wfs; rw [hpp] at hfl; have HFL := hid hfl; have HPP := hid hpp; have HPS := hid (And.intro hp hpl); clear hc hp hps hnx hpl hpt hpp hfl hb
   cases hm : mayR ps with
   | false =>
    have HM := hid hm; have hp0 := pln_no hm; clear hm; go_wp2_with fail
    refine (padd_bad1 HPS.out.1 (fun t ht => Nat.le_trans (HPS.out.2 t ht) (by omega)) HM.out).mono ?_
    rintro e w2 ⟨oo, on, oc, rfl, hX, hB⟩
    have HN : Hid (Rr w.heap.size (K + 1) w2 ro m rc l ∧ l.map RCell.p = keepR (ls.take (k + 1)) ∧ (∀ x ∈ l, x.rk = rkP x.p) ∧ Below w.heap.size w w2) := by
     refine ⟨HS.out.1.below hB, ?_, HS.out.2.2.1, Below.steps HS.out.2.2.2 hB⟩
     rw [HNX.out, hp0, HS.out.2.1]
     simp
    clear hX hB hp0 HS c0; go_wp2_with fail
    go_roundw
    case rel => exact ⟨k + 1, m, ro, rc, l, rfl, by go_num, by omega, by omega, HN.out⟩
    case measure => simp [intOf]; omega
   | true =>
    have hq := (HPS.out.1.pln HPS.out.2 hm).1; rw [HPP.out] at hq; have HQ := hid hq; clear hm hq; go_wp2_with fail
    refine (padd_any HQ.out (Pc.zero _ _) HFL.out trivial (by omega) (by omega)).mono ?_
    rintro e w2 ⟨oo, on, oc, rfl, hX, hB⟩
    rw [show addT p [] = p from rfl] at hX
    have HS2 : Hid (Rr w.heap.size (K + 1) w2 ro m rc l ∧ l.map RCell.p = keepR (ls.take k) ∧ (∀ x ∈ l, x.rk = rkP x.p) ∧ Below w.heap.size w w2) := ⟨HS.out.1.below hB, HS.out.2.1, HS.out.2.2.1, Below.steps HS.out.2.2.2 hB⟩
    have hxl := hX.len; have HX := hid hX; clear hX hB HS c0 HQ
    by_cases h0 : on = 0
    ·subst h0
     have HN : Hid (Rr w.heap.size (K + 1) w2 ro m rc l ∧ l.map RCell.p = keepR (ls.take (k + 1)) ∧ (∀ x ∈ l, x.rk = rkP x.p) ∧ Below w.heap.size w w2) := by
      refine ⟨HS2.out.1, ?_, HS2.out.2.2⟩
      rw [HNX.out, HPP.out, if_pos hxl, HS2.out.2.1]
      simp
     have h00 : decide ((0 : Int) < ((0 : Nat) : Int)) = false := rfl
     clear HS2 hxl; go_wp2_with fail
     go_roundw
     case rel => exact ⟨k + 1, m, ro, rc, l, rfl, by go_num, by omega, by omega, HN.out⟩
     case measure => simp [intOf]; omega
    ·have hon : (0 : Int) < (on : Int) := by omega
     obtain ⟨c, hc⟩ : ∃ c, clsP p = c := ⟨_, rfl⟩; obtain ⟨d, hd⟩ : ∃ d, degP p c = d := ⟨_, rfl⟩; have HCD := hid (And.intro hc hd)
     have HXR : Hid (Pr w2 oo on oc (p.map rawC) ∧ (∀ t ∈ p.map rawC, t.1.2.length ≤ 1000) ∧ clsP (plnR (p.map rawC)) = c ∧ degP (plnR (p.map rawC)) c = d) := by
      rw [Hid, pln_raw HFL.out]
      exact ⟨HX.out.raw, fun t ht => Nat.le_trans (HX.out.lens t ht) (by omega), hc, hd⟩
     have HKN : Hid (keepR (ls.take (k + 1)) = keepR (ls.take k) ++ [p]) := by
      rw [Hid, HNX.out, HPP.out, if_neg (by omega)]
     clear hc hd hxl HNX; go_wp2_with fail; refine (rof_any c d HXR.out.1 HXR.out.2.1 HXR.out.2.2.1 HXR.out.2.2.2).mono ?_; rintro e w3 ⟨rfl, hB⟩
     have HS3 : Hid (Rr w.heap.size (K + 1) w3 ro m rc l ∧ l.map RCell.p = keepR (ls.take k) ∧ (∀ x ∈ l, x.rk = rkP x.p) ∧ Below w.heap.size w w3) := ⟨HS2.out.1.below hB, HS2.out.2.1, HS2.out.2.2.1, Below.steps HS2.out.2.2.2 hB⟩
     obtain ⟨v8, W8, hr8, hps⟩ := rr_push hlo HS3.out.1 ⟨c, d, oo, on, oc, p⟩ (HX.out.below hB) HS3.out.2.2.2.size (by omega) 62 57
     have HPU := hid hps; clear hps hB HS2 HXR HX
     go_wp2_with (at_builtin; refine wpList_append_of rfl (.tmp 29) (.tmp 34) 57 57 rfl _ _ rfl rfl hr8 ?_)
     clear hr8; obtain ⟨ro8, rc8, rfl, hp1, hp2⟩ := HPU.out
     have HN : Hid (Rr w.heap.size (K + 1) W8 ro8 (m + 1) rc8 (l ++ [⟨c, d, oo, on, oc, p⟩]) ∧ (l ++ [(⟨c, d, oo, on, oc, p⟩ : RCell)]).map RCell.p = keepR (ls.take (k + 1)) ∧ (∀ x ∈ l ++ [(⟨c, d, oo, on, oc, p⟩ : RCell)], x.rk = rkP x.p) ∧ Below w.heap.size w W8) := by
      refine ⟨hp1, by rw [List.map_append, HS3.out.2.1, HKN.out]; rfl, fun x hx => ?_, HS3.out.2.2.2.grown hp2 HS3.out.2.2.2.size fun r e => (HS3.out.1.own r e).1⟩
      rcases List.mem_append.1 hx with hx | hx
      ·exact HS3.out.2.2.1 x hx
      ·rw [List.mem_singleton] at hx
       subst hx
       show (c, d) = rkP p
       rw [← HCD.out.2, ← HCD.out.1]
       rfl
     clear hp1 hp2 HPU HS3 HKN
     try go_wp2
     go_roundw
     case rel => exact ⟨k + 1, m + 1, ro8, rc8, _, rfl, by go_num, by omega, by omega, HN.out⟩
     case measure => simp [intOf]; omega
  ·obtain rfl : k = n := by omega
   have HK : Hid (l.map RCell.p = keepR ls) := by
    have h := HS.out.2.1
    rw [List.take_of_length_le (by rw [HPL.out]; exact Nat.le_refl _)] at h
    exact h
   go_wp2_with fail
   refine (rstable_any hlo HS.out.1 (by omega)).mono ?_
   rintro e w4 ⟨rfl, hS1, hS2⟩
   have HQ : Hid (Rr w.heap.size (K + 1) w4 ro m rc (isort ltC l) ∧ (isort ltC l).map RCell.p = srtP (keepR ls) ∧ Below w.heap.size w w4) := by
    refine ⟨hS1, by rw [srt_cells HS.out.2.2.1, HK.out], HS.out.2.2.2.grown hS2 HS.out.2.2.2.size fun r e => (HS.out.1.own r e).1⟩
   obtain ⟨q, hq⟩ : ∃ q, isort ltC l = q := ⟨_, rfl⟩; rw [hq] at HQ
   have hql : q.length = m := by rw [← hq, isort_len]; exact HS.out.1.len
   have HQL := hid hql
   have HS4 : Hid (Pcl w4.heap.size (K + 1) w4 none 0 0 ((q.map RCell.p).take 0) ∧ Below w4.heap.size w4 w4) := ⟨by rw [List.take_zero]; exact Pcl.nil _ _ _, Below.refl _ _⟩
   clear hS1 hS2 HS HK hq hql; go_wp2_with fail
   go_loopw [8, 41] (fun sv i wr => ∃ (k : Nat) (so : Option Addr) (sc : Nat), sv = .slice so k sc ∧ i = .int .i64 k ∧ k ≤ m ∧ Hid (Pcl w4.heap.size (K + 1) wr so k sc ((q.map RCell.p).take k) ∧ Below w4.heap.size w4 wr)) (fun _ i _ => m - (intOf i).toNat)
   case atStart => exact ⟨0, none, 0, rfl, rfl, Nat.zero_le _, HS4.out⟩
   case round =>
    clear HS4; obtain ⟨j, so, sc, rfl, rfl, hj, HS⟩ := hrel
    by_cases hjm : j < m
    ·obtain ⟨g, hro, hg, hc⟩ := HQ.out.1.at hjm
     subst hro
     have hjl : j < q.length := by rw [HQL.out]; exact hjm
     obtain ⟨x, hx⟩ : ∃ x, q.getD j default = x := ⟨_, rfl⟩
     have hxq : x ∈ q := by rw [← hx]; exact getD_in default hjl
     have hxp := HQ.out.1.mem x hxq
     have htk : (q.map RCell.p).take (j + 1) = (q.map RCell.p).take j ++ [x.p] := by
      rw [List.take_succ_eq_append_getElem (by rw [List.length_map]; exact hjl), List.getElem_map, ← hx, getD_of default hjl]
     rw [hx] at hc; obtain ⟨c, d, xo, xn, xc, p⟩ := x
     obtain ⟨c0, c1, c2⟩ := hc _ HS.out.2
     simp only at c0 c1 c2 hxp htk
     have HXP := hid hxp; have HTK := hid htk
     have hji : (j : Int) < (m : Int) := by omega
     clear hc hx hxq hxp htk hg
     go_upto_region 14 with (fail)
     refine wp_world (fun W hW => ?_)
     obtain ⟨a1, hB⟩ := box1 wr [.int .i64 c, .int .i64 d, .slice xo xn xc] 62; rw [← hW] at a1 hB; clear hW c0 c1 c2
     have HS5 : Hid (Pcl w4.heap.size (K + 1) W so j sc ((q.map RCell.p).take j) ∧ Below w4.heap.size w4 W) := ⟨HS.out.1.below hB, Below.steps HS.out.2 hB⟩
     obtain ⟨_, _, e2⟩ := a1.c3
     obtain ⟨v8, W8, hr8, hps⟩ := pcl_push HS5.out.1 (HXP.out.below HS5.out.2) HS5.out.2.size (by omega) 26 22
     have HPU := hid hps; clear hps hB HS a1
     go_wp2_with (at_builtin; refine wpList_append_of rfl (.tmp 45) (.tmp 48) 22 22 rfl _ _ rfl rfl hr8 ?_)
     clear hr8 e2; obtain ⟨ro8, rc8, rfl, hp1, hp2⟩ := HPU.out
     have HN : Hid (Pcl w4.heap.size (K + 1) W8 ro8 (j + 1) rc8 ((q.map RCell.p).take (j + 1)) ∧ Below w4.heap.size w4 W8) := by rw [HTK.out]; exact ⟨hp1, HS5.out.2.grown hp2 HS5.out.2.size fun r e => (HS5.out.1.own r e).1⟩
     clear hp1 hp2 HPU HS5 HTK HXP
     try go_wp2
     go_roundw
     case rel => exact ⟨j + 1, ro8, rc8, rfl, by go_num, by omega, HN.out⟩
     case measure => simp [intOf]; omega
    ·obtain rfl : j = m := by omega
     have HR : Hid (NewPcl (K + 1) w (srtP (keepR ls)) (.returned (.slice so j sc)) wr) := by
      have h := HS.out.1
      rw [List.take_of_length_le (by rw [List.length_map, HQL.out]; exact Nat.le_refl _), HQ.out.2.1] at h
      exact ⟨_, _, _, _, rfl, by rw [← HQ.out.2.1, List.length_map]; exact HQL.out, h, Below.steps HQ.out.2.2 HS.out.2⟩
     clear HS
     go_wp2
     go_ret
     exact HR.out
end Go.Proofs.YtmmgipcacceakaaGreat


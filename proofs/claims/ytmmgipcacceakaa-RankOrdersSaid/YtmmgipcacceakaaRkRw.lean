/-
  A row of ranked polynomials in memory of the call's own; append of one; what slices.SortStableFunc makes of it.
-/
import Derived.Test.YtmmgipcacceakaaRkI
import Derived.Test.YtmmgipcacceakaaVPz
import Derived.Test.YtmmgipcacceakaaGQ1
set_option maxHeartbeats 40000000
set_option maxRecDepth 100000
namespace Go.Proofs.Ytmmgipcacceakaa
open Go.Shelf Go.RowKit Go.Lib
def notU (v : Value) : Bool := !isU v
structure Rr [Ol] (B K : Nat) (w : World) (ao : Option Addr) (n cap : Nat) (l : List RCell) : Prop where
 row : w.ownsRow B 75 3 (.slice ao n cap) n (l.map RCell.vs).flatten
 len : l.length = n
 cln : ∀ g, (Value.slice ao n cap).ownBlock = some g → PredB notU w g
 nil : n = 0 → ao = none
 mem : ∀ x ∈ l, Pc K w x.ao x.n x.cap x.p
section
variable {B K : Nat} {w V : World} {ao : Option Addr} {n cap : Nat} {l : List RCell}
theorem Rr.none [Ol] (B K : Nat) (w : World) : Rr B K w .none 0 0 [] := ⟨World.ownsRow_nil _ _ _ _, rfl, (fun _ h => by cases h), (fun _ => rfl), (fun _ h => by cases h)⟩
theorem Rr.parts [Ol] (h : Rr B K w ao n cap l) : (ao = .none ∧ n = 0 ∧ cap = 0 ∧ l = []) ∨ ∃ g L, ao = some ⟨g, 0, .none⟩ ∧ B ≤ g ∧ g < w.heap.size ∧ n ≤ cap ∧ AtN w g L 75 ∧ L.take (n * 3) = (l.map RCell.vs).flatten ∧ 0 < n ∧ n * 3 ≤ L.length := by
 rcases h.row.2 with ⟨hv, h0⟩ | ⟨g, cap', cur, hv, hg, hh, hn, hcm, hcs, htk⟩
 ·simp only [Value.slice.injEq] at hv
  exact .inl ⟨hv.1, hv.2.1, hv.2.2, List.eq_nil_of_length_eq_zero (by rw [h.len, h0])⟩
 ·simp only [Value.slice.injEq, true_and] at hv
  obtain ⟨rfl, rfl⟩ := hv
  have hn0 : 0 < n := Nat.pos_of_ne_zero fun h0 => by have := h.nil h0; cases this
  refine .inr ⟨g, cur.toList, rfl, hg, lt_of_block hh, hn, (by unfold AtN; simpa using hh), htk, hn0, ?_⟩
  rw [Array.length_toList, hcs]
  exact Nat.mul_le_mul_right _ hn
theorem Rr.own [Ol] (h : Rr B K w ao n cap l) : ∀ r, (Value.slice ao n cap).ownBlock = some r → B ≤ r ∧ r < w.heap.size := fun r e => by
 rcases h.parts with ⟨rfl, _⟩ | ⟨g, L, rfl, h1, h2, _⟩
 ·cases e
 ·cases e; exact ⟨h1, h2⟩
theorem each_rc (l : List RCell) : Each 3 (l.map RCell.vs) := fun vs hv => by
 obtain ⟨x, _, rfl⟩ := List.mem_map.1 hv
 exact ⟨rfl, vsR_one x⟩
theorem Rr.far [Ol] (hlo : Ol.lo ≤ B) (h : Rr B K w ao n cap l) {W : World} (hG : w.grownBy W (Value.slice ao n cap).ownBlock) : ∀ {K2 : Nat} {bo : Option Addr} {m cb : Nat} {p : List Term}, Pc K2 w bo m cb p → Pc K2 W bo m cb p := by
 intro K2 bo m cb p hp
 rcases h.parts with ⟨rfl, _⟩ | ⟨g, L, rfl, h1, h2, h3, hA, htk, hn0, hL⟩
 ·exact hp.below ⟨hG.os, hG.tape, hG.output, hG.size, fun k hk => hG.block k hk (by simp [Value.ownBlock])⟩
 ·refine hp.farB (FarB.mk' (Nat.le_trans hlo h1) hA (by decide +kernel) ?_ (fun u hu => ?_) hG)
  ·cases l with
   | nil => have := h.len; simp at this; omega
   | cons x l =>
    refine ⟨.int .i64 x.c, ?_, rfl⟩
    have : (Value.int .i64 x.c) ∈ L.take (n * 3) := by rw [htk]; simp [RCell.vs]
    exact List.mem_of_mem_take this
  ·have hc := h.cln g rfl L.toArray _ _ hA u (by simpa using hu)
   unfold notU at hc
   simpa using hc
theorem Rr.below [Ol] (h : Rr B K w ao n cap l) (hb : Below w.heap.size w V) : Rr B K V ao n cap l := by
 have ho := h.own
 refine ⟨⟨h.row.1, ?_⟩, h.len, fun g hg => (h.cln g hg).keep (hb.block g (ho g hg).2), h.nil, fun x hx => (h.mem x hx).below hb⟩
 rcases h.row.2 with h2 | ⟨g, cap', cur, hv, hg, hh, r⟩
 ·exact .inl h2
 ·simp only [Value.slice.injEq, true_and] at hv
  obtain ⟨rfl, rfl⟩ := hv
  exact .inr ⟨g, cap, cur, rfl, hg, by rw [hb.block g (lt_of_block hh)]; exact hh, r⟩
theorem Rr.at [Ol] (h : Rr B K w ao n cap l) {k : Nat} (hk : k < n) : ∃ g, ao = some ⟨g, 0, .none⟩ ∧ g < w.heap.size ∧ ∀ V : World, Below w.heap.size w V →
  V.cell? ⟨g, k * 3, .none⟩ = some (.int .i64 (l.getD k default).c) ∧ V.cell? ⟨g, k * 3 + 1, .none⟩ = some (.int .i64 (l.getD k default).d) ∧ V.cell? ⟨g, k * 3 + 2, .none⟩ = some (.slice (l.getD k default).ao (l.getD k default).n (l.getD k default).cap) := by
 have hkl : k < l.length := by rw [h.len]; exact hk
 rcases h.parts with ⟨_, h0, _⟩ | ⟨g, L, rfl, _, h2, _⟩
 ·omega
 ·refine ⟨g, rfl, h2, fun V hV => ?_⟩
  have e : (l.map RCell.vs).getD k [] = RCell.vs (l.getD k default) := by rw [getD_of _ hkl, getD_of _ (by rw [List.length_map]; exact hkl)]; simp
  have hc : ∀ j, j < 3 → V.cell? ⟨g, k * 3 + j, .none⟩ = (RCell.vs (l.getD k default))[j]? := fun j hj => by
   rw [hV.cell (p := ⟨g, k * 3 + j, .none⟩) h2, h.row.cellAt (k * 3 + j) (by omega), each_get (each_rc l) k j (by rw [List.length_map]; exact hkl) hj, e]
  exact ⟨hc 0 (by omega), hc 1 (by omega), hc 2 (by omega)⟩
theorem Try.info_rk : (Try.prog.info? 75).map (fun i => (i.zero, i.size, i.bytes)) = some (some (.agg #[.int .i64 0, .int .i64 0, .slice .none 0 0]), 3, 40) := by kernel_rfl
def RrPush [Ol] (B K : Nat) (w : World) (ao : Option Addr) (n cap : Nat) (l : List RCell) (v : Value) (W : World) : Prop := ∃ ro rc, v = .slice ro (n + 1) rc ∧ Rr B K W ro (n + 1) rc l ∧ w.grownBy W (Value.slice ao n cap).ownBlock
theorem rr_push [Ol] (hlo : Ol.lo ≤ B) (h : Rr B K w ao n cap l) (x : RCell) (hq : Pc K w x.ao x.n x.cap x.p) (hB : B ≤ w.heap.size) (hn : n ≤ 1000000) (tt ty : TypeId) :
  ∃ v W, (Builtin.append_ #[70, 70] ty #[.slice ao n cap, .slice (some ⟨w.heap.size, 0, .none⟩) 1 1]).run Try.prog (w.alloc (.cells #[.int .i64 x.c, .int .i64 x.d, .slice x.ao x.n x.cap] tt)) = .ok v W ∧ RrPush B K w ao n cap (l ++ [x]) v W := by
 obtain ⟨i0, hi, hz0, hz1, hz2⟩ := info_parts Try.info_rk; have ha := below_alloc w (.cells #[.int .i64 x.c, .int .i64 x.d, .slice x.ao x.n x.cap] tt)
 have hc : ∀ j u, (RCell.vs x)[j]? = some u → (w.alloc (.cells #[.int .i64 x.c, .int .i64 x.d, .slice x.ao x.n x.cap] tt)).cell? ((⟨w.heap.size, 0, .none⟩ : Addr).add j) = some u := fun j u hj => by
  rw [Addr.add_lit, Nat.zero_add]
  exact ((AtN.new w (RCell.vs x) tt).cell j).trans hj
 obtain ⟨w1, h1⟩ : ∃ w1, w1 = w.alloc (.cells #[.int .i64 x.c, .int .i64 x.d, .slice x.ao x.n x.cap] tt) := ⟨_, rfl⟩; rw [← h1] at ha hc ⊢; have hh := h.below ha
 obtain ⟨v', w', hr, hown', hgrow, hpr⟩ := run_append_pred (φ := notU) (P := Try.prog) w1 B 70 ty 75 i0 (.agg #[.int .i64 0, .int .i64 0, .slice .none 0 0]) 3 40 Try.underlying70 hi hz0 hz1 hz2 rfl (by omega) _ n (l.map RCell.vs).flatten hh.row ⟨w.heap.size, 0, .none⟩ 1 1 (RCell.vs x) rfl
  hc (vsR_one x) (by unfold maxLen; omega) (by omega) (Nat.le_trans hB ha.size) hh.cln (fun u hu => by
   simp only [RCell.vs, List.mem_cons, List.not_mem_nil, or_false] at hu
   rcases hu with rfl | rfl | rfl <;> rfl) (by simp [Value.cells, notU, isU])
 obtain ⟨ao', cap', rfl⟩ := owns_shape3 hown'
 have hW : w.grownBy w' (Value.slice ao n cap).ownBlock := ⟨hgrow.os.trans ha.os, hgrow.tape.trans ha.tape, hgrow.output.trans ha.output, Nat.le_trans ha.size hgrow.size, fun k hk hne => (hgrow.block k (Nat.lt_of_lt_of_le hk ha.size) hne).trans (ha.block k hk)⟩
 refine ⟨_, _, hr, ao', cap', rfl, ⟨?_, by rw [List.length_append, h.len]; rfl, hpr, (fun h0 => by omega), fun y hy => ?_⟩, hW⟩
 ·rw [List.map_append, List.flatten_append]
  simpa using hown'
 ·rcases List.mem_append.1 hy with hy | hy
  ·exact h.far hlo hW (h.mem y hy)
  ·rw [List.mem_singleton] at hy
   subst hy
   exact h.far hlo hW hq
end
end Go.Proofs.Ytmmgipcacceakaa

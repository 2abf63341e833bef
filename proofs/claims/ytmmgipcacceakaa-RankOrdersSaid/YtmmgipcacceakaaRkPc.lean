/-
  Lists of polynomials in memory of the call's own: a row of slices alone; append of one.
-/
import Derived.Test.YtmmgipcacceakaaVPz
import Derived.Test.YtmmgipcacceakaaVLp
set_option maxHeartbeats 40000000
set_option maxRecDepth 100000
namespace Go.Proofs.Ytmmgipcacceakaa
open Go.RowKit
theorem Pc.farS [Ol] {B K : Nat} {e : TypeId} {w V : World} {ao : Option Addr} {n cap : Nat} {X : List (List Value)} {po : Option Addr} {pn pc : Nat} {q : List Term} (h : Pc K w po pn pc q) (hO : Go1 B e 1 w ao n cap X) (hS : ∀ g, (Value.slice ao n cap).ownBlock = some g → PredB slc w g) (hG : w.grownBy V (Value.slice ao n cap).ownBlock) : Pc K V po pn pc q := by
 obtain ⟨vss, h1, h2⟩ := h.ex
 have hfar : 0 < pn → ∀ a, po = some a → (Value.slice ao n cap).ownBlock ≠ some a.block := fun h0 a ha eq => by
  have hl := h2.len
  obtain ⟨m, ao', n', cap', bo, k, cb, hv, _⟩ := Tms.get (0, []) h2 0 (by rw [← hl, h1.len]; exact h0)
  have hc := h1.cells a ha 0 h0 0 (by omega)
  rw [hv] at hc
  exact SlcB.far (hS _ eq) (m := m) hc (add_block3 _ _)
 refine ⟨vss, ⟨h1.len, h1.le, h1.big, h1.each, h1.nil, h1.spot, fun ad had h0 => Nat.lt_of_lt_of_le (h1.lt ad had h0) hG.size, fun ad had t ht j hj => ?_, fun h0 ad had => (h1.kp h0 ad had).keep (hG.block ad.block (h1.lt ad had h0) fun eq => hfar h0 ad had eq.symm)⟩, h2.imp fun _ _ h => h.stays hO hG⟩
 have hb := hG.block ad.block (h1.lt ad had (by omega)) fun eq => hfar (by omega) ad had eq.symm
 rw [World.cell?_of_block (w := w) (by rw [add_block3]; exact hb)]
 exact h1.cells ad had t ht j hj
def PcLR [Ol] (K : Nat) (w : World) (vs : List Value) (p : List Term) : Prop := ∃ ao n cap, vs = [.slice ao n cap] ∧ Pc K w ao n cap p
structure Pcl [Ol] (B K : Nat) (w : World) (ao : Option Addr) (n cap : Nat) (ls : List (List Term)) : Prop where
 ex : ∃ X, Go1 B 23 1 w ao n cap X ∧ (∀ g, (Value.slice ao n cap).ownBlock = some g → PredB slc w g) ∧ Tms (PcLR K w) X ls
section
variable {B K : Nat} {w V : World} {ao : Option Addr} {n cap : Nat} {ls : List (List Term)}
theorem Pcl.nil [Ol] (B K : Nat) (w : World) : Pcl B K w none 0 0 [] := ⟨[], Go1.nil _ _ _ _, (fun _ h => by cases h), trivial⟩
theorem Pcl.len [Ol] (h : Pcl B K w ao n cap ls) : ls.length = n := by
 obtain ⟨X, h1, _, h3⟩ := h.ex; rw [← h3.len, h1.len]
theorem Pcl.own [Ol] (h : Pcl B K w ao n cap ls) : ∀ r, (Value.slice ao n cap).ownBlock = some r → B ≤ r ∧ r < w.heap.size := fun r e => by
 obtain ⟨X, h1, _, _⟩ := h.ex
 rcases h1.parts with ⟨rfl, _⟩ | ⟨g, cur, rfl, hg, hlt, _⟩
 ·cases e
 ·cases e; exact ⟨hg, hlt⟩
theorem Pcl.below [Ol] (h : Pcl B K w ao n cap ls) (hb : Below w.heap.size w V) : Pcl B K V ao n cap ls := by
 have hl := h.own; obtain ⟨X, h1, h2, h3⟩ := h.ex
 exact ⟨X, h1.below hb, fun g hg => (h2 g hg).keep (hb.block g (hl g hg).2), h3.imp fun _ _ ⟨a, b, c, h4, h5⟩ => ⟨a, b, c, h4, h5.below hb⟩⟩
theorem Pcl.mono [Ol] {K' : Nat} (h : Pcl B K w ao n cap ls) (hk : K ≤ K') : Pcl B K' w ao n cap ls := by
 obtain ⟨X, h1, h2, h3⟩ := h.ex
 exact ⟨X, h1, h2, h3.imp fun _ _ ⟨a, b, c, h4, h5⟩ => ⟨a, b, c, h4, h5.mono hk⟩⟩
theorem Pcl.at [Ol] (h : Pcl B K w ao n cap ls) {k : Nat} (hk : k < n) : ∃ g po pn pc, ao = some ⟨g, 0, none⟩ ∧ g < w.heap.size ∧ Pc K w po pn pc (ls.getD k []) ∧ ∀ V : World, Below w.heap.size w V → V.cell? ⟨g, k, none⟩ = some (.slice po pn pc) := by
 have hl := h.len; obtain ⟨X, h1, h2, h3⟩ := h.ex
 obtain ⟨po, pn, pc, hv, hp⟩ := Tms.get [] h3 k (by omega)
 rcases h1.parts with ⟨_, h0, _⟩ | ⟨g, cur, rfl, hg, hlt, _⟩
 ·omega
 ·refine ⟨g, po, pn, pc, rfl, hlt, hp, fun V hV => ?_⟩
  have hc := (h1.gl.below hV).cells _ rfl k hk 0 (by omega)
  rw [hv, Addr.add_lit, Nat.mul_one, Nat.add_zero, Nat.zero_add] at hc
  exact hc
end
theorem Try.info_ap : (Try.prog.info? 23).map (fun i => (i.zero, i.size, i.bytes)) = some (some (.slice none 0 0), 1, 24) := by kernel_rfl
def PclPush [Ol] (B K : Nat) (w : World) (ao : Option Addr) (n cap : Nat) (ls : List (List Term)) (v : Value) (W : World) : Prop := ∃ ro rc, v = .slice ro (n + 1) rc ∧ Pcl B K W ro (n + 1) rc ls ∧ w.grownBy W (Value.slice ao n cap).ownBlock
theorem pcl_push [Ol] {B K : Nat} {w : World} {ao : Option Addr} {n cap : Nat} {ls : List (List Term)} {po : Option Addr} {pn pc : Nat} {q : List Term} (h : Pcl B K w ao n cap ls) (hq : Pc K w po pn pc q) (hB : B ≤ w.heap.size) (hn : n ≤ 1000000) (tt ty : TypeId) :
  ∃ v W, (Builtin.append_ #[24, 24] ty #[.slice ao n cap, .slice (some ⟨w.heap.size, 0, none⟩) 1 1]).run Try.prog (w.alloc (.cells #[.slice po pn pc] tt)) = .ok v W ∧ PclPush B K w ao n cap (ls ++ [q]) v W := by
 obtain ⟨i0, hi, hz0, hz1, hz2⟩ := info_parts Try.info_ap; have ha := below_alloc w (.cells #[.slice po pn pc] tt)
 have hc : (w.alloc (.cells #[.slice po pn pc] tt)).cell? ⟨w.heap.size, 0, none⟩ = some (.slice po pn pc) := by simp
 obtain ⟨w1, h1⟩ : ∃ w1, w1 = w.alloc (.cells #[.slice po pn pc] tt) := ⟨_, rfl⟩; rw [← h1] at ha hc ⊢; have hh := h.below ha; obtain ⟨X, hO, hS, hT⟩ := hh.ex
 obtain ⟨v', w', hr, hown', hgrow, hpr⟩ := run_append_pred (φ := slc) (P := Try.prog) w1 B 24 ty 23 i0 (.slice none 0 0) 1 24 Try.underlying24 hi hz0 hz1 hz2 rfl (by omega) _ n X.flatten hO.row ⟨w.heap.size, 0, none⟩ 1 1 [.slice po pn pc] rfl
  (fun j u hj => by
   rcases j with _ | j
   ·simp at hj; subst hj; exact hc
   ·simp at hj) (fun u hu => by simp at hu; subst hu; rfl) (by unfold maxLen; omega) (by omega) (Nat.le_trans hB ha.size) hS (fun u hu => by simp at hu; subst hu; rfl) (by simp [Value.cells, slc])
 obtain ⟨v2, w2, hr2, _, _, hcl⟩ := run_append_clean (P := Try.prog) w1 B 24 ty 23 i0 (.slice none 0 0) 1 24 Try.underlying24 hi hz0 hz1 hz2 rfl (by omega) _ n X.flatten hO.row ⟨w.heap.size, 0, none⟩ 1 1 [.slice po pn pc] rfl
  (fun j u hj => by
   rcases j with _ | j
   ·simp at hj; subst hj; exact hc
   ·simp at hj) (fun u hu => by simp at hu; subst hu; rfl) (by unfold maxLen; omega) (by omega) (Nat.le_trans hB ha.size) hO.cln (fun u hu => by simp at hu; subst hu; rfl) (by simp [Value.cells, notInt])
 rw [hr] at hr2
 cases hr2
 obtain ⟨ao', cap', rfl⟩ := owns_shape3 hown'
 have hO2 : Go1 B 23 1 w' ao' (n + 1) cap' (X ++ [[.slice po pn pc]]) := ⟨by rw [List.flatten_append]; exact hown', by rw [List.length_append, hO.len]; rfl, by omega, hO.each.append (Each.mk1 rfl fun v hv => by simp at hv; subst hv; rfl), hcl⟩
 refine ⟨_, _, hr, ao', cap', rfl, ⟨X ++ [[.slice po pn pc]], hO2, hpr, Tms.append (hT.imp fun _ _ ⟨a, b, c, h4, h5⟩ => ⟨a, b, c, h4, h5.farS hO hS hgrow⟩) ⟨⟨po, pn, pc, rfl, (hq.below ha).farS hO hS hgrow⟩, trivial⟩⟩, ?_⟩
 exact ⟨hgrow.os.trans ha.os, hgrow.tape.trans ha.tape, hgrow.output.trans ha.output, Nat.le_trans ha.size hgrow.size, fun k hk hne => (hgrow.block k (Nat.lt_of_lt_of_le hk ha.size) hne).trans (ha.block k hk)⟩
end Go.Proofs.Ytmmgipcacceakaa

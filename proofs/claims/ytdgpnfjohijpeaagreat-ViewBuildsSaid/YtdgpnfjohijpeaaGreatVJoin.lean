/-
  'append(terms, product...)': a list of terms of the call's own, a polynomial behind it (two slice types of one element).
-/
import Derived.Test.YtdgpnfjohijpeaaGreatGP6
import Derived.Test.YtdgpnfjohijpeaaGreatGP8
set_option maxHeartbeats 40000000
set_option maxRecDepth 100000
namespace Go.Proofs.YtdgpnfjohijpeaaGreat
open Go.RowKit
theorem append_types {P : Program} {t t2 ty e e2 : TypeId} (h : P.underlying t = some (.slice e)) (h2 : P.underlying t2 = some (.slice e2)) (x y : Option Addr) (a b c d : Nat) (w : World) :
  (Builtin.append_ #[t, t2] ty #[.slice x a b, .slice y c d]).run P w = (Builtin.append_ #[t, t] ty #[.slice x a b, .slice y c d]).run P w := by
 simp [Builtin.append_, run_underlying h, run_underlying h2]
def Ow (B K : Nat) (w : World) (ao : Option Addr) (n cap : Nat) (p : List Term) : Prop := ∃ Z, Go1 B 53 3 w ao n cap Z ∧ Tms (TmC K w) Z p
theorem Ow.nil (B K : Nat) (w : World) : Ow B K w none 0 0 [] := ⟨[], Go1.nil _ _ _ _, trivial⟩
theorem Ow.below {B K : Nat} {w w' : World} {ao : Option Addr} {n cap : Nat} {p : List Term} (h : Ow B K w ao n cap p) (hb : Below w.heap.size w w') : Ow B K w' ao n cap p := by
 obtain ⟨Z, h1, h2⟩ := h
 exact ⟨Z, h1.below hb, tmsC_below h2 hb⟩
theorem Ow.pc {B K : Nat} {w : World} {ao : Option Addr} {n cap : Nat} {p : List Term} (h : Ow B K w ao n cap p) : Pc K w ao n cap p := by
 obtain ⟨Z, h1, h2⟩ := h
 exact ⟨Z, h1.gl, h2⟩
theorem Ow.mono {B K L : Nat} {w : World} {ao : Option Addr} {n cap : Nat} {p : List Term} (h : Ow B K w ao n cap p) (hk : K ≤ L) : Ow B L w ao n cap p := by
 obtain ⟨Z, h1, h2⟩ := h
 exact ⟨Z, h1, tmsC_mono h2 hk⟩
theorem join_run {B K : Nat} {w : World} {ao bo : Option Addr} {n cap m cb : Nat} {p q : List Term} (h : Ow B K w ao n cap p) (hq : Pc K w bo m cb q) (hB : B ≤ w.heap.size) (hn : n + m ≤ 1000000) (ty : TypeId) :
  ∃ v W, (Builtin.append_ #[22, 23] ty #[.slice ao n cap, .slice bo m cb]).run Tryz.prog w = .ok v W ∧ ∃ ro rc, v = .slice ro (n + m) rc ∧ Ow B K W ro (n + m) rc (p ++ q) ∧ w.grownBy W (Value.slice ao n cap).ownBlock := by
 obtain ⟨i0, hi, hz0, hz1, hz2⟩ := info_parts Tryz.info_term; obtain ⟨Z, hO, hT⟩ := h; obtain ⟨X, hG, hX⟩ := hq
 have hcn : ∀ u ∈ X.flatten, notInt u = true := tms_notInt (fun _ _ h => tmC_notInt h) hX
 rw [append_types Tryz.underlying22 Tryz.underlying23]
 cases bo with
 | none =>
  have hm : m = 0 := by have := hG.nil rfl; have := hG.le; omega
  have hc : cb = 0 := hG.nil rfl
  subst hm; subst hc
  have hxs : X = [] := hG.empty rfl
  subst hxs
  obtain rfl : q = [] := List.eq_nil_of_length_eq_zero (by have := Tms.len hX; simpa using this.symm)
  have hrun := run_append_owned_none (P := Tryz.prog) w B 22 ty 53 i0 3 Tryz.underlying22 hi _ n Z.flatten hO.row
  exact ⟨_, _, hrun, ao, cap, by simp, ⟨Z, by simpa using hO, by simpa using hT⟩, World.grownBy.refl _ _⟩
 | some ad =>
  have hnews : ∀ j u, X.flatten[j]? = some u → w.cell? (ad.add j) = some u := by
   intro j u hj
   have hjl : j < m * 3 := by have := (List.getElem?_eq_some_iff.1 hj).1; rwa [each_len hG.each, hG.len] at this
   have hq : j / 3 < m := Nat.div_lt_of_lt_mul (by rw [Nat.mul_comm]; exact hjl)
   have hm : j % 3 < 3 := Nat.mod_lt _ (by omega)
   have he : j / 3 * 3 + j % 3 = j := by omega
   have hc := hG.cells ad rfl (j / 3) hq (j % 3) hm; rw [he] at hc
   rw [hc, ← each_get hG.each (j / 3) (j % 3) (by rw [hG.len]; exact hq) hm, he, hj]
  obtain ⟨v', w', hr, hown', hgrow, hcl⟩ := run_append_clean (P := Tryz.prog) w B 22 ty 53 i0 (.agg #[.bool false, .slice none 0 0, .slice none 0 0]) 3 56 Tryz.underlying22 hi hz0 hz1 hz2 rfl (by omega) _ n Z.flatten hO.row ad m cb X.flatten (by rw [each_len hG.each, hG.len]) hnews (each_one hG.each) (by unfold maxLen; omega) (by omega) hB hO.cln hcn (by simp [Value.cells, notInt])
  obtain ⟨ao', cap', rfl⟩ := owns_shape3 hown'
  refine ⟨_, _, hr, ao', cap', rfl, ⟨Z ++ X, ⟨by rw [List.flatten_append]; exact hown', by rw [List.length_append, hO.len, hG.len], by omega, hO.each.append hG.each, hcl⟩, Tms.append (hT.imp fun _ _ h => h.stays hO hgrow) (hX.imp fun _ _ h => h.stays hO hgrow)⟩, hgrow⟩
end Go.Proofs.YtdgpnfjohijpeaaGreat

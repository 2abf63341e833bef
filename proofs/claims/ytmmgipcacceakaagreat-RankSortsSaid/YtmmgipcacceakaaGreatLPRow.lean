/-
  An argument that is a list of polynomials ([]api.Poly) opened.
-/
import Derived.Test.YtmmgipcacceakaaGreatGRk
import Derived.Test.YtmmgipcacceakaaGreatVLp
set_option maxHeartbeats 40000000
set_option maxRecDepth 100000
namespace Go.Proofs.YtmmgipcacceakaaGreat
open Go.ChangeShapes Go.WideShapes Go.ChangeAt Go.RowKit Go.Deep
theorem Tryz.cells_poly : Tryz.prog.cellsOf 26 = 1 := by kernel_rfl
theorem view_poly_at [Ol] {H : Type} {enc : TypeId × Value → H} {W : World} {fuel : Nat} {c : Value} {y : DataW H × List MemPlace}
  (hf : DataW.trod enc Tryz.prog W 0 (fun _ => true) true fuel 26 [c] = some y) (hlo : W.heap.size ≤ Ol.lo) (hsz : ∀ n ∈ y.1.weights Tryz.prog 26, n ≤ reachBytes) : ∃ ps : List Raw, PlR W [c] ps := by
 have hs : ∃ ao n cap, c = .slice ao n cap := by
  rcases open_slice Tryz.underlying26 hf with ⟨hcs, _⟩ | ⟨a, len', cap', _, _, _, _, hcs, _⟩
  ·exact ⟨none, 0, 0, by simpa using hcs⟩
  ·exact ⟨some a, len', cap', by simpa using hcs⟩
 obtain ⟨ao, n, cap, rfl⟩ := hs
 obtain ⟨ps, hps⟩ := view_terms (d := y.1) (p := y.2) Tryz.underlying26 ⟨fuel, by simpa [Value.cells] using hf⟩ hlo hsz
 exact ⟨ps, ao, n, cap, rfl, hps⟩
theorem view_polys [Ol] {len : Nat} (hbig : len ≤ 4398046511104) {H : Type} {enc : TypeId × Value → H} {W : World} {a0 : Option Addr} {cap : Nat} {d : DataW H} {p : List MemPlace}
  (hd : DataW.Trod enc Tryz.prog W 0 (fun _ => true) true 22 (.slice a0 len cap) d p) (hlo : W.heap.size ≤ Ol.lo) (hsz : ∀ n ∈ d.weights Tryz.prog 22, n ≤ reachBytes) :
  ∃ ls : List (List Raw), Plr W a0 len cap ls := by
 have hT := Tryz.underlying22; obtain ⟨fuel, hf⟩ := hd
 rcases open_slice hT hf with ⟨hcs, hx⟩ | ⟨a, len', cap', m, n, D, Pl, hcs, _, hl, hm, hmm, hx, hi⟩
 ·simp [Value.cells] at hcs
  obtain ⟨rfl, rfl, rfl⟩ := hcs
  exact ⟨[], ⟨[], Gl.zero 1 W, trivial⟩⟩
 ·simp [Value.cells] at hcs
  obtain ⟨rfl, rfl, rfl⟩ := hcs
  simp only [Prod.mk.injEq] at hx
  obtain ⟨rfl, rfl⟩ := hx
  obtain rfl : m = cap := by simpa using hmm
  rw [Tryz.cells_poly] at hi
  have each : ∀ i, i < len → ∃ q : List Value × List Raw, q.1.length = 1 ∧ (∀ j, j < 1 → W.cell? (a.add (i * 1 + j)) = q.1[j]?) ∧ PlR W q.1 q.2 := by
   intro i hil
   obtain ⟨cs', h1, h2⟩ := hi i (by omega)
   obtain ⟨_, hlen, hcell⟩ := World.cells?_some h1
   match cs', hlen with
   | [c0], _ =>
    obtain ⟨t, ht⟩ := view_poly_at h2 hlo (fun n hn => hsz n (by
     simp only [DataW.weights, hT, List.mem_cons, List.mem_append]
     exact .inr (.inl (weights_mem_all (List.mem_map.2 ⟨i, List.mem_range.2 hil, rfl⟩) n hn))))
    refine ⟨([c0], t), rfl, fun j hj => ?_, ht⟩
    have := hcell j hj
    rwa [add_add] at this
  obtain ⟨q, hq⟩ := choose_lt each
  have hg : ∀ t, t < len → ((List.range len).map fun i => (q i).1).getD t [] = (q t).1 := fun t ht => by simp [List.getD, ht]
  have hone : ∀ i, i < len → ∀ v ∈ (q i).1, v.oneCell' = true := fun i hil v hv => by
   obtain ⟨ao, n, cap, e, _⟩ := (hq i hil).2.2; rw [e] at hv
   simp at hv
   subst hv
   rfl
  refine ⟨(List.range len).map fun i => (q i).2, ⟨(List.range len).map fun i => (q i).1, ⟨by simp, hl, hbig, fun vs hv => ?_, (fun h => by cases h), fun ad had hc => ?_, fun ad had h0 => ?_, fun ad had t ht j hj => ?_, fun h0 ad had => ?_⟩, tms_of _ _ len fun i hil => (hq i hil).2.2⟩⟩
  ·obtain ⟨i, hil, rfl⟩ := List.mem_map.1 hv
   exact ⟨(hq i (List.mem_range.1 hil)).1, hone i (List.mem_range.1 hil)⟩
  ·cases had
   obtain ⟨cs', h1, _⟩ := hi 0 hc; obtain ⟨_, hlen, hcell⟩ := World.cells?_some h1
   have h3 := hcell 0 (by omega)
   rw [List.getElem?_eq_getElem (by omega)] at h3
   have h4 := World.cell?_spot h3
   simpa [Addr.add] using h4
  ·cases had
   have h3 := (hq 0 h0).2.1 0 (by omega)
   rw [List.getElem?_eq_getElem (by rw [(hq 0 h0).1]; omega)] at h3
   have h4 := cell_lt h3
   rwa [add_block3] at h4
  ·cases had
   rw [hg t ht]
   exact (hq t ht).2.1 j hj
  ·cases had
   have h3 := (hq 0 h0).2.1 0 (by omega)
   rw [List.getElem?_eq_getElem (by rw [(hq 0 h0).1]; omega)] at h3
   have h4 := cell_lt h3; rw [add_block3] at h4
   exact .inl (Nat.lt_of_lt_of_le h4 hlo)
end Go.Proofs.YtmmgipcacceakaaGreat

/-
  An argument that is a list of polynomials, whatever its length.
-/
import Derived.Test.YtmmgipcacceakaaGreatLPRow
import Derived.Test.YtmmgipcacceakaaGreatGRk3
set_option maxHeartbeats 40000000
set_option maxRecDepth 100000
namespace Go.Proofs.YtmmgipcacceakaaGreat
open Go.ChangeShapes Go.WideShapes Go.ChangeAt Go.RowKit Go.Deep
theorem Tryz.bytes_poly : Tryz.prog.bytesOf 26 = 24 := by kernel_rfl
theorem view_polysX [Ol] {len : Nat} {H : Type} {enc : TypeId × Value → H} {W : World} {a0 : Option Addr} {cap : Nat} {d : DataW H} {p : List MemPlace}
  (hd : DataW.Trod enc Tryz.prog W 0 (fun _ => true) true 22 (.slice a0 len cap) d p) (hlo : W.heap.size ≤ Ol.lo) (hsz : ∀ n ∈ d.weights Tryz.prog 22, n ≤ reachBytes) :
  ∃ f : Nat → List Raw, Plx W a0 len f := by
 have hT := Tryz.underlying22; obtain ⟨fuel, hf⟩ := hd
 rcases open_slice hT hf with ⟨hcs, hx⟩ | ⟨a, len', cap', m, n, D, Pl, hcs, _, hl, hm, hmm, hx, hi⟩
 ·simp [Value.cells] at hcs
  obtain ⟨rfl, rfl, rfl⟩ := hcs
  exact ⟨fun _ => [], by omega, fun k hk => by omega⟩
 ·simp [Value.cells] at hcs
  obtain ⟨rfl, rfl, rfl⟩ := hcs
  simp only [Prod.mk.injEq] at hx
  obtain ⟨rfl, rfl⟩ := hx
  obtain rfl : m = cap := by simpa using hmm
  rw [Tryz.cells_poly] at hi
  have hbig : len ≤ 6000000000000 := by
   have h := hsz _ (by simp only [DataW.weights, hT, List.mem_cons]; exact .inl rfl)
   rw [Tryz.bytes_poly] at h
   simp [reachBytes] at h
   omega
  have each : ∀ i, i < len → ∃ q : (Option Addr × Nat × Nat) × List Raw, W.cell? (a.add i) = some (.slice q.1.1 q.1.2.1 q.1.2.2) ∧ Pr W q.1.1 q.1.2.1 q.1.2.2 q.2 := by
   intro i hil
   obtain ⟨cs', h1, h2⟩ := hi i (by omega)
   obtain ⟨_, hlen, hcell⟩ := World.cells?_some h1
   match cs', hlen with
   | [c0], _ =>
    obtain ⟨t, ao, n, cap, e, ht⟩ := view_poly_at h2 hlo (fun n hn => hsz n (by
     simp only [DataW.weights, hT, List.mem_cons, List.mem_append]
     exact .inr (.inl (weights_mem_all (List.mem_map.2 ⟨i, List.mem_range.2 hil, rfl⟩) n hn))))
    obtain rfl : c0 = .slice ao n cap := by simpa using e
    refine ⟨((ao, n, cap), t), ?_, ht⟩
    have := hcell 0 (by omega)
    rw [add_add, Nat.mul_one, Nat.add_zero] at this
    exact this
  obtain ⟨q, hq⟩ := choose_lt each
  refine ⟨fun k => (q k).2, hbig, fun k hk => ?_⟩
  have h1 := (hq k hk).1; obtain ⟨b, off, s⟩ := a
  have hs : s = none := by
   have h0 := World.cell?_spot (hq 0 (by omega)).1
   simpa [Addr.add] using h0
  subst hs; rw [Addr.add_lit] at h1; have hlt := cell_lt h1
  exact ⟨b, off, _, _, _, rfl, hlt, fun V hV => (hV.cell (p := ⟨b, off + k, none⟩) hlt).trans h1, (hq k hk).2⟩
end Go.Proofs.YtmmgipcacceakaaGreat

/-
  What the rows of laws over lists of powers share: an argument of type api.Mono opened once; closed facts.
-/
import Derived.Test.YtgalcdfleljliaaMl
import Derived.ProofKit
import Derived.SizedLaws
import Derived.ChangeArms
import Derived.Deep.SlicePairs
set_option maxRecDepth 8192
namespace Go.Proofs.Ytgalcdfleljliaa
open Go.ChangeShapes Go.WideShapes Go.ChangeAt Go.RowKit Go.Deep

theorem Try.own7 : ownKnob Try.prog.godebug = none := by kernel_rfl
theorem Try.laidOut7 : laidOutB Try.prog = true := by kernel_rfl
theorem Try.bytes_pow : Try.prog.bytesOf 48 = 16 := by kernel_rfl

theorem int_wf {n : Int} (h : (Lit.int .i64 n).wf = true) : in64 n := by
  simp [Lit.wf, IntKind.min, IntKind.max, IntKind.signed, IntKind.bits] at h
  unfold in64
  omega

theorem trod_fun {f : Nat → Value × Value} (n : Nat) {W : World} {a : Addr} (h : ∀ i, i < n → ∃ p : Int × Int, f i = (.int .i64 p.1, .int .i64 p.2) ∧ in64 p.1 ∧ in64 p.2)
    (hc : ∀ i, i < n → W.cell? (a.add (i * 2)) = some (f i).1 ∧ W.cell? (a.add (i * 2 + 1)) = some (f i).2) :
    ∃ ps : List (Int × Int), ps.length = n ∧ (∀ p ∈ ps, in64 p.1 ∧ in64 p.2) ∧ ∀ t, t < n → W.cell? (a.add (t * 2)) = some (.int .i64 (ps.getD t (0, 0)).1) ∧ W.cell? (a.add (t * 2 + 1)) = some (.int .i64 (ps.getD t (0, 0)).2) := by
  obtain ⟨q, hq⟩ := choose_lt h
  refine ⟨(List.range n).map q, by simp, fun p hp => ?_, fun t ht => ?_⟩
  · obtain ⟨i, hi, rfl⟩ := List.mem_map.1 hp
    exact (hq i (List.mem_range.1 hi)).2
  · have e : ((List.range n).map q).getD t (0, 0) = q t := by simp [List.getD, ht]
    have h1 := hc t ht
    rw [(hq t ht).1] at h1
    rw [e]
    exact h1

/-- AN ARGUMENT OF TYPE api.Mono, nil or not. -/
theorem view_mono {H : Type} {enc : TypeId × Value → H} {W : World} {a0 : Option Addr} {len cap : Nat} {d : DataW H} {p : List MemPlace}
    (hd : DataW.Trod enc Try.prog W 0 (fun _ => true) true 23 (.slice a0 len cap) d p)
    (hsz : ∀ elems spare, d = .slice elems spare → (elems.length + spare.length) * 16 ≤ 140737488351232) :
    ∃ ps : List (Int × Int), Ml W a0 len cap ps := by
  obtain ⟨fuel, hf⟩ := hd
  rcases open_slice_pairs Try.underlying23 Try.underlying48 (by kernel_rfl) rfl rfl (by kernel_rfl) (by kernel_rfl) hf with ⟨hcs, hx⟩ | ⟨a, len', cap', m, n, V0, V1, D0, D1, P0, P1, hcs, _, hl, hm, hmm, hx, hi⟩
  · simp [Value.cells] at hcs
    obtain ⟨rfl, rfl, rfl⟩ := hcs
    exact ⟨[], Ml.zero W⟩
  · simp [Value.cells] at hcs
    obtain ⟨rfl, rfl, rfl⟩ := hcs
    simp only [Prod.mk.injEq] at hx
    obtain ⟨rfl, rfl⟩ := hx
    have hs := hsz _ _ rfl
    simp at hs
    have hlm : len ≤ m := by rw [hmm]; split <;> omega
    obtain ⟨ps, h1, h2, h3⟩ := trod_fun (f := fun i => (V0 i, V1 i)) len (W := W) (a := a) (fun i hil => by
      obtain ⟨_, _, g0, g1⟩ := hi i (by omega)
      obtain ⟨z0, e0, _, w0⟩ := DataW.trod_int Try.underlying3 g0
      obtain ⟨z1, e1, _, w1⟩ := DataW.trod_int Try.underlying3 g1
      simp at e0 e1
      exact ⟨(z0, z1), by rw [e0, e1], int_wf w0, int_wf w1⟩) (fun i hil => ⟨(hi i (by omega)).1, (hi i (by omega)).2.1⟩)
    exact ⟨ps, h1, hl, by omega, h2, (fun h => by cases h), fun ad had t ht => by cases had; exact h3 t ht⟩

end Go.Proofs.Ytgalcdfleljliaa

/-
  In one: RowKit.
-/
import Derived.Test.YthllkgjgakeinaaGMem
import Derived.ProofKit
import Derived.SizedLaws
set_option maxRecDepth 8192
/- What the rows of the laws share: an argument of type []uint32 opened once; closed facts. -/
namespace Go.Proofs.Ythllkgjgakeinaa
open Go.ChangeShapes Go.WideShapes Go.ChangeAt Go.RowKit
theorem Try.own : ownKnob Try.prog.godebug = none := by kernel_rfl
theorem Try.laidOut : laidOutB Try.prog = true := by kernel_rfl
theorem Try.cells_u32 : Try.prog.cellsOf 56 = 1 := by kernel_rfl
theorem Try.bytes_u32 : Try.prog.bytesOf 56 = 4 := by kernel_rfl
theorem u32_wf {n : Int} (h : (Lit.int .u32 n).wf = true) : 0 ≤ n ∧ n < 4294967296 := by
  simp [Lit.wf, IntKind.min, IntKind.max, IntKind.signed, IntKind.bits] at h
  omega
theorem u64_wf {n : Int} (h : (Lit.int .u64 n).wf = true) : 0 ≤ n ∧ n ≤ 18446744073709551615 := by
  simp [Lit.wf, IntKind.min, IntKind.max, IntKind.signed, IntKind.bits] at h
  omega
theorem u8_wf {n : Int} (h : (Lit.int .u8 n).wf = true) : 0 ≤ n ∧ n < 256 := by
  simp [Lit.wf, IntKind.min, IntKind.max, IntKind.signed, IntKind.bits] at h
  omega
theorem u16_wf {n : Int} (h : (Lit.int .u16 n).wf = true) : 0 ≤ n ∧ n < 65536 := by
  simp [Lit.wf, IntKind.min, IntKind.max, IntKind.signed, IntKind.bits] at h
  omega
theorem view_u32 {H : Type} {enc : TypeId × Value → H} {W : World} {a0 : Option Addr} {len cap : Nat} {d : DataW H} {p : List MemPlace}
    (hd : DataW.Trod enc Try.prog W 0 (fun _ => true) true 69 (.slice a0 len cap) d p)
    (hsz : ∀ elems spare, d = .slice elems spare → (elems.length + spare.length) * 4 ≤ 140737488351232) :
    ∃ xs : List Nat, Sl W a0 len cap xs := by
  obtain ⟨fuel, hf⟩ := hd
  rcases open_ints Try.underlying69 Try.underlying56 Try.cells_u32 hf with ⟨hcs, hx⟩ | ⟨a, len', cap', zs, hcs, _, hl, hm, hz, hx, hcell, hwz⟩
  · simp [Value.cells] at hcs
    obtain ⟨rfl, rfl, rfl⟩ := hcs
    exact ⟨[], Sl.none W⟩
  · simp [Value.cells] at hcs
    obtain ⟨rfl, rfl, rfl⟩ := hcs
    simp only [Prod.mk.injEq] at hx
    obtain ⟨rfl, rfl⟩ := hx
    simp only [if_true] at hz
    have hs := hsz _ _ rfl
    simp only [lits, List.length_map, List.length_take, List.length_drop] at hs
    refine ⟨(zs.take len).map Int.toNat, by simp; omega, hl, by omega, ?_, (fun h => by cases h), fun ad had t ht => ?_⟩
    · intro x hx
      obtain ⟨z, hz1, rfl⟩ := List.mem_map.1 hx
      have := u32_wf (hwz z (List.mem_of_mem_take hz1))
      omega
    · obtain rfl := Option.some.inj had
      rw [hcell t (by omega)]
      have hmem : zs[t]'(by omega) ∈ zs := List.getElem_mem _
      have hw := u32_wf (hwz _ hmem)
      have e : ((((zs.take len).map Int.toNat).getD t 0 : Nat) : Int) = zs.getD t 0 := by
        simp [List.getD, ht, show t < zs.length by omega]
        omega
      rw [e]
end Go.Proofs.Ythllkgjgakeinaa


/-
  A number's two cells opened (api.Int at a place in memory).
-/
import Derived.Test.YthllkgjgakeinaaIntRow
import Derived.ChangeSame
set_option maxRecDepth 8192
namespace Go.Proofs.Ythllkgjgakeinaa
open Go.ChangeShapes Go.WideShapes Go.ChangeAt Go.RowKit Go.Joins
theorem view_int_at {H : Type} {enc : TypeId × Value → H} {W : World} {fuel : Nat} {c0 c1 : Value} {y : DataW H × List MemPlace}
    (hf : DataW.trod enc Try.prog W 0 (fun _ => true) true fuel 71 [c0, c1] = some y) (hsz : ∀ n ∈ y.1.weights Try.prog 71, n ≤ reachBytes) :
    ∃ (m : Bool) (ao : Option Addr) (n cap : Nat) (xs : List Nat), c0 = .bool m ∧ c1 = .slice ao n cap ∧ Sl W ao n cap xs := by
  obtain ⟨y0, y1, f, rfl, _, g0, g1⟩ := trod_struct2 Try.underlying71 hf
  have e0 : Try.prog.cellsOf 4 = 1 := by kernel_rfl
  have e1 : Try.prog.cellsOf 69 = 1 := by kernel_rfl
  have h0 : DataW.trod enc Try.prog W 0 (fun _ => true) true f 4 [c0] = some y0 := by
    have g : DataW.trod enc Try.prog W 0 (fun _ => true) true f 4 ([c0, c1].take (Try.prog.cellsOf 4)) = some y0 := g0
    rw [e0] at g
    exact g
  have h1 : DataW.trod enc Try.prog W 0 (fun _ => true) true f 69 [c1] = some y1 := by
    have g : DataW.trod enc Try.prog W 0 (fun _ => true) true f 69 ([c1].take (Try.prog.cellsOf 69)) = some y1 := g1
    rw [e1] at g
    exact g
  clear g0 g1
  obtain ⟨m, hm, _⟩ := DataW.trod_bool Try.underlying4 h0
  obtain rfl : c0 = .bool m := by simpa using hm
  have hs : ∃ ao n cap, c1 = .slice ao n cap := by
    rcases open_ints Try.underlying69 Try.underlying56 Try.cells_u32 h1 with ⟨hcs, _⟩ | ⟨a, len', cap', zs, hcs, _⟩
    · exact ⟨none, 0, 0, by simpa using hcs⟩
    · exact ⟨some a, len', cap', by simpa using hcs⟩
  obtain ⟨ao, n, cap, rfl⟩ := hs
  obtain ⟨xs, hxs⟩ := view_u32 (d := y1.1) (p := y1.2) ⟨f, by simpa [Value.cells] using h1⟩ (fun elems spare he => by
    have h2 := hsz ((elems.length + spare.length) * Try.prog.bytesOf 56) (by
      simp [DataW.weights, Try.underlying71, DataW.weightsEach, he, Try.underlying69])
    rw [Try.bytes_u32] at h2
    simpa [reachBytes] using h2)
  exact ⟨m, ao, n, cap, xs, rfl, rfl, hxs⟩
end Go.Proofs.Ythllkgjgakeinaa
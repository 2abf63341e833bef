/-
  An argument of type api.Rat opened: two numbers, each a sign and a slice of limbs.
-/
import Derived.Test.YteceomlbnajihaaGreatDoorIntRow
import Derived.ChangeSame
set_option maxRecDepth 8192
namespace Go.Proofs.YteceomlbnajihaaGreatDoor
open Go.ChangeShapes Go.WideShapes Go.ChangeAt Go.RowKit Go.Joins

/-- a number's two cells opened -/
theorem view_int_at {H : Type} {enc : TypeId × Value → H} {W : World} {fuel : Nat} {c0 c1 : Value} {y : DataW H × List MemPlace}
    (hf : DataW.trod enc Tryz.prog W 0 (fun _ => true) true fuel 24 [c0, c1] = some y) (hsz : ∀ n ∈ y.1.weights Tryz.prog 24, n ≤ reachBytes) :
    ∃ (m : Bool) (ao : Option Addr) (n cap : Nat) (xs : List Nat), c0 = .bool m ∧ c1 = .slice ao n cap ∧ Sl W ao n cap xs := by
  obtain ⟨y0, y1, f, rfl, _, g0, g1⟩ := trod_struct2 Tryz.underlying24 hf
  have e0 : Tryz.prog.cellsOf 4 = 1 := by kernel_rfl
  have e1 : Tryz.prog.cellsOf 22 = 1 := by kernel_rfl
  have h0 : DataW.trod enc Tryz.prog W 0 (fun _ => true) true f 4 [c0] = some y0 := by
    have g : DataW.trod enc Tryz.prog W 0 (fun _ => true) true f 4 ([c0, c1].take (Tryz.prog.cellsOf 4)) = some y0 := g0
    rw [e0] at g
    exact g
  have h1 : DataW.trod enc Tryz.prog W 0 (fun _ => true) true f 22 [c1] = some y1 := by
    have g : DataW.trod enc Tryz.prog W 0 (fun _ => true) true f 22 ([c1].take (Tryz.prog.cellsOf 22)) = some y1 := g1
    rw [e1] at g
    exact g
  clear g0 g1
  obtain ⟨m, hm, _⟩ := DataW.trod_bool Tryz.underlying4 h0
  obtain rfl : c0 = .bool m := by simpa using hm
  have hs : ∃ ao n cap, c1 = .slice ao n cap := by
    rcases open_ints Tryz.underlying22 Tryz.underlying79 Tryz.cells_u32 h1 with ⟨hcs, _⟩ | ⟨a, len', cap', zs, hcs, _⟩
    · exact ⟨none, 0, 0, by simpa using hcs⟩
    · exact ⟨some a, len', cap', by simpa using hcs⟩
  obtain ⟨ao, n, cap, rfl⟩ := hs
  obtain ⟨xs, hxs⟩ := view_u32 (d := y1.1) (p := y1.2) ⟨f, by simpa [Value.cells] using h1⟩ (fun elems spare he => by
    have h2 := hsz ((elems.length + spare.length) * Tryz.prog.bytesOf 79) (by
      simp [DataW.weights, Tryz.underlying24, DataW.weightsEach, he, Tryz.underlying22])
    rw [Tryz.bytes_u32] at h2
    simpa [reachBytes] using h2)
  exact ⟨m, ao, n, cap, xs, rfl, rfl, hxs⟩

/-- AN ARGUMENT OF TYPE api.Rat. -/
theorem view_rat {H : Type} {enc : TypeId × Value → H} {W : World} {r : Reach} {b0 : Nat} {v : Value} {d : DataW H} {p : List MemPlace}
    (hv : Value.okWide Tryz.prog W r b0 26 v) (hd : DataW.Trod enc Tryz.prog W 0 (fun _ => true) true 26 v d p) (hsz : ∀ n ∈ d.weights Tryz.prog 26, n ≤ reachBytes) :
    ∃ (m : Bool) (ao : Option Addr) (n cap : Nat) (k : Bool) (bo : Option Addr) (l cb : Nat) (xs ys : List Nat), v = .agg #[.bool m, .slice ao n cap, .bool k, .slice bo l cb] ∧ Sl W ao n cap xs ∧ Sl W bo l cb ys := by
  obtain ⟨cs, rfl, hcs⟩ := okWide_struct Tryz.underlying26 hv
  obtain ⟨c0, c1, c2, c3, rfl⟩ := array4 (hcs.trans (show Tryz.prog.cellsOf 26 = 4 by kernel_rfl))
  obtain ⟨fuel, hf⟩ := hd
  obtain ⟨y0, y1, f, hx, _, g0, g1⟩ := trod_struct2 Tryz.underlying26 hf
  have hc : Tryz.prog.cellsOf 24 = 2 := by kernel_rfl
  simp only [Value.cells, hc] at g0 g1
  have h0 : DataW.trod enc Tryz.prog W 0 (fun _ => true) true f 24 [c0, c1] = some y0 := g0
  have h1 : DataW.trod enc Tryz.prog W 0 (fun _ => true) true f 24 [c2, c3] = some y1 := g1
  clear g0 g1
  simp only [Prod.mk.injEq] at hx
  obtain ⟨rfl, rfl⟩ := hx
  obtain ⟨m, ao, n, cap, xs, rfl, rfl, hs⟩ := view_int_at h0 (fun n hn => hsz n (by
    simp [DataW.weights, Tryz.underlying26, DataW.weightsEach]; exact Or.inl hn))
  obtain ⟨k, bo, l, cb, ys, rfl, rfl, ht⟩ := view_int_at h1 (fun n hn => hsz n (by
    simp [DataW.weights, Tryz.underlying26, DataW.weightsEach]; exact Or.inr hn))
  exact ⟨m, ao, n, cap, k, bo, l, cb, xs, ys, rfl, hs, ht⟩

end Go.Proofs.YteceomlbnajihaaGreatDoor

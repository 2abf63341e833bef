/-
  An argument of type api.Int opened: a sign and a slice of limbs.
-/
import Derived.Test.YteceomlbnajihaaGreatDoorGLaw
import Derived.Lib.SmallJoins
import Derived.ChangeArms
set_option maxRecDepth 8192
namespace Go.Proofs.YteceomlbnajihaaGreatDoor
open Go.ChangeShapes Go.WideShapes Go.ChangeAt Go.RowKit Go.Joins

theorem i64_wf {n : Int} (h : (Lit.int .i64 n).wf = true) : -9223372036854775808 ≤ n ∧ n ≤ 9223372036854775807 := by
  simp [Lit.wf, IntKind.min, IntKind.max, IntKind.signed, IntKind.bits] at h
  omega

/-- how great the parts of one argument are -/
theorem sized_one {P : Program} {H : Type} {ts : List TypeId} {ds : List (DataW H)} (h : (DataW.weightsEach P ts ds).all (· ≤ reachBytes) = true) {j : Nat} {t : TypeId} {d : DataW H} (ht : ts[j]? = some t) (hd : ds[j]? = some d) :
    ∀ n ∈ d.weights P t, n ≤ reachBytes := fun n hn => by
  have := List.all_eq_true.1 h _ (DataW.weights_mem_each ht hd n hn)
  simpa using this

/-- AN ARGUMENT OF TYPE api.Int. -/
theorem view_int {H : Type} {enc : TypeId × Value → H} {W : World} {r : Reach} {b0 : Nat} {v : Value} {d : DataW H} {p : List MemPlace}
    (hv : Value.okWide Tryz.prog W r b0 24 v) (hd : DataW.Trod enc Tryz.prog W 0 (fun _ => true) true 24 v d p) (hsz : ∀ n ∈ d.weights Tryz.prog 24, n ≤ reachBytes) :
    ∃ (m : Bool) (ao : Option Addr) (n cap : Nat) (xs : List Nat), v = .agg #[.bool m, .slice ao n cap] ∧ Sl W ao n cap xs := by
  obtain ⟨v0, v1, y0, y1, f, rfl, rfl, _, h0, h1⟩ := open_agg2 Tryz.underlying24 (by kernel_rfl) (by kernel_rfl) hv hd
  obtain ⟨m, hm, _⟩ := DataW.trod_bool Tryz.underlying4 h0
  obtain rfl : v0 = .bool m := by simpa using hm
  have hs : ∃ ao n cap, v1 = .slice ao n cap := by
    rcases open_ints Tryz.underlying22 Tryz.underlying79 Tryz.cells_u32 h1 with ⟨hcs, _⟩ | ⟨a, len', cap', zs, hcs, _⟩
    · exact ⟨none, 0, 0, by simpa using hcs⟩
    · exact ⟨some a, len', cap', by simpa using hcs⟩
  obtain ⟨ao, n, cap, rfl⟩ := hs
  obtain ⟨xs, hxs⟩ := view_u32 (d := y1.1) (p := y1.2) ⟨f, by simpa [Value.cells] using h1⟩ (fun elems spare he => by
    have h2 := hsz ((elems.length + spare.length) * Tryz.prog.bytesOf 79) (by
      simp [DataW.weights, Tryz.underlying24, DataW.weightsEach, he, Tryz.underlying22])
    rw [Tryz.bytes_u32] at h2
    simpa [reachBytes] using h2)
  exact ⟨m, ao, n, cap, xs, rfl, hxs⟩

end Go.Proofs.YteceomlbnajihaaGreatDoor

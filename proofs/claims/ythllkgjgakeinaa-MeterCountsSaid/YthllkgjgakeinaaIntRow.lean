/-
  An argument of type api.Int opened: a sign and a slice of limbs.
-/
import Derived.Test.YthllkgjgakeinaaGLaw
import Derived.Lib.SmallJoins
import Derived.ChangeArms
set_option maxRecDepth 8192
namespace Go.Proofs.Ythllkgjgakeinaa
open Go.ChangeShapes Go.WideShapes Go.ChangeAt Go.RowKit Go.Joins
theorem i64_wf {n : Int} (h : (Lit.int .i64 n).wf = true) : -9223372036854775808 ≤ n ∧ n ≤ 9223372036854775807 := by
  simp [Lit.wf, IntKind.min, IntKind.max, IntKind.signed, IntKind.bits] at h
  omega
theorem sized_one {P : Program} {H : Type} {ts : List TypeId} {ds : List (DataW H)} (h : (DataW.weightsEach P ts ds).all (· ≤ reachBytes) = true) {j : Nat} {t : TypeId} {d : DataW H} (ht : ts[j]? = some t) (hd : ds[j]? = some d) :
    ∀ n ∈ d.weights P t, n ≤ reachBytes := fun n hn => by
  have := List.all_eq_true.1 h _ (DataW.weights_mem_each ht hd n hn)
  simpa using this
theorem view_int {H : Type} {enc : TypeId × Value → H} {W : World} {r : Reach} {b0 : Nat} {v : Value} {d : DataW H} {p : List MemPlace}
    (hv : Value.okWide Try.prog W r b0 71 v) (hd : DataW.Trod enc Try.prog W 0 (fun _ => true) true 71 v d p) (hsz : ∀ n ∈ d.weights Try.prog 71, n ≤ reachBytes) :
    ∃ (m : Bool) (ao : Option Addr) (n cap : Nat) (xs : List Nat), v = .agg #[.bool m, .slice ao n cap] ∧ Sl W ao n cap xs := by
  obtain ⟨v0, v1, y0, y1, f, rfl, rfl, _, h0, h1⟩ := open_agg2 Try.underlying71 (by kernel_rfl) (by kernel_rfl) hv hd
  obtain ⟨m, hm, _⟩ := DataW.trod_bool Try.underlying4 h0
  obtain rfl : v0 = .bool m := by simpa using hm
  have hs : ∃ ao n cap, v1 = .slice ao n cap := by
    rcases open_ints Try.underlying69 Try.underlying56 Try.cells_u32 h1 with ⟨hcs, _⟩ | ⟨a, len', cap', zs, hcs, _⟩
    · exact ⟨none, 0, 0, by simpa using hcs⟩
    · exact ⟨some a, len', cap', by simpa using hcs⟩
  obtain ⟨ao, n, cap, rfl⟩ := hs
  obtain ⟨xs, hxs⟩ := view_u32 (d := y1.1) (p := y1.2) ⟨f, by simpa [Value.cells] using h1⟩ (fun elems spare he => by
    have h2 := hsz ((elems.length + spare.length) * Try.prog.bytesOf 56) (by
      simp [DataW.weights, Try.underlying71, DataW.weightsEach, he, Try.underlying69])
    rw [Try.bytes_u32] at h2
    simpa [reachBytes] using h2)
  exact ⟨m, ao, n, cap, xs, rfl, hxs⟩
end Go.Proofs.Ythllkgjgakeinaa
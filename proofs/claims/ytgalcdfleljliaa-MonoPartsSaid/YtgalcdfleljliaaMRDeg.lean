/-
  The contract of porismref07.Degree.
-/
import Derived.Test.YtgalcdfleljliaaMRTimes
import Derived.Test.YtgalcdfleljliaaMDel
set_option maxRecDepth 8192
namespace Go.Proofs.Ytgalcdfleljliaa
open Go.RowKit

theorem run_index201 (A : Array Value) (k : Nat) (z : Int) (hk : k < 201) (hg : A[k]? = some (.int .i64 z)) (w : World) : (Instr.index 44 (.agg A) (.int .i64 (k : Int))).run Try.prog w = .ok (.int .i64 z) w := by
  have h1 : ∃ i, Try.prog.info? 3 = some i ∧ i.size = 1 := by
    obtain ⟨i, hi, h⟩ := Option.map_eq_some_iff.1 (show (Try.prog.info? 3).map (·.size) = some 1 by kernel_rfl)
    exact ⟨i, hi, h⟩
  obtain ⟨i, hi, hs⟩ := h1
  have h2 : (0 : Int) ≤ k ∧ (k : Int) < (201 : Nat) := by omega
  simp [Instr.index, asIntOf, run_underlying Try.underlying44, sizeOf, typeInfo, hi, hs, hg, part, h2, hk]

set_option maxHeartbeats 300000 in
set_option maxRecDepth 100000 in
theorem degree7_any {ao : Option Addr} {n cap : Nat} {ps : List (Int × Int)} {w : World} (h : Ml w ao n cap ps) (v z : Int) (hz : exE ps v = z) :
    Calls Try.prog 20 #[.slice ao n cap, .int .i64 v] w (RetB (.int .i64 z) w) := by
  by_cases g1 : v < 1
  · have e : z = 0 := by rw [← hz]; exact may_out (orM_may _) (.inl g1)
    subst e
    clear hz
    have d1 : decide (v < 1) = true := decide_eq_true g1
    clear g1
    go_enter Try.func20, Try.ntmps20
    go_wp2
    go_ret
    exact ⟨rfl, Below.refl _ _⟩
  · have d1 : decide (v < 1) = false := decide_eq_false g1
    by_cases g2 : 200 < v
    · have e : z = 0 := by rw [← hz]; exact may_out (orM_may _) (.inr g2)
      subst e
      clear hz
      have d2 : decide (200 < v) = true := decide_eq_true g2
      clear g1 g2
      go_enter Try.func20, Try.ntmps20
      go_wp2
      go_ret
      exact ⟨rfl, Below.refl _ _⟩
    · have d2 : decide (200 < v) = false := decide_eq_false g2
      obtain ⟨k, rfl⟩ : ∃ k : Nat, v = (k : Int) := ⟨v.toNat, by omega⟩
      have hk : k < 201 := by omega
      have hk2 : (k : Int) < 201 := by omega
      have hk3 : (0 : Int) ≤ k := by omega
      have HA := Lib.hid h
      have hg : (rowL (exE ps)).toArray[k]? = some (.int .i64 z) := by rw [List.getElem?_toArray, rowL_get _ _ hk, hz]
      have hs : (rowL (exE ps)).toArray.size = 201 := by simp [rowL_length]
      clear h hz g1 g2
      go_enter Try.func20, Try.ntmps20
      go_wp2_with fail
      refine (exps_any HA.out).mono ?_
      rintro e w1 ⟨rfl, hB⟩
      have HB1 := Lib.hid hB
      clear hB HA
      obtain ⟨A, hA⟩ : ∃ A, A = (rowL (exE ps)).toArray := ⟨_, rfl⟩
      rw [← hA] at hg hs ⊢
      clear hA
      have hx := run_index201 A k z hk hg
      clear hg hs
      go_wp2_with fail
      go_ret
      exact ⟨rfl, HB1.out⟩

end Go.Proofs.Ytgalcdfleljliaa

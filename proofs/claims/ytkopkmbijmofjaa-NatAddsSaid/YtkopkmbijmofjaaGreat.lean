/-
  The contracts of porismlaw01.great and kept.
-/
import Derived.Test.YtkopkmbijmofjaaGRef
namespace Go.Proofs.Ytkopkmbijmofjaa
open Go.RowKit

set_option maxHeartbeats 400000 in
theorem great_no (a0 b0 : Option Addr) (la ca lb cb : Nat) (w : World) (h1 : la ≤ 40) (h2 : lb ≤ 40) :
    Calls Try.prog 8 #[.slice a0 la ca, .slice b0 lb cb] w fun e w' => e = .returned (.bool false) ∧ w = w' := by
  have d1 : decide (40 < la) = false := by simp; omega
  have d2 : decide (40 < lb) = false := by simp; omega
  go_enter Try.func8, Try.ntmps8
  go_wp2
  go_ret
  exact ⟨ret_bool (by simp; omega), rfl⟩

set_option maxHeartbeats 400000 in
theorem great_yes (a0 b0 : Option Addr) (la ca lb cb : Nat) (w : World) (h1 : la ≤ 9223372036854775807) (h2 : lb ≤ 9223372036854775807) (h : 40 < la ∨ 40 < lb) :
    Calls Try.prog 8 #[.slice a0 la ca, .slice b0 lb cb] w fun e w' => e = .returned (.bool true) ∧ w = w' := by
  by_cases hl : 40 < la
  · go_enter Try.func8, Try.ntmps8
    go_wp2
    go_ret
    exact ⟨ret_bool (by simp; try omega), rfl⟩
  · have hl2 : 40 < lb := by omega
    have d1 : decide (40 < la) = false := by simp; omega
    go_enter Try.func8, Try.ntmps8
    go_wp2
    go_ret
    exact ⟨ret_bool (by simp; try omega), rfl⟩

set_option maxHeartbeats 400000 in
theorem kept_b (a0 b0 : Option Addr) (la ca lb cb : Nat) (xs ys : List Nat) (w : World) (ha : Sl w a0 la ca xs) (hb : Sl w b0 lb cb ys) (h : xs = ys) :
    Calls Try.prog 19 #[.slice a0 la ca, .slice b0 lb cb] w (RetB (.bool true) w) := by
  go_enter Try.func19, Try.ntmps19
  go_wp2_with fail
  refine (same_b _ _ _ _ _ _ _ _ _ ha hb h).mono ?_
  rintro e w' ⟨rfl, hB⟩
  go_wp2_with fail
  go_ret
  exact ⟨rfl, hB⟩

end Go.Proofs.Ytkopkmbijmofjaa

/-
  The contracts of mono.May and mono.orOne.
-/
import Derived.Test.YtgalcdfleljliaaMMay
set_option maxRecDepth 8192
namespace Go.Proofs.Ytgalcdfleljliaa
open Go.RowKit

set_option maxHeartbeats 1000000 in
theorem may_any (r : Bool) {ao : Option Addr} {n cap : Nat} {ps : List (Int × Int)} {w : World} (h : Ml w ao n cap ps) (hr : mayM 0 ps = r) :
    Calls Try.prog 16 #[.slice ao n cap] w (RetB (.bool r) w) := by
  have hle := h.le
  have hbig := h.big
  have HM := Lib.hid h
  clear h
  go_enter Try.func16, Try.ntmps16
  go_wp2
  go_loopw [3, 8] (fun o i wr => ∃ k : Nat, ∃ lo : Int, k ≤ n ∧ i = .int .i64 k ∧ o = .int .i64 lo ∧ Hid (lo = loM ps k ∧ 0 ≤ lo) ∧ Hid (mayM lo (ps.drop k) = r) ∧ Hid (Ml wr ao n cap ps ∧ Below w.heap.size w wr)) (fun _ i _ => n - (intOf i).toNat)
  case atStart => exact ⟨0, 0, Nat.zero_le _, rfl, rfl, ⟨rfl, Int.le_refl 0⟩, by rw [Hid, List.drop_zero]; exact hr, HM.out, Below.refl _ _⟩
  case round =>
    clear HM
    obtain ⟨k, lo, hk, rfl, rfl, HL, HR, HS⟩ := hrel
    have HM := Lib.hid HS.out.1
    by_cases hkn : k < n
    · obtain ⟨b, off, rfl, hb, hc⟩ := HM.out.at (by omega)
      obtain ⟨c1, c2⟩ := hc k hkn
      have HR2 := Lib.hid ((mayM_drop ps k lo (by rw [HM.out.len]; exact hkn)).symm.trans HR.out)
      clear HR hc
      obtain ⟨v, hv⟩ : ∃ v, v = (ps.getD k (0, 0)).1 := ⟨_, rfl⟩
      obtain ⟨e, he⟩ : ∃ v, v = (ps.getD k (0, 0)).2 := ⟨_, rfl⟩
      rw [← hv] at c1
      rw [← he] at c2
      have HV := Lib.hid hv
      have HE := Lib.hid he
      clear hv he
      by_cases g0 : v ≤ lo
      · have f0 : decide (v ≤ lo) = true := decide_eq_true (by omega)
        go_wp2
        go_ret
        exact ⟨ret_bool (by rw [← HR2.out]; unfold okP; rw [← HV.out, ← HE.out]; have := HL.out; simp; omega), (Below.steps HS.out.2 (below_alloc _ _))⟩
      · have f0 : decide (v ≤ lo) = false := decide_eq_false (by omega)
        by_cases g1 : 200 < v
        · have f1 : decide (200 < v) = true := decide_eq_true (by omega)
          go_wp2
          go_ret
          exact ⟨ret_bool (by rw [← HR2.out]; unfold okP; rw [← HV.out, ← HE.out]; have := HL.out; simp; omega), (Below.steps HS.out.2 (below_alloc _ _))⟩
        · have f1 : decide (200 < v) = false := decide_eq_false (by omega)
          by_cases g2 : e < 1
          · have f2 : decide (e < 1) = true := decide_eq_true (by omega)
            go_wp2
            go_ret
            exact ⟨ret_bool (by rw [← HR2.out]; unfold okP; rw [← HV.out, ← HE.out]; have := HL.out; simp; omega), (Below.steps HS.out.2 (below_alloc _ _))⟩
          · have f2 : decide (e < 1) = false := decide_eq_false (by omega)
            by_cases g3 : 10000 < e
            · have f3 : decide (10000 < e) = true := decide_eq_true (by omega)
              go_wp2
              go_ret
              exact ⟨ret_bool (by rw [← HR2.out]; unfold okP; rw [← HV.out, ← HE.out]; have := HL.out; simp; omega), (Below.steps HS.out.2 (below_alloc _ _))⟩
            · have f3 : decide (10000 < e) = false := decide_eq_false (by omega)
              go_wp2
              go_roundw
              case rel => exact ⟨k + 1, v, by omega, by go_num, rfl, ⟨HV.out, by have := HL.out; omega⟩, by rw [Hid, ← HR2.out, ok_yes (show lo < _ by rw [← HV.out]; omega) (by rw [← HV.out]; omega) (by rw [← HE.out]; omega) (by rw [← HE.out]; omega), HV.out]; rfl, HM.out.below (below_alloc _ _), (Below.steps HS.out.2 (below_alloc _ _))⟩
              case measure => simp [intOf]; omega
    · obtain rfl : k = n := by omega
      go_wp2
      go_ret
      have e2 := HR.out
      rw [List.drop_eq_nil_of_le (by rw [HM.out.len]; exact Nat.le_refl _)] at e2
      exact ⟨ret_bool (by rw [← e2]; rfl), HS.out.2⟩

theorem orOne_yes {ao : Option Addr} {n cap : Nat} {ps : List (Int × Int)} {w : World} (h : Ml w ao n cap ps) (hr : mayM 0 ps = true) :
    Calls Try.prog 39 #[.slice ao n cap] w (RetB (.slice ao n cap) w) := by
  go_enter Try.func39, Try.ntmps39
  go_wp2_with fail
  refine (may_any true h hr).mono ?_
  rintro e w' ⟨rfl, hB⟩
  go_wp2_with fail
  go_ret
  exact ⟨rfl, hB⟩
theorem orOne_no {ao : Option Addr} {n cap : Nat} {ps : List (Int × Int)} {w : World} (h : Ml w ao n cap ps) (hr : mayM 0 ps = false) :
    Calls Try.prog 39 #[.slice ao n cap] w (RetB (.slice none 0 0) w) := by
  go_enter Try.func39, Try.ntmps39
  go_wp2_with fail
  refine (may_any false h hr).mono ?_
  rintro e w' ⟨rfl, hB⟩
  go_wp2_with fail
  go_ret
  exact ⟨rfl, hB⟩
/-- it, or 1 in its place -/
theorem orOne_any {ao : Option Addr} {n cap : Nat} {ps : List (Int × Int)} {w : World} (h : Ml w ao n cap ps) :
    Calls Try.prog 39 #[.slice ao n cap] w (NewM w (orM ps)) := by
  cases hr : mayM 0 ps with
  | true => exact (orOne_yes h hr).mono fun e w' ⟨he, hB⟩ => ⟨ao, n, cap, he, by rw [orM_yes hr]; exact h.below hB, hB⟩
  | false => exact (orOne_no h hr).mono fun e w' ⟨he, hB⟩ => ⟨none, 0, 0, he, by rw [orM_no hr]; exact Ml.zero _, hB⟩

end Go.Proofs.Ytgalcdfleljliaa

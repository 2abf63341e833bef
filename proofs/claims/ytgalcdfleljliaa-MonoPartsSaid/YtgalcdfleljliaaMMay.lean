/-
  The contract of porismref07.May.
-/
import Derived.Test.YtgalcdfleljliaaGMem
import Derived.Test.YtgalcdfleljliaaMl
import Derived.Deep.QuietTactic
import Derived.BigQuiet
set_option maxRecDepth 8192
namespace Go.Proofs.Ytgalcdfleljliaa
open Go.RowKit

theorem ok_yes {lo : Int} {p : Int × Int} (h1 : lo < p.1) (h2 : p.1 ≤ 200) (h3 : 1 ≤ p.2) (h4 : p.2 ≤ 10000) : okP lo p = true := by unfold okP; simp [h1, h2, h3, h4]

set_option maxHeartbeats 1000000 in
theorem may7_any (r : Bool) {ao : Option Addr} {n cap : Nat} {ps : List (Int × Int)} {w : World} (h : Ml w ao n cap ps) (hr : mayM 0 ps = r) :
    Calls Try.prog 17 #[.slice ao n cap] w (RetB (.bool r) w) := by
  have hle := h.le
  have hbig := h.big
  have HM := Lib.hid h
  clear h
  go_enter Try.func17, Try.ntmps17
  go_wp2
  go_loopw [3] (fun i wr => ∃ k : Nat, k ≤ n ∧ i = .int .i64 k ∧ Hid (0 ≤ loM ps k) ∧ Hid (mayM (loM ps k) (ps.drop k) = r) ∧ Hid (Ml wr ao n cap ps ∧ Below w.heap.size w wr)) (fun i _ => n - (intOf i).toNat)
  case atStart => exact ⟨0, Nat.zero_le _, rfl, Int.le_refl 0, by rw [Hid, List.drop_zero]; exact hr, HM.out, Below.refl _ _⟩
  case round =>
    clear HM
    obtain ⟨k, hk, rfl, HL, HR, HS⟩ := hrel
    have HM := Lib.hid HS.out.1
    by_cases hkn : k < n
    · obtain ⟨b, off, rfl, hb, hc⟩ := HM.out.at (by omega)
      obtain ⟨c1, c2⟩ := hc k hkn
      have HR2 := Lib.hid ((mayM_drop ps k (loM ps k) (by rw [HM.out.len]; exact hkn)).symm.trans HR.out)
      clear HR
      obtain ⟨v, hv⟩ : ∃ v, v = (ps.getD k (0, 0)).1 := ⟨_, rfl⟩
      obtain ⟨e, he⟩ : ∃ v, v = (ps.getD k (0, 0)).2 := ⟨_, rfl⟩
      rw [← hv] at c1
      rw [← he] at c2
      have HV := Lib.hid hv
      have HE := Lib.hid he
      have HC := Lib.hid hc
      clear hv he hc
      by_cases g0 : v < 1
      · have f0 : decide (v < 1) = true := decide_eq_true (by omega)
        skip
        go_wp2
        go_ret
        exact ⟨ret_bool (by rw [← HR2.out]; unfold okP; rw [← HV.out, ← HE.out]; have := HL.out; simp; omega), HS.out.2⟩
      · have f0 : decide (v < 1) = false := decide_eq_false (by omega)
        by_cases g1 : 200 < v
        · have f1 : decide (200 < v) = true := decide_eq_true (by omega)
          skip
          go_wp2
          go_ret
          exact ⟨ret_bool (by rw [← HR2.out]; unfold okP; rw [← HV.out, ← HE.out]; have := HL.out; simp; omega), HS.out.2⟩
        · have f1 : decide (200 < v) = false := decide_eq_false (by omega)
          by_cases g2 : e < 1
          · have f2 : decide (e < 1) = true := decide_eq_true (by omega)
            skip
            go_wp2
            go_ret
            exact ⟨ret_bool (by rw [← HR2.out]; unfold okP; rw [← HV.out, ← HE.out]; have := HL.out; simp; omega), HS.out.2⟩
          · have f2 : decide (e < 1) = false := decide_eq_false (by omega)
            by_cases g3 : 10000 < e
            · have f3 : decide (10000 < e) = true := decide_eq_true (by omega)
              skip
              go_wp2
              go_ret
              exact ⟨ret_bool (by rw [← HR2.out]; unfold okP; rw [← HV.out, ← HE.out]; have := HL.out; simp; omega), HS.out.2⟩
            · have f3 : decide (10000 < e) = false := decide_eq_false (by omega)
              by_cases hk0 : k = 0
              · subst hk0
                simp only [Nat.zero_mul, Nat.add_zero] at c1 c2
                go_wp2
                go_quiet (fail)
                go_wp2
                go_roundw
                case rel => exact ⟨1, by omega, by go_num, by show 0 ≤ (ps.getD 0 (0, 0)).1; rw [← HV.out]; omega, by rw [Hid, ← HR2.out, ok_yes (show loM ps 0 < _ by rw [← HV.out]; show (0 : Int) < v; omega) (by rw [← HV.out]; omega) (by rw [← HE.out]; omega) (by rw [← HE.out]; omega)]; rfl, HM.out.below (_root_.Go.below_drewN (Below.refl _ _) _), HS.out.2.trans (_root_.Go.below_drewN (Below.refl _ _) _)⟩
                case measure => simp [intOf]; omega
              · obtain ⟨j, rfl⟩ : ∃ j, k = j + 1 := ⟨k - 1, by omega⟩
                obtain ⟨c3, _⟩ := HC.out j (by omega)
                obtain ⟨u, hu⟩ : ∃ v, v = (ps.getD j (0, 0)).1 := ⟨_, rfl⟩
                rw [← hu] at c3
                have HU : Hid (loM ps (j + 1) = u) := hu.symm
                clear hu
                have j1 : ((j + 1 : Nat) : Int) - 1 = (j : Int) := by omega
                have j2 : j < n := by omega
                have j3 : IntKind.i64.wrap (((j + 1 : Nat) : Int) - 1) = (j : Int) := by rw [j1]; exact IntWalk.i64_in _ ⟨by omega, by omega⟩
                by_cases g5 : v ≤ u
                · have f5 : decide (v ≤ u) = true := decide_eq_true g5
                  go_wp2
                  go_quiet (fail)
                  go_wp2
                  go_ret
                  exact ⟨ret_bool (by rw [← HR2.out, HU.out]; unfold okP; rw [← HV.out]; simp; omega), HS.out.2.trans (_root_.Go.below_drewN (Below.refl _ _) _)⟩
                · have f5 : decide (v ≤ u) = false := decide_eq_false g5
                  go_wp2
                  go_quiet (fail)
                  go_wp2
                  go_roundw
                  case rel => exact ⟨j + 2, by omega, by go_num, by show 0 ≤ (ps.getD (j + 1) (0, 0)).1; rw [← HV.out]; omega, by rw [Hid, ← HR2.out, ok_yes (show loM ps (j + 1) < _ by rw [← HV.out, HU.out]; omega) (by rw [← HV.out]; omega) (by rw [← HE.out]; omega) (by rw [← HE.out]; omega)]; rfl, HM.out.below (_root_.Go.below_drewN (Below.refl _ _) _), HS.out.2.trans (_root_.Go.below_drewN (Below.refl _ _) _)⟩
                  case measure => simp [intOf]; omega
    · obtain rfl : k = n := by omega
      go_wp2
      go_ret
      have e2 := HR.out
      rw [List.drop_eq_nil_of_le (by rw [HM.out.len]; exact Nat.le_refl _)] at e2
      exact ⟨ret_bool (by rw [← e2]; rfl), HS.out.2⟩

end Go.Proofs.Ytgalcdfleljliaa

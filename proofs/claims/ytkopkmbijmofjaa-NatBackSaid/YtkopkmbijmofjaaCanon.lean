/-
  The contract of porismlaw01.canonical.
-/
import Derived.Test.YtkopkmbijmofjaaGMem
namespace Go.Proofs.Ytkopkmbijmofjaa
open Go.RowKit

theorem last_pos (xs : List Nat) (k : Nat) (h : trimL xs = xs) (hk : xs.length = k + 1) : xs.getD k 0 ≠ 0 := by
  intro e
  have h1 := take_succ_getD xs k (by omega)
  rw [take_all xs (k + 1) hk, e] at h1
  have h2 := congrArg trimL h1
  rw [trimL_append_zero] at h2
  have h3 := nl_le (xs.take k)
  unfold nl at h3
  rw [← h2, h, List.length_take] at h3
  omega

set_option maxHeartbeats 400000 in
theorem canonical_yes (ao : Option Addr) (n cap : Nat) (xs : List Nat) (w : World) (h : Sl w ao n cap xs) (hc : trimL xs = xs) :
    Calls Try.prog 31 #[.slice ao n cap] w fun e w' => e = .returned (.bool true) ∧ w = w' := by
  have hle := h.le
  have hbig := h.big
  by_cases h0 : n = 0
  · subst h0
    go_enter Try.func31, Try.ntmps31
    go_wp2
    go_ret
    exact ⟨rfl, rfl⟩
  · obtain ⟨k, rfl⟩ : ∃ k, n = k + 1 := ⟨n - 1, by omega⟩
    obtain ⟨b, off, rfl, hb, hcell⟩ := h.at (by omega)
    have hc1 := hcell k (by omega)
    have hpos := last_pos xs k hc h.len
    obtain ⟨x, hx⟩ : ∃ x, x = xs.getD k 0 := ⟨_, rfl⟩
    rw [← hx] at hc1 hpos
    have e1 : (((k + 1 : Nat) : Int) == 0) = false := by simp; omega
    have e2 : (((x : Nat) : Int) != 0) = true := by simp; omega
    clear hx hcell hc
    go_enter Try.func31, Try.ntmps31
    go_wp2
    go_ret
    exact ⟨rfl, rfl⟩

end Go.Proofs.Ytkopkmbijmofjaa

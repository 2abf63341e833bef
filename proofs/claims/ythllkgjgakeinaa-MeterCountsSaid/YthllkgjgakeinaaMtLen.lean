/-
  The contract of meter.length: how many limbs are left without the noughts at the end.
-/
import Derived.Test.YthllkgjgakeinaaGMem
set_option maxRecDepth 8192
namespace Go.Proofs.Ythllkgjgakeinaa
open Go.RowKit
set_option maxHeartbeats 400000 in
theorem mlength_any (ao : Option Addr) (n cap : Nat) (xs : List Nat) (w : World) (h : Sl w ao n cap xs) :
    Calls Try.prog 28 #[.slice ao n cap] w fun e w' => e = .returned (.int .i64 (nl xs : Nat)) ∧ w = w' := by
  have hle := h.le
  have hbig := h.big
  have HT : Hid (xs.take n = xs) := take_all xs n h.len
  go_enter Try.func28, Try.ntmps28
  go_wp2
  go_loop [3] (fun i => ∃ k : Nat, k ≤ n ∧ i = .int .i64 k ∧ Hid (nl (xs.take k) = nl xs)) (fun i => (intOf i).toNat)
  case atStart => exact ⟨n, Nat.le_refl _, rfl, by rw [Hid, HT.out]⟩
  case round =>
    obtain ⟨k, hk, rfl, hnl⟩ := hrel
    by_cases hk0 : k = 0
    · subst hk0
      go_wp2
      go_ret
      refine ⟨ret_int ?_, rfl⟩
      have := hnl.out
      simp only [List.take_zero, nl_nil] at this
      rw [← this]; rfl
    · obtain ⟨b, off, rfl, hb, hc⟩ := h.at (by omega)
      obtain ⟨j, rfl⟩ : ∃ j, k = j + 1 := ⟨k - 1, by omega⟩
      have hlen := h.len
      have hcell := hc j (by omega)
      clear hc hlen
      obtain ⟨x, hx⟩ : ∃ x, x = xs.getD j 0 := ⟨_, rfl⟩
      rw [← hx] at hcell
      have HX : Hid (x = xs.getD j 0) := hx
      clear hx
      by_cases hz : x = 0
      · subst hz
        have H1 : Hid (nl (xs.take j) = nl xs) := by
          rw [Hid, ← hnl.out, nl_take_zero xs j (by have := h.len; omega) HX.out.symm]
        clear hnl
        go_wp2
        go_round
        case rel => exact ⟨j, by omega, by go_num, H1⟩
        case measure => simp [intOf]
      · have hb0 : (((x : Nat) : Int) == 0) = false := by simp; omega
        have H1 : Hid (nl xs = j + 1) := by
          rw [Hid, ← hnl.out, nl_take_pos xs j (by have := h.len; omega) (by rw [← HX.out]; exact hz)]
        clear hnl hz
        go_wp2
        go_ret
        exact ⟨ret_int (by rw [H1.out]; rfl), rfl⟩
theorem mlength_is (m : Nat) (ao : Option Addr) (n cap : Nat) (xs : List Nat) (w : World) (h : Sl w ao n cap xs) (hm : Hid (nl xs = m)) :
    Calls Try.prog 28 #[.slice ao n cap] w fun e w' => e = .returned (.int .i64 (m : Nat)) ∧ w = w' := by
  rw [← hm.out]; exact mlength_any ao n cap xs w h
end Go.Proofs.Ythllkgjgakeinaa
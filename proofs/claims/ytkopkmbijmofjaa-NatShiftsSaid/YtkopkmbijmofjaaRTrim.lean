/-
  The contract of porismref01.trim.
-/
import Derived.Test.YtkopkmbijmofjaaDig
namespace Go.Proofs.Ytkopkmbijmofjaa.Dg
open Go.RowKit

theorem Own.take_any {B : Nat} {w : World} {ao : Option Addr} {n cap : Nat} {ys : List Nat} (h : Own B w ao n cap ys) (k : Nat) (hk : k ≤ n) : Own B w ao k cap (ys.take k) := by
  by_cases h0 : 0 < k
  · exact h.take k hk h0
  · obtain rfl : k = 0 := by omega
    rw [List.take_zero]
    rcases h.row.2 with ⟨hv, h2⟩ | ⟨g, cap', cur, hv, hg, hh, hn, hm, hs, ht⟩
    · simp only [Value.slice.injEq] at hv
      obtain ⟨rfl, rfl, rfl⟩ := hv
      exact Own.nil _ _
    · simp only [Value.slice.injEq, true_and] at hv
      obtain ⟨rfl, rfl⟩ := hv
      exact ⟨⟨rfl, .inr ⟨g, cap, cur, rfl, hg, hh, Nat.zero_le _, hm, hs, by simp [cellsOf]⟩⟩, Nat.zero_le _, fun _ h => by cases h⟩

/-- what a call leaves that hands back a part of what is owned -/
def CutOf (B : Nat) (w : World) (ys : List Nat) (e : Ending) (w' : World) : Prop :=
  ∃ ao n cap, e = .returned (.slice ao n cap) ∧ Own B w ao n cap ys ∧ w = w'

set_option maxHeartbeats 400000 in
theorem trim_own (B : Nat) (ao : Option Addr) (n cap : Nat) (xs : List Nat) (w : World) (h : Own B w ao n cap xs) :
    Calls Try.prog 37 #[.slice ao n cap] w (CutOf B w (limbs (val xs))) := by
  have hs := h.sl
  have hle := hs.le
  have hbig := hs.big
  have HT : Hid (xs.take n = xs) := take_all xs n hs.len
  have HO := Lib.hid h
  have HRES : Hid (trimL xs = limbs (val xs)) := trim_limbs xs h.wf
  clear h
  go_enter Try.func37, Try.ntmps37
  go_wp2
  go_loop [0] (fun d => ∃ k : Nat, k ≤ n ∧ d = .slice ao k cap ∧ Hid (nl (xs.take k) = nl xs)) (fun d => match d with | .slice _ k _ => k | _ => 0)
  case atStart => exact ⟨n, Nat.le_refl _, rfl, by rw [Hid, HT.out]⟩
  case round =>
    obtain ⟨k, hk, rfl, hnl⟩ := hrel
    by_cases hk0 : k = 0
    · subst hk0
      have H0 : Hid (Own B w ao 0 cap (limbs (val xs))) := by
        have h1 := HO.out.take_any 0 (Nat.zero_le _)
        have h2 := hnl.out
        rw [List.take_zero] at h1 h2
        rw [Hid, ← HRES.out, trimL_take, ← h2]
        exact h1
      go_wp2
      go_ret
      exact ⟨_, _, _, rfl, H0.out, rfl⟩
    · obtain ⟨b, off, rfl, hb, hc⟩ := hs.at (by omega)
      obtain ⟨j, rfl⟩ : ∃ j, k = j + 1 := ⟨k - 1, by omega⟩
      have hlen := hs.len
      have hcell := hc j (by omega)
      clear hc hlen
      obtain ⟨x, hx⟩ : ∃ x, x = xs.getD j 0 := ⟨_, rfl⟩
      rw [← hx] at hcell
      have HX : Hid (x = xs.getD j 0) := hx
      clear hx
      by_cases hz : x = 0
      · subst hz
        have H1 : Hid (nl (xs.take j) = nl xs) := by
          rw [Hid, ← hnl.out, nl_take_zero xs j (by have := hs.len; omega) HX.out.symm]
        clear hnl
        go_wp2
        go_round
        case rel => exact ⟨j, by omega, rfl, H1⟩
        case measure => simp
      · have hb0 : (((x : Nat) : Int) == 0) = false := by simp; omega
        have H1 : Hid (Own B w (some ⟨b, off, none⟩) (j + 1) cap (limbs (val xs))) := by
          have h1 := HO.out.take_any (j + 1) hk
          rw [Hid, ← HRES.out, trimL_take, ← hnl.out, nl_take_pos xs j (by have := hs.len; omega) (by rw [← HX.out]; exact hz)]
          exact h1
        clear hnl hz
        go_wp2
        go_ret
        exact ⟨_, _, _, rfl, H1.out, rfl⟩
end Go.Proofs.Ytkopkmbijmofjaa.Dg

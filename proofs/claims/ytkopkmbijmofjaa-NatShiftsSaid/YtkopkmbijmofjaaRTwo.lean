/-
  The contracts of porismref01.Two and porismref01.Bits.
-/
import Derived.Test.YtkopkmbijmofjaaRLimbs
import Derived.Test.YtkopkmbijmofjaaBitsPlain
namespace Go.Proofs.Ytkopkmbijmofjaa.Dg
open Go.RowKit

theorem two_len (i : Nat) : (limbs (2 ^ i)).length ≤ i + 1 := by
  refine limbs_len ?_
  have h1 : 2 ^ i ≤ 10 ^ i := Nat.pow_le_pow_left (by decide) i
  have h2 : 0 < 10 ^ i := Nat.pow_pos (by omega)
  rw [Nat.pow_succ]; omega

theorem limbs_one : limbs 1 = [1] := by
  rw [limbs_pos (by omega)]; rfl

set_option maxHeartbeats 1000000 in
theorem two_any (n : Nat) (w : World) (hn : n ≤ 1000000) :
    Calls Try.prog 24 #[.int .i64 (n : Int)] w (NewSl w (limbs (2 ^ n))) := by
  have hO0 := Own.lit w [1] (by intro x hx; simp at hx; omega) (by simp)
  have hE0 : ([1] : List Nat) = limbs (2 ^ 0) := by rw [Nat.pow_zero, limbs_one]
  rw [hE0] at hO0
  have HO0 : Hid (Own w.heap.size (w.alloc (.cells #[.int .i64 1] 3)) (some ⟨w.heap.size, 0, none⟩) 1 1 (limbs (2 ^ 0))) := by
    have := hO0
    rw [← hE0] at this ⊢
    exact this
  clear hO0 hE0
  go_enter Try.func24, Try.ntmps24
  go_wp2_with fail
  go_loopw [3, 4] (fun d i wr => ∃ (k L : Nat) (ao : Option Addr) (cap : Nat), k ≤ n ∧ i = .int .i64 ((k : Nat) : Int) ∧ d = .slice ao L cap ∧ Own w.heap.size wr ao L cap (limbs (2 ^ k)) ∧ Below w.heap.size w wr) (fun _ i _ => n - (intOf i).toNat)
  case atStart => exact ⟨0, 1, _, 1, Nat.zero_le _, rfl, rfl, HO0.out, (Below.refl _ _).alloc (Nat.le_refl _) _⟩
  case round =>
    clear HO0
    obtain ⟨k, L, ao, cap, hk, rfl, rfl, hO, hB⟩ := hrel
    by_cases hkn : k < n
    · have hL : L ≤ k + 1 := by rw [← hO.len]; exact two_len k
      go_wp2_with fail
      refine (times_at _ _ _ _ 2 0 _ _ _ hO.sl rfl rfl (by omega) (by omega) (by omega)).mono ?_
      rintro e w1 ⟨ao1, n1, cap1, rfl, hO1, hB1⟩
      rw [val_limbs, Nat.add_zero, ← Nat.pow_succ] at hO1
      have hO2 := hO1.mono hB.size
      have hB2 := Go.Proofs.Ytkopkmbijmofjaa.Below.steps hB hB1
      clear hO hO1 hB hB1
      go_wp2_with fail
      go_roundw
      case rel => exact ⟨k + 1, n1, ao1, cap1, by omega, by go_num, rfl, hO2, hB2⟩
      case measure => simp [intOf]; omega
    · obtain rfl : k = n := by omega
      go_wp2_with fail
      go_ret
      exact ⟨_, _, _, rfl, hO, hB⟩

theorem nbits_half {v : Nat} (h : 0 < v) : nbits v = nbits (v / 2) + 1 := by
  by_cases h2 : v / 2 = 0
  · obtain rfl : v = 1 := by omega
    rfl
  · obtain ⟨k, e, a, b⟩ := nbits_pos h2
    rw [e]
    exact nbits_of (by rw [Nat.pow_succ]; omega) (by rw [Nat.pow_succ]; omega)

set_option maxHeartbeats 1000000 in
theorem bits_any (ao : Option Addr) (n cap : Nat) (v0 : Nat) (w : World) (ha : Sl w ao n cap (limbs v0)) (hb : Hid (nbits v0 ≤ 1000000)) :
    Calls Try.prog 27 #[.slice ao n cap] w (Go.Proofs.Ytkopkmbijmofjaa.RetB (.int .i64 (nbits v0 : Nat)) w) := by
  have hbig := ha.big
  obtain ⟨B, hB0⟩ : ∃ B, B = nbits v0 := ⟨_, rfl⟩
  have hBl : B ≤ 1000000 := by rw [hB0]; exact hb.out
  rw [← hB0]
  have HB0 := Lib.hid hB0.symm
  clear hb hB0
  go_enter Try.func27, Try.ntmps27
  go_wp2_with fail
  go_loopw [0, 3] (fun d i wr => ∃ (c v L : Nat) (ao' : Option Addr) (cap' : Nat), c ≤ B ∧ i = .int .i64 ((c : Nat) : Int) ∧ d = .slice ao' L cap' ∧ Sl wr ao' L cap' (limbs v) ∧ Below w.heap.size w wr ∧ Hid (c + nbits v = B)) (fun _ i _ => B - (intOf i).toNat)
  case atStart => exact ⟨0, v0, n, ao, cap, Nat.zero_le _, rfl, rfl, ha, Below.refl _ _, by rw [Hid, HB0.out, Nat.zero_add]⟩
  case round =>
    obtain ⟨c, v, L, ao', cap', hc, rfl, rfl, hS, hB, hV⟩ := hrel
    have HLV := Lib.hid (len_pos hS.len)
    have hbig2 := hS.big
    by_cases hL : 0 < L
    · have hv := HLV.out.1 hL
      have hst : c + 1 + nbits (v / 2) = B := by have h1 := nbits_half hv; have h2 := hV.out; omega
      have hc1 : c + 1 ≤ B := by omega
      have HST := Lib.hid hst
      clear hv hV hst
      have hby := by_any ao' L cap' (limbs v) 2 wr hS (by omega) (by omega)
      rw [val_limbs] at hby
      have HBY := Lib.hid hby
      clear hby
      go_wp2_with fail
      refine HBY.out.mono ?_
      rintro e w1 ⟨ao1, n1, cap1, rfl, hO1, hB1⟩
      have hB2 := Go.Proofs.Ytkopkmbijmofjaa.Below.steps hB hB1
      have hS1 := hO1.sl
      clear hB hB1 hO1 HBY hS
      go_wp2_with fail
      go_roundw
      case rel => exact ⟨c + 1, v / 2, n1, ao1, cap1, hc1, by go_num, rfl, hS1, hB2, HST.out⟩
      case measure => simp [intOf]; omega
    · obtain rfl : L = 0 := by omega
      have hv : v = 0 := by
        rcases Nat.eq_zero_or_pos v with h | h
        · exact h
        · exact absurd (HLV.out.2 h) (by omega)
      have HE : Hid (c = B) := by
        rw [Hid, ← hV.out, hv]; rfl
      clear hV hv
      go_wp2_with fail
      go_ret
      exact ⟨by rw [← HE.out]; rfl, hB⟩
end Go.Proofs.Ytkopkmbijmofjaa.Dg

/-
  The contracts of nat.Bits, nat.Small, nat.Word.
-/
import Derived.Test.YtkopkmbijmofjaaCmp
import Derived.Test.YtkopkmbijmofjaaShelf
import Derived.Test.YtkopkmbijmofjaaBitsPlain
import Derived.Test.YtkopkmbijmofjaaBitOps
namespace Go.Proofs.Ytkopkmbijmofjaa
open Go.RowKit

set_option maxHeartbeats 400000 in
theorem bits_any (ao : Option Addr) (n cap : Nat) (xs : List Nat) (w : World) (hs : Sl w ao n cap xs) :
    Calls Try.prog 26 #[.slice ao n cap] w fun e w' => e = .returned (.int .i64 (nbits (val xs) : Nat)) ∧ w = w' := by
  have hle := hs.le
  have hbig := hs.big
  have hnl : nl xs ≤ n := by have := nl_le xs; rw [hs.len] at this; exact this
  obtain ⟨m, hm⟩ : ∃ m, m = nl xs := ⟨_, rfl⟩
  rw [← hm] at hnl
  have HM : Hid (nl xs = m) := hm.symm
  clear hm
  by_cases h0 : m = 0
  · subst h0
    go_enter Try.func26, Try.ntmps26
    go_wp2_with (go_at_call 33; refine (length_is 0 _ _ _ _ _ hs HM).mono ?_; rintro e w' ⟨rfl, rfl⟩)
    go_ret
    have : val xs = 0 := trimL_nil.1 (trimL_nil_of HM.out)
    exact ⟨ret_int (by rw [this]; rfl), rfl⟩
  · obtain ⟨k, rfl⟩ : ∃ k, m = k + 1 := ⟨m - 1, by omega⟩
    have hb0 : ((((k + 1 : Nat) : Nat) : Int) == 0) = false := by simp; omega
    obtain ⟨b, off, rfl, hb, hcell⟩ := hs.at (by omega)
    have hc := hcell k (by omega)
    obtain ⟨x, hx⟩ : ∃ x, x = xs.getD k 0 := ⟨_, rfl⟩
    have hxlt : x < 4294967296 := by rw [hx]; exact hs.getD_lt k
    rw [← hx] at hc
    have H : Hid (nbits (val xs) = 32 * k + nbits x ∧ nbits x ≤ 32) := by
      refine ⟨by rw [hx]; exact nbits_val hs.wf k HM.out, nbits_le (by simpa using hxlt)⟩
    have HL : Hid (Lib.bitLen x = nbits x) := bitLen_nbits x hxlt
    have hbl : Lib.bitLen x ≤ 32 := by rw [HL.out]; exact H.out.2
    clear hx hcell
    go_enter Try.func26, Try.ntmps26
    go_wp2_with (first
      | (go_at_call 33; refine (length_is (k + 1) _ _ _ _ _ hs HM).mono ?_; rintro e w' ⟨rfl, rfl⟩)
      | (go_at_call 41; refine (len32_any _ _ (by omega) (by omega)).mono ?_; rintro e w' ⟨rfl, rfl⟩; rw [Int.toNat_natCast]))
    go_ret
    refine ⟨ret_int ?_, rfl⟩
    rw [H.out.1, HL.out]
    omega

set_option maxHeartbeats 400000 in
theorem small_any (n : Nat) (w : World) (hn : n ≤ 18446744073709551615) :
    Calls Try.prog 28 #[.int .u64 (n : Int)] w (NewSl w (limbs n)) := by
  go_enter Try.func28, Try.ntmps28
  go_wp2_with fail
  have e1 : ((n : Nat) : Int) % 4294967296 = ((n % 4294967296 : Nat) : Int) := by omega
  have e2 : ((n : Nat) : Int) / 4294967296 = ((n / 4294967296 : Nat) : Int) := by omega
  rw [e1, e2]
  clear e1 e2
  have hw : ∀ x ∈ [n % 4294967296, n / 4294967296], x < 4294967296 := by
    intro x hx
    simp at hx
    omega
  have ho := Own.lit w [n % 4294967296, n / 4294967296] hw (by simp)
  have ht : trimL [n % 4294967296, n / 4294967296] = limbs n := by
    rw [trim_limbs _ hw, val_cons, val_cons, val_nil]
    congr 1
    omega
  have hc := cut_own _ _ _ _ _ _ ho
  rw [ht] at hc
  refine hc.mono fun e w' h => ?_
  obtain ⟨ao, k, cap, rfl, h3, rfl⟩ := h
  go_wp2_with fail
  go_ret
  exact ⟨_, _, _, rfl, h3, (Below.refl _ _).alloc (Nat.le_refl _) _⟩

set_option maxHeartbeats 400000 in
theorem word_long (ao : Option Addr) (n cap : Nat) (xs : List Nat) (w : World) (hs : Sl w ao n cap xs) (h2 : 2 < nl xs) :
    Calls Try.prog 30 #[.slice ao n cap] w fun e w' => e = .returned (.tuple #[.int .u64 0, .bool false]) ∧ w = w' := by
  have hle := hs.le
  have hbig := hs.big
  have hnl : nl xs ≤ n := by have := nl_le xs; rw [hs.len] at this; exact this
  obtain ⟨m, hm⟩ : ∃ m, m = nl xs := ⟨_, rfl⟩
  rw [← hm] at hnl h2
  have HM : Hid (nl xs = m) := hm.symm
  clear hm
  go_enter Try.func30, Try.ntmps30
  go_wp2_with (go_at_call 33; refine (length_is m _ _ _ _ _ hs HM).mono ?_; rintro e w' ⟨rfl, rfl⟩)
  go_ret2
  exact ⟨rfl, rfl⟩

set_option maxHeartbeats 400000 in
theorem word_short (ao : Option Addr) (n cap : Nat) (xs : List Nat) (w : World) (hs : Sl w ao n cap xs) (h2 : nl xs ≤ 2) :
    Calls Try.prog 30 #[.slice ao n cap] w fun e w' => e = .returned (.tuple #[.int .u64 (val xs : Nat), .bool true]) ∧ w = w' := by
  have hle := hs.le
  have hbig := hs.big
  have hnl : nl xs ≤ n := by have := nl_le xs; rw [hs.len] at this; exact this
  obtain ⟨m, hm⟩ : ∃ m, m = nl xs := ⟨_, rfl⟩
  rw [← hm] at hnl h2
  have HM : Hid (nl xs = m) := hm.symm
  clear hm
  go_enter Try.func30, Try.ntmps30
  go_wp2_with (go_at_call 33; refine (length_is m _ _ _ _ _ hs HM).mono ?_; rintro e w' ⟨rfl, rfl⟩)
  go_loop [5, 6, 12] (fun s _ i => ∃ k : Nat, k ≤ m ∧ i = .int .i64 k ∧ s = .int .u64 (val (xs.take k) : Nat)) (fun _ _ i => m - (intOf i).toNat)
  case atStart => exact ⟨0, Nat.zero_le _, rfl, rfl⟩
  case round =>
    obtain ⟨k, hk, rfl, rfl⟩ := hrel
    by_cases hkm : k < m
    · obtain ⟨b, off, rfl, hb, hcell⟩ := hs.at (by omega)
      have hc := hcell k (by omega)
      obtain ⟨x, hx⟩ : ∃ x, x = xs.getD k 0 := ⟨_, rfl⟩
      have hxlt : x < 4294967296 := by rw [hx]; exact hs.getD_lt k
      rw [← hx] at hc
      have HX := Lib.hid hx
      clear hx hcell
      obtain ⟨s, hs0⟩ : ∃ s, s = val (xs.take k) := ⟨_, rfl⟩
      rw [← hs0]
      have HS := Lib.hid hs0
      clear hs0
      go_wp2
      go_roundw
      case rel =>
        refine ⟨k + 1, by omega, by go_num, ?_⟩
        have hsl : s < 4294967296 ^ k := by
          rw [HS.out]
          have := val_lt _ (Wf.take hs.wf k)
          rwa [List.length_take, hs.len, Nat.min_eq_left (by omega)] at this
        have hv : val (xs.take (k + 1)) = 2 ^ (32 * k) * x + s := by
          rw [take_succ_getD xs k (by rw [hs.len]; omega), val_append, List.length_take, hs.len, Nat.min_eq_left (by omega), val_cons, val_nil, ← HS.out, ← HX.out, Nat.pow_mul]
          simp; omega
        have hk2 : k = 0 ∨ k = 1 := by omega
        have hb : 2 ^ (32 * k) * x + s < 18446744073709551616 := by rcases hk2 with rfl | rfl <;> simp at * <;> omega
        rw [hv, show ((x : Nat) : Int) * 2 ^ (32 * k) = ((2 ^ (32 * k) * x : Nat) : Int) from by rw [Int.mul_comm]; simp, wrap_u64 _ (by omega), or_u64 s x (32 * k) (by rwa [Nat.pow_mul]) hb]
      case measure => simp [intOf]; omega
    · go_wp2
      go_ret2
      obtain rfl : k = m := by omega
      refine ⟨?_, rfl⟩
      rw [← HM.out, ← trimL_take, val_trim]
      rfl

end Go.Proofs.Ytkopkmbijmofjaa

/-
  In one: Shelf, Bits, Bits2.
-/
import Derived.Shelf.Small.Bits
import Derived.Test.YtocdlaakcecieaaDoorRows
import Derived.Test.YtocdlaakcecieaaDoorGNatA
import Derived.Test.YtocdlaakcecieaaDoorGBase
import Derived.Test.YtocdlaakcecieaaDoorGMem
set_option maxRecDepth 8192
/- The shelf's contract of math/bits.Len32 at this dump (laid in plain words by the shelf's own command). -/
namespace Go.Proofs.YtocdlaakcecieaaDoor
open Go.Shelf
def Tryd.lays128_ren : Go.Shelf.Ren := ⟨fun | 128 => 86 | n => n, fun | 51 => 39 | 3 => 3 | 4 => 4 | 46 => 59 | 5 => 5 | 9 => 9 | n => n, fun | n => n⟩
theorem Tryd.lays128 : Go.Proofs.Lays.n128 Tryd.prog Tryd.lays128_ren := {
  mixed := by kernel_rfl
  f128 := Tryd.func86.trans (congrArg some (by kernel_rfl))
  t3 := Tryd.underlying3
  a3 := Tryd.isAgg3
  z3 := Tryd.sizeOf3
  v3 := Tryd.zeroValue3
  t4 := Tryd.underlying4
  a4 := Tryd.isAgg4
  z4 := Tryd.sizeOf4
  v4 := Tryd.zeroValue4
  t5 := Tryd.underlying5
  a5 := Tryd.isAgg5
  z5 := Tryd.sizeOf5
  v5 := Tryd.zeroValue5
  t9 := Tryd.underlying9
  a9 := Tryd.isAgg9
  z9 := Tryd.sizeOf9
  v9 := Tryd.zeroValue9
  t46 := Tryd.underlying59
  a46 := Tryd.isAgg59
  z46 := Tryd.sizeOf59
  v46 := Tryd.zeroValue59
  t51 := Tryd.underlying39
  a51 := Tryd.isAgg39
  z51 := Tryd.sizeOf39
  v51 := Tryd.zeroValue39 }
theorem len32_any (x : Int) (w : World) (h0 : 0 ≤ x) (h1 : x ≤ 4294967295) :
    Calls Tryd.prog 86 #[.int .u32 x] w fun e w' => e = .returned (.int .i64 (Lib.bitLen x.toNat)) ∧ w' = w := Any.bits_Len32 Tryd.lays128 x w h0 h1
end Go.Proofs.YtocdlaakcecieaaDoor

/- The contract of nat.Bits. -/
namespace Go.Proofs.YtocdlaakcecieaaDoor
open Go.RowKit

set_option maxHeartbeats 400000 in
theorem bits_any (ao : Option Addr) (n cap : Nat) (xs : List Nat) (w : World) (hs : Sl w ao n cap xs) :
    Calls Tryd.prog 76 #[.slice ao n cap] w fun e w' => e = .returned (.int .i64 (nbits (val xs) : Nat)) ∧ w = w' := by
  have hle := hs.le
  have hbig := hs.big
  have hnl : nl xs ≤ n := by have := nl_le xs; rw [hs.len] at this; exact this
  obtain ⟨m, hm⟩ : ∃ m, m = nl xs := ⟨_, rfl⟩
  rw [← hm] at hnl
  have HM : Hid (nl xs = m) := hm.symm
  clear hm
  by_cases h0 : m = 0
  · subst h0
    go_enter Tryd.func76, Tryd.ntmps76
    go_wp2_with (go_at_call 85; refine (length_is 0 _ _ _ _ _ hs HM).mono ?_; rintro e w' ⟨rfl, rfl⟩)
    go_ret
    have : val xs = 0 := trimL_nil.1 (trimL_nil_of HM.out)
    exact ⟨ret_int (by rw [this]; rfl), rfl⟩
  · obtain ⟨k, rfl⟩ : ∃ k, m = k + 1 := ⟨m - 1, by omega⟩
    have hb0 : ((((k + 1 : Nat) : Nat) : Int) == 0) = false := by simp; omega
    obtain ⟨b, off, rfl, hb, hcell⟩ := hs.at (by omega)
    have hc := hcell k (by omega)
    obtain ⟨x, hx⟩ : ∃ x, x = xs.getD k 0 := ⟨_, rfl⟩
    have hxlt : x < 4294967296 := by rw [hx]; exact hs.getD_lt k
    rw [← hx] at hc
    have H : Hid (nbits (val xs) = 32 * k + nbits x ∧ nbits x ≤ 32) := by
      refine ⟨by rw [hx]; exact nbits_val hs.wf k HM.out, nbits_le (by simpa using hxlt)⟩
    have HL : Hid (Lib.bitLen x = nbits x) := bitLen_nbits x hxlt
    have hbl : Lib.bitLen x ≤ 32 := by rw [HL.out]; exact H.out.2
    clear hx hcell
    go_enter Tryd.func76, Tryd.ntmps76
    go_wp2_with (first
      | (go_at_call 85; refine (length_is (k + 1) _ _ _ _ _ hs HM).mono ?_; rintro e w' ⟨rfl, rfl⟩)
      | (go_at_call 86; refine (len32_any _ _ (by omega) (by omega)).mono ?_; rintro e w' ⟨rfl, rfl⟩; rw [Int.toNat_natCast]))
    go_ret
    refine ⟨ret_int ?_, rfl⟩
    rw [H.out.1, HL.out]
    omega

end Go.Proofs.YtocdlaakcecieaaDoor

/- How many bits: what laws ask. -/
namespace Go.Proofs.YtocdlaakcecieaaDoor
open Go.RowKit

theorem nbits_shift {a : Nat} (n : Nat) (h : a ≠ 0) : nbits (a * 2 ^ n) = nbits a + n := by
  obtain ⟨k, e, h1, h2⟩ := nbits_pos h
  rw [e, show k + 1 + n = k + n + 1 from by omega]
  have hp : 0 < 2 ^ n := Nat.two_pow_pos n
  refine nbits_of ?_ ?_
  · rw [Nat.pow_add]; exact Nat.mul_le_mul_right _ h1
  · rw [show k + n + 1 = k + 1 + n from by omega, Nat.pow_add]; exact Nat.mul_lt_mul_of_pos_right h2 hp

theorem bits_is (k : Nat) (ao : Option Addr) (n cap : Nat) (xs : List Nat) (w : World) (hs : Sl w ao n cap xs) (hk : nbits (val xs) = k) :
    Calls Tryd.prog 76 #[.slice ao n cap] w fun e w' => e = .returned (.int .i64 (k : Nat)) ∧ w = w' := by
  rw [← hk]; exact bits_any ao n cap xs w hs

theorem nbits_le32 {a : Nat} (k : Nat) (h : a < 4294967296 ^ k) : nbits a ≤ 32 * k := by
  refine nbits_le ?_
  rw [Nat.pow_mul]
  exact h

theorem mul_pow_lt {a i n k : Nat} (h : a < 4294967296 ^ i) (hn : n ≤ 32 * k) : a * 2 ^ n < 4294967296 ^ (i + k) := by
  have e : (4294967296 : Nat) ^ k = 2 ^ (32 * k) := by rw [Nat.pow_mul]
  rw [Nat.pow_add, e]
  have h2 : 2 ^ n ≤ 2 ^ (32 * k) := Nat.pow_le_pow_right (by omega) hn
  have hp : 0 < 2 ^ n := Nat.two_pow_pos n
  exact Nat.lt_of_lt_of_le (Nat.mul_lt_mul_of_pos_right h hp) (Nat.mul_le_mul_left _ h2)

theorem nl_short {xs : List Nat} (h : val xs < 18446744073709551616) : nl xs ≤ 2 := by
  rcases Nat.lt_or_ge 2 (nl xs) with h1 | h1
  · obtain ⟨k, hk⟩ : ∃ k, nl xs = k + 1 := ⟨nl xs - 1, by omega⟩
    have h2 := pow_le_of_nl k hk
    have h3 : 4294967296 ^ 2 ≤ 4294967296 ^ k := Nat.pow_le_pow_right (by omega) (by omega)
    have e : (4294967296 : Nat) ^ 2 = 18446744073709551616 := by decide
    omega
  · exact h1

theorem nl_long {xs : List Nat} (hw : Wf xs) (h : 18446744073709551616 ≤ val xs) : 2 < nl xs := by
  rcases Nat.lt_or_ge 2 (nl xs) with h1 | h1
  · exact h1
  · have h2 := val_lt_nl hw 2 h1
    have e : (4294967296 : Nat) ^ 2 = 18446744073709551616 := by decide
    omega

theorem nbits_short {a : Nat} (h : a < 18446744073709551616) : nbits a ≤ 64 := by
  refine nbits_le ?_
  have e : (2 : Nat) ^ 64 = 18446744073709551616 := by decide
  omega

theorem nbits_long {a : Nat} (h : 18446744073709551616 ≤ a) : 64 < nbits a := by
  rcases Nat.lt_or_ge 64 (nbits a) with h1 | h1
  · exact h1
  · obtain ⟨k, e, h2, h3⟩ := nbits_pos (n := a) (by omega)
    have h4 : 2 ^ (k + 1) ≤ 2 ^ 64 := Nat.pow_le_pow_right (by omega) (by omega)
    have e : (2 : Nat) ^ 64 = 18446744073709551616 := by decide
    omega

theorem div_one {a p : Nat} (h1 : 2 ^ p ≤ a) (h2 : a < 2 ^ (p + 1)) : a / 2 ^ p = 1 := by
  have hp : 0 < 2 ^ p := Nat.two_pow_pos p
  rw [Nat.pow_succ] at h2
  refine Nat.div_eq_of_lt_le (by omega) (by omega)

end Go.Proofs.YtocdlaakcecieaaDoor


/- Shl, Shr, Shelf, Bits, Bits2, Small, Word -/
import Derived.Test.YtmmgipcacceakaaGreatGNatA
import Derived.Shelf.Small.Bits
set_option maxHeartbeats 40000000
set_option maxRecDepth 100000
/- The contract of nat.Shl: the number times a power of two. -/
namespace Go.Proofs.YtmmgipcacceakaaGreat
open Go.RowKit
end Go.Proofs.YtmmgipcacceakaaGreat

/- The contract of nat.Shr: the number divided by a power of two, rounded down. -/
namespace Go.Proofs.YtmmgipcacceakaaGreat
open Go.RowKit
end Go.Proofs.YtmmgipcacceakaaGreat

/- The shelf's contract of math/bits.Len32 at this dump (laid in plain words by the shelf's own command). -/
namespace Go.Proofs.YtmmgipcacceakaaGreat
open Go.Shelf
def Tryz.lays128_ren : Go.Shelf.Ren := ⟨fun | 128 => 112 | n => n, fun | 51 => 118 | 3 => 3 | 4 => 4 | 46 => 156 | 5 => 5 | 9 => 9 | n => n, fun | n => n⟩
theorem Tryz.lays128 : Go.Proofs.Lays.n128 Tryz.prog Tryz.lays128_ren := {
 mixed := by kernel_rfl
 f128 := Tryz.func112.trans (congrArg some (by kernel_rfl))
 t3 := Tryz.underlying3
 a3 := Tryz.isAgg3
 z3 := Tryz.sizeOf3
 v3 := Tryz.zeroValue3
 t4 := Tryz.underlying4
 a4 := Tryz.isAgg4
 z4 := Tryz.sizeOf4
 v4 := Tryz.zeroValue4
 t5 := Tryz.underlying5
 a5 := Tryz.isAgg5
 z5 := Tryz.sizeOf5
 v5 := Tryz.zeroValue5
 t9 := Tryz.underlying9
 a9 := Tryz.isAgg9
 z9 := Tryz.sizeOf9
 v9 := Tryz.zeroValue9
 t46 := Tryz.underlying156
 a46 := Tryz.isAgg156
 z46 := Tryz.sizeOf156
 v46 := Tryz.zeroValue156
 t51 := Tryz.underlying118
 a51 := Tryz.isAgg118
 z51 := Tryz.sizeOf118
 v51 := Tryz.zeroValue118 }
theorem len32_any (x : Int) (w : World) (h0 : 0 ≤ x) (h1 : x ≤ 4294967295) :
  Calls Tryz.prog 112 #[.int .u32 x] w fun e w' => e = .returned (.int .i64 (Lib.bitLen x.toNat)) ∧ w' = w := Any.bits_Len32 Tryz.lays128 x w h0 h1
end Go.Proofs.YtmmgipcacceakaaGreat

/- The contract of nat.Bits. -/
namespace Go.Proofs.YtmmgipcacceakaaGreat
open Go.RowKit
theorem bits_any (ao : Option Addr) (n cap : Nat) (xs : List Nat) (w : World) (hs : Sl w ao n cap xs) :
  Calls Tryz.prog 84 #[.slice ao n cap] w fun e w' => e = .returned (.int .i64 (nbits (val xs) : Nat)) ∧ w = w' := by
 have hle := hs.le; have hbig := hs.big
 have hnl : nl xs ≤ n := by have := nl_le xs; rw [hs.len] at this; exact this
 obtain ⟨m, hm⟩ : ∃ m, m = nl xs := ⟨_, rfl⟩; rw [← hm] at hnl
 have HM : Hid (nl xs = m) := hm.symm
 clear hm
 by_cases h0 : m = 0
 ·subst h0
  go_enter Tryz.func84, Tryz.ntmps84
  go_wp2_with (go_at_call 111; refine (length_is 0 _ _ _ _ _ hs HM).mono ?_; rintro e w' ⟨rfl, rfl⟩)
  go_ret
  have : val xs = 0 := trimL_nil.1 (trimL_nil_of HM.out)
  exact ⟨ret_int (by rw [this]; rfl), rfl⟩
 ·obtain ⟨k, rfl⟩ : ∃ k, m = k + 1 := ⟨m - 1, by omega⟩
  have hb0 : ((((k + 1 : Nat) : Nat) : Int) == 0) = false := by simp; omega
  obtain ⟨b, off, rfl, hb, hcell⟩ := hs.at (by omega)
  have hc := hcell k (by omega)
  obtain ⟨x, hx⟩ : ∃ x, x = xs.getD k 0 := ⟨_, rfl⟩
  have hxlt : x < 4294967296 := by rw [hx]; exact hs.getD_lt k
  rw [← hx] at hc
  have H : Hid (nbits (val xs) = 32 * k + nbits x ∧ nbits x ≤ 32) := by
   refine ⟨by rw [hx]; exact nbits_val hs.wf k HM.out, nbits_le (by simpa using hxlt)⟩
  have HL : Hid (Lib.bitLen x = nbits x) := bitLen_nbits x hxlt
  have hbl : Lib.bitLen x ≤ 32 := by rw [HL.out]; exact H.out.2
  clear hx hcell
  go_enter Tryz.func84, Tryz.ntmps84
  go_wp2_with (first
   | (go_at_call 111; refine (length_is (k + 1) _ _ _ _ _ hs HM).mono ?_; rintro e w' ⟨rfl, rfl⟩)
   | (go_at_call 112; refine (len32_any _ _ (by omega) (by omega)).mono ?_; rintro e w' ⟨rfl, rfl⟩; rw [Int.toNat_natCast]))
  go_ret
  refine ⟨ret_int ?_, rfl⟩
  rw [H.out.1, HL.out]
  omega
end Go.Proofs.YtmmgipcacceakaaGreat

/- How many bits: what laws ask. -/
namespace Go.Proofs.YtmmgipcacceakaaGreat
open Go.RowKit
theorem bits_is (k : Nat) (ao : Option Addr) (n cap : Nat) (xs : List Nat) (w : World) (hs : Sl w ao n cap xs) (hk : nbits (val xs) = k) :
  Calls Tryz.prog 84 #[.slice ao n cap] w fun e w' => e = .returned (.int .i64 (k : Nat)) ∧ w = w' := by
 rw [← hk]; exact bits_any ao n cap xs w hs
end Go.Proofs.YtmmgipcacceakaaGreat

/- The contract of nat.Small. -/
namespace Go.Proofs.YtmmgipcacceakaaGreat
open Go.RowKit
theorem small_any (n : Nat) (w : World) (hn : n ≤ 18446744073709551615) :
  Calls Tryz.prog 109 #[.int .u64 (n : Int)] w (NewSl w (limbs n)) := by
 go_enter Tryz.func109, Tryz.ntmps109
 go_wp2_with fail
 have e1 : ((n : Nat) : Int) % 4294967296 = ((n % 4294967296 : Nat) : Int) := by omega
 have e2 : ((n : Nat) : Int) / 4294967296 = ((n / 4294967296 : Nat) : Int) := by omega
 rw [e1, e2]; clear e1 e2
 have hw : ∀ x ∈ [n % 4294967296, n / 4294967296], x < 4294967296 := by
  intro x hx
  simp at hx
  omega
 have ho := Own.lit w [n % 4294967296, n / 4294967296] hw (by simp)
 have ht : trimL [n % 4294967296, n / 4294967296] = limbs n := by
  rw [trim_limbs _ hw, val_cons, val_cons, val_nil]
  congr 1
  omega
 have hc := cut_own _ _ _ _ _ _ ho; rw [ht] at hc
 refine hc.mono fun e w' h => ?_
 obtain ⟨ao, k, cap, rfl, h3, rfl⟩ := h; go_wp2_with fail
 go_ret
 exact ⟨_, _, _, rfl, h3, (Below.refl _ _).alloc (Nat.le_refl _) _⟩
end Go.Proofs.YtmmgipcacceakaaGreat

/- The contract of nat.Word. -/
namespace Go.Proofs.YtmmgipcacceakaaGreat
open Go.RowKit
end Go.Proofs.YtmmgipcacceakaaGreat


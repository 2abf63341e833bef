/- Shl, Shr, Shelf, Bits, Bits2, Small, Word -/
import Derived.Test.YtmmgipcacceakaaGNatA
import Derived.Shelf.Small.Bits
set_option maxHeartbeats 40000000
set_option maxRecDepth 100000
/- The contract of nat.Shl: the number times a power of two. -/
namespace Go.Proofs.Ytmmgipcacceakaa
open Go.RowKit
end Go.Proofs.Ytmmgipcacceakaa

/- The contract of nat.Shr: the number divided by a power of two, rounded down. -/
namespace Go.Proofs.Ytmmgipcacceakaa
open Go.RowKit
end Go.Proofs.Ytmmgipcacceakaa

/- The shelf's contract of math/bits.Len32 at this dump (laid in plain words by the shelf's own command). -/
namespace Go.Proofs.Ytmmgipcacceakaa
open Go.Shelf
def Try.lays128_ren : Go.Shelf.Ren := ⟨fun | 128 => 95 | n => n, fun | 51 => 84 | 3 => 3 | 4 => 4 | 46 => 152 | 5 => 5 | 9 => 9 | n => n, fun | n => n⟩
theorem Try.lays128 : Go.Proofs.Lays.n128 Try.prog Try.lays128_ren := {
 mixed := by kernel_rfl
 f128 := Try.func95.trans (congrArg some (by kernel_rfl))
 t3 := Try.underlying3
 a3 := Try.isAgg3
 z3 := Try.sizeOf3
 v3 := Try.zeroValue3
 t4 := Try.underlying4
 a4 := Try.isAgg4
 z4 := Try.sizeOf4
 v4 := Try.zeroValue4
 t5 := Try.underlying5
 a5 := Try.isAgg5
 z5 := Try.sizeOf5
 v5 := Try.zeroValue5
 t9 := Try.underlying9
 a9 := Try.isAgg9
 z9 := Try.sizeOf9
 v9 := Try.zeroValue9
 t46 := Try.underlying152
 a46 := Try.isAgg152
 z46 := Try.sizeOf152
 v46 := Try.zeroValue152
 t51 := Try.underlying84
 a51 := Try.isAgg84
 z51 := Try.sizeOf84
 v51 := Try.zeroValue84 }
theorem len32_any (x : Int) (w : World) (h0 : 0 ≤ x) (h1 : x ≤ 4294967295) :
  Calls Try.prog 95 #[.int .u32 x] w fun e w' => e = .returned (.int .i64 (Lib.bitLen x.toNat)) ∧ w' = w := Any.bits_Len32 Try.lays128 x w h0 h1
end Go.Proofs.Ytmmgipcacceakaa

/- The contract of nat.Bits. -/
namespace Go.Proofs.Ytmmgipcacceakaa
open Go.RowKit
theorem bits_any (ao : Option Addr) (n cap : Nat) (xs : List Nat) (w : World) (hs : Sl w ao n cap xs) :
  Calls Try.prog 71 #[.slice ao n cap] w fun e w' => e = .returned (.int .i64 (nbits (val xs) : Nat)) ∧ w = w' := by
 have hle := hs.le; have hbig := hs.big
 have hnl : nl xs ≤ n := by have := nl_le xs; rw [hs.len] at this; exact this
 obtain ⟨m, hm⟩ : ∃ m, m = nl xs := ⟨_, rfl⟩; rw [← hm] at hnl
 have HM : Hid (nl xs = m) := hm.symm
 clear hm
 by_cases h0 : m = 0
 ·subst h0
  go_enter Try.func71, Try.ntmps71
  go_wp2_with (go_at_call 94; refine (length_is 0 _ _ _ _ _ hs HM).mono ?_; rintro e w' ⟨rfl, rfl⟩)
  go_ret
  have : val xs = 0 := trimL_nil.1 (trimL_nil_of HM.out)
  exact ⟨ret_int (by rw [this]; rfl), rfl⟩
 ·obtain ⟨k, rfl⟩ : ∃ k, m = k + 1 := ⟨m - 1, by omega⟩
  have hb0 : ((((k + 1 : Nat) : Nat) : Int) == 0) = false := by simp; omega
  obtain ⟨b, off, rfl, hb, hcell⟩ := hs.at (by omega)
  have hc := hcell k (by omega)
  obtain ⟨x, hx⟩ : ∃ x, x = xs.getD k 0 := ⟨_, rfl⟩
  have hxlt : x < 4294967296 := by rw [hx]; exact hs.getD_lt k
  rw [← hx] at hc
  have H : Hid (nbits (val xs) = 32 * k + nbits x ∧ nbits x ≤ 32) := by
   refine ⟨by rw [hx]; exact nbits_val hs.wf k HM.out, nbits_le (by simpa using hxlt)⟩
  have HL : Hid (Lib.bitLen x = nbits x) := bitLen_nbits x hxlt
  have hbl : Lib.bitLen x ≤ 32 := by rw [HL.out]; exact H.out.2
  clear hx hcell
  go_enter Try.func71, Try.ntmps71
  go_wp2_with (first
   | (go_at_call 94; refine (length_is (k + 1) _ _ _ _ _ hs HM).mono ?_; rintro e w' ⟨rfl, rfl⟩)
   | (go_at_call 95; refine (len32_any _ _ (by omega) (by omega)).mono ?_; rintro e w' ⟨rfl, rfl⟩; rw [Int.toNat_natCast]))
  go_ret
  refine ⟨ret_int ?_, rfl⟩
  rw [H.out.1, HL.out]
  omega
end Go.Proofs.Ytmmgipcacceakaa

/- How many bits: what laws ask. -/
namespace Go.Proofs.Ytmmgipcacceakaa
open Go.RowKit
theorem bits_is (k : Nat) (ao : Option Addr) (n cap : Nat) (xs : List Nat) (w : World) (hs : Sl w ao n cap xs) (hk : nbits (val xs) = k) :
  Calls Try.prog 71 #[.slice ao n cap] w fun e w' => e = .returned (.int .i64 (k : Nat)) ∧ w = w' := by
 rw [← hk]; exact bits_any ao n cap xs w hs
end Go.Proofs.Ytmmgipcacceakaa

/- The contract of nat.Small. -/
namespace Go.Proofs.Ytmmgipcacceakaa
open Go.RowKit
end Go.Proofs.Ytmmgipcacceakaa

/- The contract of nat.Word. -/
namespace Go.Proofs.Ytmmgipcacceakaa
open Go.RowKit
end Go.Proofs.Ytmmgipcacceakaa


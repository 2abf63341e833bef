/-
  The library's functions that write and read numbers, cut off a sign, repeat a string: contracts at this program.
-/
import Derived.Test.YtocdlaakcecieaaDoorTxtShelf
import Derived.Test.YtocdlaakcecieaaDoorTxtNum
import Derived.Lib.AppendIntMem
import Derived.Lib.ItoaMem
set_option maxRecDepth 8192
namespace Go.Proofs.YtocdlaakcecieaaDoor
open Go.RowKit Go.Sort Go.Lib

/-- The library's table of powers of ten reads as its own text lays it. -/
def Tab (w : World) : Prop := Lib.TabIs Tryd.prog w ((Tryd.progGlobals[2]?.map (·.name)).getD default) .u64 Lib.pow10Tab

theorem Tab.below {w w' : World} (h : Tab w) (hb : Below w.heap.size w w') : Tab w' := Lib.tabBelow_of_tabIs h w' hb

theorem small_str (i : Nat) (h : i < 100) (w : World) :
    Calls Tryd.prog 66 #[.int .i64 (i : Int)] w fun e w' => e = .returned (.string ⟨(decDigits i).toArray⟩) ∧ w' = w := Any.internal_strconv_small Tryd.lays283 i h w

theorem numDigits_any (u : Nat) (h1 : 1 ≤ u) (h2 : u < 18446744073709551616) (w : World) (ht : Tab w) :
    Calls Tryd.prog 67 #[.int .u64 (u : Int)] w fun e w' => e = .returned (.int .i64 ((nDigits u : Nat) : Int)) ∧ w' = w := Any.internal_strconv_numDigits Tryd.laysM284 u h1 h2 w ht

theorem base10_any (blk off cap u : Nat) (d : Array UInt8) (w : World) (hH : Holds (fun (b : UInt8) => Value.int .u8 (b.toNat : Int)) w blk off d) (hu : u < 10 ^ d.size) (hu64 : u < 18446744073709551616) (hsz : d.size < 4611686018427387904) :
    Calls Tryd.prog 68 #[.slice (some ⟨blk, off, none⟩) d.size cap, .int .u64 (u : Int)] w fun e w' =>
      e = .returned (.tuple #[]) ∧ ∃ (n v' : Nat) (dk : Array UInt8), w' = (putRow (fun (b : UInt8) => Value.int .u8 (b.toNat : Int)) w blk off dk).drewN n ∧ FmtInv d.size u 0 v' dk := Any.internal_strconv_formatBase10 Tryd.lays285 blk off cap u d w hH hu hu64 hsz

set_option maxHeartbeats 1000000 in
theorem fmt_small (u : Nat) (hs : u < 100) (w : World) :
    Calls Tryd.prog 58 #[.int .u64 (u : Int), .int .i64 10] w (RetB (.string ⟨(decDigits u).toArray⟩) w) := by
  have h1 : ((u : Nat) : Int) < 100 := by omega
  go_enter Tryd.func58, Tryd.ntmps58
  go_wp2_with (go_at_call 66; refine (small_str u hs _).mono ?_; rintro e w' ⟨rfl, rfl⟩)
  go_ret
  exact ⟨rfl, Below.refl _ _⟩

set_option maxHeartbeats 1000000 in
theorem fmt_big (u : Nat) (hu : 100 ≤ u) (hu64 : u < 18446744073709551616) (w : World) (htab : Tab w) :
    Calls Tryd.prog 58 #[.int .u64 (u : Int), .int .i64 10] w (RetB (.string ⟨(decDigits u).toArray⟩) w) := by
  have iu : ¬ ((u : Nat) : Int) < 100 := by omega
  have hu1 : 1 ≤ u := by omega
  have hnd20 : nDigits u ≤ 20 := by have := numDigits_eq u hu1 hu64; split at this <;> omega
  have hal : Tryd.prog.arrayLen 101 = 24 := by simp [Program.arrayLen, Tryd.underlying101]
  have hsl : ∀ W, (Instr.sliceAt 101 (.pointer (some ⟨w.heap.size, 0, none⟩)) none (some (.int .i64 ((nDigits u : Nat) : Int))) none).run Tryd.prog W = .ok (.slice (some ⟨w.heap.size, 0, none⟩) (nDigits u) 24) W := fun W => by
    rw [run_sliceAt_array_h W 101 ⟨w.heap.size, 0, none⟩ (by simp [Program.arrayLen, Program.elem, Tryd.underlying101]) .i64 ((nDigits u : Nat) : Int) (by omega) (by rw [hal]; omega)]
    go_simp
  have hH0 := holds_zero0 w 101 (nDigits u) (by omega)
  have hfmt := base10_any w.heap.size 0 24 u (Array.replicate (nDigits u) 0) (w.alloc (.cells zeros24 101)) hH0 (by rw [Array.size_replicate]; exact lt_pow_nDigits u) hu64 (by rw [Array.size_replicate]; omega)
  rw [Array.size_replicate] at hfmt
  have HH0 := Lib.hid hH0
  have HT := Lib.hid htab
  clear hH0 hal htab
  go_enter Tryd.func58, Tryd.ntmps58
  go_wp2_with (go_at_call 67; refine (numDigits_any u hu1 hu64 _ (Lib.tabIs_alloc HT.out _)).mono ?_; rintro e w' ⟨rfl, rfl⟩)
  refine hfmt.mono ?_
  rintro e w' ⟨rfl, k, v', dk, rfl, hF⟩
  have hcv : (convert 53 9 (.slice (some ⟨w.heap.size, 0, none⟩) (nDigits u) 24)).run Tryd.prog ((putRow (fun (b : UInt8) => Value.int .u8 (b.toNat : Int)) (w.alloc (.cells zeros24 101)) w.heap.size 0 dk).drewN k) = .ok (.string ⟨(decDigits u).toArray⟩) ((putRow (fun (b : UInt8) => Value.int .u8 (b.toNat : Int)) (w.alloc (.cells zeros24 101)) w.heap.size 0 dk).drewN k) := by
    have h := run_convert_bytes_back (P := Tryd.prog) ((putRow (fun (b : UInt8) => Value.int .u8 (b.toNat : Int)) (w.alloc (.cells zeros24 101)) w.heap.size 0 dk).drewN k) 53 9 5 ⟨w.heap.size, 0, none⟩ 24 (decDigits u) Tryd.underlying53 Tryd.underlying5 Tryd.underlying9 (fun j hj => by
      rw [row_is_numeral hF j hj, Lib.add_plain, World.cell?_drewN]
      exact cell?_putRow (fun (b : UInt8) => Value.int .u8 (b.toNat : Int)) _ w.heap.size 0 _ dk HH0.out (by rw [hF.size, Array.size_replicate]) j (by rw [hF.size]; rw [decDigits_length] at hj; exact hj))
    rw [decDigits_length] at h
    exact h
  obtain ⟨os, eo⟩ := Lib.fin_at w (.cells zeros24 101) dk k 0
  have hnx : Hid (Below w.heap.size w ((putRow (fun (b : UInt8) => Value.int .u8 (b.toNat : Int)) (w.alloc (.cells zeros24 101)) w.heap.size 0 dk).drewN k)) := by rw [eo]; exact Lib.below_grow _ w (Nat.le_refl _) k os
  generalize (putRow (fun (b : UInt8) => Value.int .u8 (b.toNat : Int)) (w.alloc (.cells zeros24 101)) w.heap.size 0 dk).drewN k = W2 at hcv hnx ⊢
  clear eo HH0 hF
  go_wp2_with fail
  go_ret
  exact ⟨rfl, hnx.out⟩

theorem fmt_in (u : Nat) (hu : u < 18446744073709551616) (w : World) (ht : Tab w) :
    Calls Tryd.prog 58 #[.int .u64 (u : Int), .int .i64 10] w (RetB (.string ⟨(decDigits u).toArray⟩) w) := by
  rcases Nat.lt_or_ge u 100 with h | h
  · exact fmt_small u h w
  · exact fmt_big u h hu w ht

theorem fmt_any (u : Nat) (hu : u < 18446744073709551616) (w : World) (ht : Tab w) :
    Calls Tryd.prog 43 #[.int .u64 (u : Int), .int .i64 10] w (RetB (.string ⟨(decDigits u).toArray⟩) w) := by
  have HT := Lib.hid ht
  clear ht
  go_enter Tryd.func43, Tryd.ntmps43
  go_wp2_with fail
  refine (fmt_in u hu _ HT.out).mono ?_
  rintro e w' ⟨rfl, hB⟩
  go_wp2_with fail
  go_ret
  exact ⟨rfl, hB⟩

theorem cut_prefix (s p : ByteArray) (w : World) :
    Calls Tryd.prog 21 #[.string s, .string p] w fun e w' => e = .returned (.tuple #[.string ⟨(Lib.trimPrefix s.data.toList p.data.toList).toArray⟩, .bool (Lib.hasPrefix s.data.toList p.data.toList)]) ∧ w' = w := Any.strings_CutPrefix Tryd.lays103 s p w

/-- the text without its sign, and whether it had one -/
theorem cut_sign (s : ByteArray) (w : World) :
    Calls Tryd.prog 21 #[.string s, .string ⟨#[45]⟩] w fun e w' => e = .returned (.tuple #[.string ⟨(unsign s.data.toList).toArray⟩, .bool (hasPrefix s.data.toList [45])]) ∧ w' = w := cut_prefix s ⟨#[45]⟩ w

theorem parse_u32 (s : ByteArray) (hs : s.size ≤ 9) (h0 : 0 < s.size) (ha : allDig s.data.toList = true) (w : World) :
    Calls Tryd.prog 45 #[.string s, .int .i64 10, .int .i64 32] w (RetB (.tuple #[.int .u64 ((digVal s.data.toList : Nat) : Int), .nilIface]) w) := by
  have e : s.data.toList.length = s.size := (Lib.size_eq s).symm
  have hp : parseUintB 32 s.data.toList = .ok (digVal s.data.toList) := parse9_ok ha (fun h => by rw [h] at e; simp at e; omega) (by omega)
  refine Calls.mono (Any.strconv_ParseUint_10_at32_ok Tryd.laysPu14 s (by omega) _ hp w) ?_
  rintro e w' ⟨rfl, rfl | rfl⟩
  · exact ⟨rfl, Below.refl _ _⟩
  · exact ⟨rfl, Lib.bytesWorld_below _ _ _⟩

end Go.Proofs.YtocdlaakcecieaaDoor

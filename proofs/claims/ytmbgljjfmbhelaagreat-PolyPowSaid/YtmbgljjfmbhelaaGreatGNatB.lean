/- Shl, Shr, Shelf, Bits, Bits2, Small, Word -/
import Derived.Test.YtmbgljjfmbhelaaGreatGNatA
import Derived.Shelf.Small.Bits
set_option maxHeartbeats 40000000
set_option maxRecDepth 100000
namespace Go.Proofs.YtmbgljjfmbhelaaGreat
open Lib (hid)
open Go.RowKit
theorem shl_bad (ao : Option Addr) (n cap : Nat) (s : Int) (w : World) (h : s < 0 ∨ 1048576 < s) :
  Calls Tryz.prog 229 #[.slice ao n cap, .int .i64 s] w (NewSlE w [] 2) := by
 go_enter Tryz.func229, Tryz.ntmps229
 go_wp2_with fail; refine (may_no s _ h).mono ?_
 rintro e w' ⟨rfl, rfl⟩; go_wp2_with fail
 go_ret2
 exact ⟨_, _, _, rfl, Own.nil _ _, Below.refl _ _⟩
def ShlInv (B : Nat) (ao : Option Addr) (n cap : Nat) (w : World) (sk bb V k : Nat) (wr : World) : Prop :=
 ∃ zs, Own B wr ao n cap zs ∧ Below B w wr ∧ val zs = 4294967296 ^ sk * V * 2 ^ bb ∧ zs.getD (sk + k) 0 < 2 ^ bb ∧ ∀ t, sk + k < t → zs.getD t 0 = 0
theorem shl_any (ao : Option Addr) (n cap : Nat) (xs : List Nat) (s : Nat) (w : World) (ha : Sl w ao n cap xs) (hs : s ≤ 1048576) (hroom : n < 35184372000000) :
  Calls Tryz.prog 229 #[.slice ao n cap, .int .i64 (s : Int)] w (NewSlE w (limbs (val xs * 2 ^ s)) 0) := by
 have n1 := nl_le xs; rw [ha.len] at n1; have b1 := ha.big; have l1 := ha.le; obtain ⟨m, hm⟩ : ∃ m, m = nl xs := ⟨_, rfl⟩; rw [← hm] at n1
 have HM : Hid (nl xs = m) := hm.symm
 clear hm; obtain ⟨i0, hi, hz0, hz1, hz2⟩ := info_parts Tryz.info_u32
 by_cases hm0 : m = 0
 ·subst hm0
  go_enter Tryz.func229, Tryz.ntmps229
  go_wp2_with fail
  refine (may_yes s _ (by omega) (by omega)).mono ?_
  rintro e w' ⟨rfl, rfl⟩; go_wp2_with fail; refine (zz98 0 _ _ _ _ _ ha HM).mono ?_; rintro e w' ⟨rfl, rfl⟩; go_wp2_with fail
  go_ret2
  have : val xs = 0 := trimL_nil.1 (zz198 HM.out)
  exact ⟨_, _, _, rfl, by rw [this, Nat.zero_mul]; exact Own.nil _ _, Below.refl _ _⟩
 ·have hb0 : (((m : Nat) : Int) == 0) = false := by simp; omega
  have hsk2 : s / 32 ≤ 32768 := by omega
  obtain ⟨b, off, rfl, hbb, hcell⟩ := ha.at (by omega)
  have HC := hid hcell; clear hcell
  go_enter Tryz.func229, Tryz.ntmps229
  go_wp2_with fail
  refine (may_yes _ _ (by omega) (by omega)).mono ?_
  rintro e w' ⟨rfl, rfl⟩; go_wp2_with fail; refine (zz98 m _ _ _ _ _ ha HM).mono ?_; rintro e w' ⟨rfl, rfl⟩
  go_wp2_with (at_make; refine wpList_make_full _ rfl _ _ 41 rfl w.heap.size 107 i0 (.int .u32 0) 1 Tryz.underlying41 hi hz0 hz1 _ _ _ _ (s / 32 + m + 1) rfl rfl (by omega) (by omega) ?b2 ?b3 (Nat.le_refl _) ?_)
  case b2 => rw [hz2]; omega
  case b3 => unfold maxLen; omega
  intro w1 hown1 hgrow1
  rw [zz105] at hown1
  have hb1 : Below w.heap.size w w1 := (Below.refl _ _).grown hgrow1 (Nat.le_refl _) (fun k h => by cases h)
  have hO1 : Own w.heap.size w1 (some ⟨w.heap.size, 0, none⟩) (s / 32 + m + 1) (s / 32 + m + 1) (List.replicate (s / 32 + m + 1) 0) :=
   ⟨hown1, by omega, fun x hx => by rw [(List.mem_replicate.1 hx).2]; omega⟩
  clear hown1 hgrow1
  have hI1 : ShlInv w.heap.size (some ⟨w.heap.size, 0, none⟩) (s / 32 + m + 1) (s / 32 + m + 1) w (s / 32) (s % 32) (val (xs.take 0)) 0 w1 := by
   exact ⟨_, hO1, hb1, by rw [zz213]; simp [val], by rw [zz70]; exact Nat.two_pow_pos _, fun t _ => zz70 _ _⟩
  clear hO1 hb1; go_wp2_with fail
  go_loopw [10, 11, 12, 34] (fun _ _ _ i wr => ∃ k : Nat, k ≤ m ∧ i = .int .i64 k ∧ ShlInv w.heap.size (some ⟨w.heap.size, 0, none⟩) (s / 32 + m + 1) (s / 32 + m + 1) w (s / 32) (s % 32) (val (xs.take k)) k wr) (fun _ _ _ i _ => m - (intOf i).toNat)
  case atStart => exact ⟨0, Nat.zero_le _, rfl, hI1⟩
  case round =>
   clear hI1; obtain ⟨k, hk, rfl, zs, hO, hB, hV, hlt, hz⟩ := hrel
   by_cases hkm : k < m
   ·have hxc : wr.cell? ⟨b, off + k, none⟩ = some (.int .u32 (xs.getD k 0 : Nat)) := (hB.cell (by exact hbb)).trans (HC.out k (by omega))
    have hxl := ha.getD_lt k; obtain ⟨x, hx⟩ : ∃ x, x = xs.getD k 0 := ⟨_, rfl⟩; rw [← hx] at hxc hxl; have HX := hid hx
    have hzc := hO.cell (s / 32 + k) (by omega)
    have hzf := hO.frozen (s / 32 + k)
    have hzc2 := hO.cell (s / 32 + k + 1) (by omega)
    have hzf2 := hO.frozen (s / 32 + k + 1); obtain ⟨z, hz0⟩ : ∃ z, z = zs.getD (s / 32 + k) 0 := ⟨_, rfl⟩; rw [← hz0] at hzc hlt; have HZ := hid hz0; have HV := hid hV; have HT := hid hz; have HLT := hid hlt; clear hx hz0 hV hz hlt
    have hzc2z : zs.getD (s / 32 + k + 1) 0 = 0 := HT.out _ (by omega)
    rw [hzc2z] at hzc2; clear hzc2z
    go_wp2
    go_roundw
    case rel =>
     refine ⟨k + 1, by omega, by go_num, ?_⟩
     have hd : s % 32 < 32 := Nat.mod_lt _ (by omega)
     rw [shl_lo z x _ hxl hd HLT.out, shl_hi x _ hxl hd]
     refine ⟨_, (hO.set (s / 32 + k) _ (shl_lo_lt x _ z hd HLT.out)).set (s / 32 + k + 1) _ (by have := shl_hi_lt x (s % 32) hxl; have h2 : 2 ^ (s % 32) ≤ 2 ^ 31 := Nat.pow_le_pow_right (by omega) (by omega); omega), (hB.setCell (Nat.le_refl _) _).setCell (Nat.le_refl _) _, ?_, ?_, fun t ht => ?_⟩
     ·have hst := shl_step (zs := zs) (j := s / 32 + k) (x := x) (d := s % 32) (by rw [hO.len]; omega) (HT.out _ (by omega))
      rw [← HZ.out] at hst
      rw [hst, shl_inv_step _ k _ x _ _ HV.out, zz216 xs k (by rw [ha.len]; omega), ← HX.out]
     ·rw [← Nat.add_assoc, zz71, if_pos ⟨rfl, by rw [List.length_set, hO.len]; omega⟩]
      exact shl_hi_lt x _ hxl
     ·rw [zz71, if_neg (by omega), zz71, if_neg (by omega)]
      exact HT.out t (by omega)
    case measure => simp [intOf]; omega
   ·obtain rfl : k = m := by omega
    have hcut := cut_own _ _ _ _ _ _ hO
    have ht : trimL zs = limbs (val xs * 2 ^ s) := by
     rw [zz200 _ hO.wf, hV, ← HM.out, val_nl, Nat.mul_comm _ (val xs), Nat.mul_assoc, pow_split]
    rw [ht] at hcut; have HCUT := hid hcut
    clear ht hV hcut hlt hz; go_wp2_with fail
    refine HCUT.out.mono fun e w' h => ?_
    obtain ⟨ao', kk, cap', rfl, h3, rfl⟩ := h; go_wp2_with fail
    go_ret2
    exact ⟨_, _, _, rfl, h3, hB⟩
open Lib (hid)
def ShrInv (B : Nat) (ao : Option Addr) (n cap : Nat) (w : World) (D : List Nat) (s j up : Nat) (wr : World) : Prop :=
 ∃ zs, Own B wr ao n cap zs ∧ Below B w wr ∧ val (zs.drop j) = val (D.drop j) / 2 ^ s ∧ up = D.getD j 0
theorem shr_any (ao : Option Addr) (n cap : Nat) (xs : List Nat) (s : Nat) (w : World) (ha : Sl w ao n cap xs) (hs : s ≤ 1048576) :
  Calls Tryz.prog 230 #[.slice ao n cap, .int .i64 (s : Int)] w (NewSlE w (limbs (val xs / 2 ^ s)) 0) := by
 have n1 := nl_le xs; rw [ha.len] at n1; have b1 := ha.big; have l1 := ha.le; obtain ⟨L, hL⟩ : ∃ L, L = nl xs := ⟨_, rfl⟩; rw [← hL] at n1
 have HL : Hid (nl xs = L) := hL.symm
 clear hL
 have hsk2 : s / 32 ≤ 32768 := by omega
 obtain ⟨i0, hi, hz0, hz1, hz2⟩ := info_parts Tryz.info_u32
 by_cases hm0 : L ≤ s / 32
 ·have hle : ((L : Nat) : Int) - ((s / 32 : Nat) : Int) ≤ 0 := by omega
  go_enter Tryz.func230, Tryz.ntmps230
  go_wp2_with fail
  refine (may_yes s _ (by omega) (by omega)).mono ?_
  rintro e w' ⟨rfl, rfl⟩; go_wp2_with fail; refine (zz98 L _ _ _ _ _ ha HL).mono ?_; rintro e w' ⟨rfl, rfl⟩; go_wp2_with fail
  go_ret2
  have h1 := zz211 ha.wf (s / 32) (by rw [HL.out]; exact hm0)
  have : val xs / 2 ^ s = 0 := by rw [← shr_div, Nat.div_eq_of_lt h1, Nat.zero_div]
  exact ⟨_, _, _, rfl, by rw [this]; exact Own.nil _ _, Below.refl _ _⟩
 ·obtain ⟨m, hm⟩ : ∃ m, m = L - s / 32 := ⟨_, rfl⟩
  have HMM : Hid (m = L - s / 32) := hm
  have hm1 : 0 < m := by omega
  have hm2 : s / 32 + m ≤ L := by omega
  have hm3 : L ≤ s / 32 + m := by omega
  have hmv : ((L : Nat) : Int) - ((s / 32 : Nat) : Int) = (m : Int) := by omega
  have hmv2 : ((L : Nat) : Int) - ((s : Nat) : Int) / 32 = (m : Int) := by omega
  have HMV := hid hmv2; clear hm hmv hmv2
  obtain ⟨b, off, rfl, hbb, hcell⟩ := ha.at (by omega)
  have HC := hid hcell; clear hcell
  have HD : Hid (((trimL xs).drop (s / 32)).length = m) := by
   show _ = _
   rw [List.length_drop, show (trimL xs).length = L from HL.out]; omega
  have HDG : Hid (∀ t, t < m → ((trimL xs).drop (s / 32)).getD t 0 = xs.getD (s / 32 + t) 0) := by
   intro t ht
   rw [← zz72 xs (s / 32 + t) (by rw [HL.out]; omega)]
   simp [List.getD, List.getElem?_drop]
  have HDV : Hid (val ((trimL xs).drop (s / 32)) / 2 ^ (s % 32) = val xs / 2 ^ s) := by
   show _ = _
   rw [val_mid xs ha.wf, shr_div]
  obtain ⟨D, hD⟩ : ∃ D, D = (trimL xs).drop (s / 32) := ⟨_, rfl⟩; rw [← hD] at HD HDG HDV; clear hD
  go_enter Tryz.func230, Tryz.ntmps230
  go_wp2_with fail
  refine (may_yes _ _ (by omega) (by omega)).mono ?_
  rintro e w' ⟨rfl, rfl⟩; go_wp2_with fail; refine (zz98 L _ _ _ _ _ ha HL).mono ?_; rintro e w' ⟨rfl, rfl⟩
  go_wp2_with (at_make; refine wpList_make_full _ rfl _ _ 41 rfl w.heap.size 107 i0 (.int .u32 0) 1 Tryz.underlying41 hi hz0 hz1 _ _ _ _ m rfl rfl (by omega) (by omega) ?b2 ?b3 (Nat.le_refl _) ?_)
  case b2 => rw [hz2]; omega
  case b3 => unfold maxLen; omega
  intro w1 hown1 hgrow1
  rw [zz105] at hown1
  have hb1 : Below w.heap.size w w1 := (Below.refl _ _).grown hgrow1 (Nat.le_refl _) (fun k h => by cases h)
  have hO1 : Own w.heap.size w1 (some ⟨w.heap.size, 0, none⟩) m m (List.replicate m 0) :=
   ⟨hown1, by omega, fun x hx => by rw [(List.mem_replicate.1 hx).2]; omega⟩
  clear hown1 hgrow1
  have hI1 : ShrInv w.heap.size (some ⟨w.heap.size, 0, none⟩) m m w D (s % 32) m 0 w1 := by
   refine ⟨_, hO1, hb1, ?_, ?_⟩
   ·rw [List.drop_eq_nil_of_le (by simp), List.drop_eq_nil_of_le (by rw [HD.out]; exact Nat.le_refl _), val_nil, Nat.zero_div]
   ·simp [List.getD, List.getElem?_eq_none (show D.length ≤ m by rw [HD.out]; exact Nat.le_refl _)]
  clear hO1 hb1; go_wp2_with fail
  go_loopw [10, 11, 12] (fun ab i _ wr => ∃ j up : Nat, j ≤ m ∧ i = .int .i64 ((j : Int) - 1) ∧ ab = .int .u32 up ∧ ShrInv w.heap.size (some ⟨w.heap.size, 0, none⟩) m m w D (s % 32) j up wr) (fun _ i _ _ => (intOf i + 1).toNat)
  case atStart => exact ⟨m, 0, Nat.le_refl _, by rw [HMV.out], rfl, hI1⟩
  case round =>
   clear hI1; obtain ⟨j, up, hj, rfl, rfl, zs, hO, hB, hV, hup⟩ := hrel
   by_cases hj0 : j = 0
   ·subst hj0
    have hcut := cut_own _ _ _ _ _ _ hO
    have ht : trimL zs = limbs (val xs / 2 ^ s) := by
     rw [zz200 _ hO.wf]
     simp only [List.drop_zero] at hV
     rw [hV, HDV.out]
    rw [ht] at hcut; have HCUT := hid hcut
    clear ht hV hcut hup; go_wp2_with fail
    refine HCUT.out.mono fun e w' h => ?_
    obtain ⟨ao', kk, cap', rfl, h3, rfl⟩ := h; go_wp2_with fail
    go_ret2
    exact ⟨_, _, _, rfl, h3, hB⟩
   ·obtain ⟨i, rfl⟩ : ∃ i, j = i + 1 := ⟨j - 1, by omega⟩
    have ei : ((i + 1 : Nat) : Int) - 1 = (i : Int) := by omega
    rw [ei]; have EI := hid ei
    clear ei
    have hxc : wr.cell? ⟨b, off + (s / 32 + i), none⟩ = some (.int .u32 (xs.getD (s / 32 + i) 0 : Nat)) := (hB.cell (by exact hbb)).trans (HC.out _ (by omega))
    have hxl := ha.getD_lt (s / 32 + i); obtain ⟨x, hx⟩ : ∃ x, x = xs.getD (s / 32 + i) 0 := ⟨_, rfl⟩; rw [← hx] at hxc hxl
    have HX : Hid (x = D.getD i 0) := by show _ = _; rw [HDG.out i (by omega), hx]
    have hzf := hO.frozen i
    have hzc := hO.cell i (by omega)
    obtain ⟨z, hz⟩ : ∃ z, z = zs.getD i 0 := ⟨_, rfl⟩; rw [← hz] at hzc; clear hz
    have hul : up < 4294967296 := by
     rw [hup]
     by_cases h : i + 1 < m
     ·rw [HDG.out (i + 1) h]; exact ha.getD_lt _
     ·simp [List.getD, List.getElem?_eq_none (show D.length ≤ i + 1 by rw [HD.out]; omega)]
    have HV := hid hV; have HUP := hid hup; clear hx hV hup hj0
    go_wp2
    go_roundw
    case rel =>
     refine ⟨i, x, by omega, by go_num, rfl, ?_⟩
     rw [shr_bits up x _ hul hxl]
     refine ⟨_, hO.set i _ (shrD_lt _ _ _), hB.setCell (Nat.le_refl _) _, ?_, HX.out⟩
     rw [val_drop _ i (by rw [List.length_set, hO.len]; omega), zz71, if_pos ⟨rfl, by rw [hO.len]; omega⟩, List.drop_set_of_lt (by omega), HV.out, val_drop D i (by rw [HD.out]; omega), ← HX.out]
     refine (shr_step _ (val (D.drop (i + 2))) up x _ (Nat.mod_lt _ (by omega)) hxl ?_).symm
     rw [HUP.out]
     by_cases h : i + 1 < m
     ·exact val_drop D (i + 1) (by rw [HD.out]; exact h)
     ·rw [List.drop_eq_nil_of_le (by rw [HD.out]; omega), List.drop_eq_nil_of_le (by rw [HD.out]; omega)]
      simp [List.getD, List.getElem?_eq_none (show D.length ≤ i + 1 by rw [HD.out]; omega), val]
    case measure => simp [intOf]
open Go.Shelf
def Tryz.lays128_ren : Go.Shelf.Ren := ⟨fun | 128 => 177 | n => n, fun | 51 => 107 | 3 => 3 | 4 => 4 | 46 => 162 | 5 => 5 | 9 => 9 | n => n, fun | n => n⟩
theorem Tryz.lays128 : Go.Proofs.Lays.n128 Tryz.prog Tryz.lays128_ren := {
 mixed := by kernel_rfl
 f128 := Tryz.func177.trans (congrArg some (by kernel_rfl))
 t3 := Tryz.underlying3
 a3 := Tryz.isAgg3
 z3 := Tryz.sizeOf3
 v3 := Tryz.zeroValue3
 t4 := Tryz.underlying4
 a4 := Tryz.isAgg4
 z4 := Tryz.sizeOf4
 v4 := Tryz.zeroValue4
 t5 := Tryz.underlying5
 a5 := Tryz.isAgg5
 z5 := Tryz.sizeOf5
 v5 := Tryz.zeroValue5
 t9 := Tryz.underlying9
 a9 := Tryz.isAgg9
 z9 := Tryz.sizeOf9
 v9 := Tryz.zeroValue9
 t46 := Tryz.underlying162
 a46 := Tryz.isAgg162
 z46 := Tryz.sizeOf162
 v46 := Tryz.zeroValue162
 t51 := Tryz.underlying107
 a51 := Tryz.isAgg107
 z51 := Tryz.sizeOf107
 v51 := Tryz.zeroValue107 }
theorem len32_any (x : Int) (w : World) (h0 : 0 ≤ x) (h1 : x ≤ 4294967295) :
  Calls Tryz.prog 177 #[.int .u32 x] w fun e w' => e = .returned (.int .i64 (Lib.bitLen x.toNat)) ∧ w' = w := Any.bits_Len32 Tryz.lays128 x w h0 h1
theorem bits_any (ao : Option Addr) (n cap : Nat) (xs : List Nat) (w : World) (hs : Sl w ao n cap xs) :
  Calls Tryz.prog 141 #[.slice ao n cap] w fun e w' => e = .returned (.int .i64 (nbits (val xs) : Nat)) ∧ w = w' := by
 have hle := hs.le; have hbig := hs.big
 have hnl : nl xs ≤ n := by have := nl_le xs; rw [hs.len] at this; exact this
 obtain ⟨m, hm⟩ : ∃ m, m = nl xs := ⟨_, rfl⟩; rw [← hm] at hnl
 have HM : Hid (nl xs = m) := hm.symm
 clear hm
 by_cases h0 : m = 0
 ·subst h0
  go_enter Tryz.func141, Tryz.ntmps141
  go_wp2_with (go_at_call 176; refine (zz98 0 _ _ _ _ _ hs HM).mono ?_; rintro e w' ⟨rfl, rfl⟩)
  go_ret
  have : val xs = 0 := trimL_nil.1 (zz198 HM.out)
  exact ⟨ret_int (by rw [this]; rfl), rfl⟩
 ·obtain ⟨k, rfl⟩ : ∃ k, m = k + 1 := ⟨m - 1, by omega⟩
  have hb0 : ((((k + 1 : Nat) : Nat) : Int) == 0) = false := by simp; omega
  obtain ⟨b, off, rfl, hb, hcell⟩ := hs.at (by omega)
  have hc := hcell k (by omega)
  obtain ⟨x, hx⟩ : ∃ x, x = xs.getD k 0 := ⟨_, rfl⟩
  have hxlt : x < 4294967296 := by rw [hx]; exact hs.getD_lt k
  rw [← hx] at hc
  have H : Hid (nbits (val xs) = 32 * k + nbits x ∧ nbits x ≤ 32) := by
   refine ⟨by rw [hx]; exact nbits_val hs.wf k HM.out, zz119 (by simpa using hxlt)⟩
  have HL : Hid (Lib.bitLen x = nbits x) := bitLen_nbits x hxlt
  have hbl : Lib.bitLen x ≤ 32 := by rw [HL.out]; exact H.out.2
  clear hx hcell
  go_enter Tryz.func141, Tryz.ntmps141
  go_wp2_with (first
   | (go_at_call 176; refine (zz98 (k + 1) _ _ _ _ _ hs HM).mono ?_; rintro e w' ⟨rfl, rfl⟩)
   | (go_at_call 177; refine (len32_any _ _ (by omega) (by omega)).mono ?_; rintro e w' ⟨rfl, rfl⟩; rw [Int.toNat_natCast]))
  go_ret
  refine ⟨ret_int ?_, rfl⟩
  rw [H.out.1, HL.out]
  omega
theorem bits_is (k : Nat) (ao : Option Addr) (n cap : Nat) (xs : List Nat) (w : World) (hs : Sl w ao n cap xs) (hk : nbits (val xs) = k) :
  Calls Tryz.prog 141 #[.slice ao n cap] w fun e w' => e = .returned (.int .i64 (k : Nat)) ∧ w = w' := by
 rw [← hk]; exact bits_any ao n cap xs w hs
theorem zz123 {xs : List Nat} (h : val xs < 18446744073709551616) : nl xs ≤ 2 := by
 rcases Nat.lt_or_ge 2 (nl xs) with h1 | h1
 ·obtain ⟨k, hk⟩ : ∃ k, nl xs = k + 1 := ⟨nl xs - 1, by omega⟩
  have h2 := zz146 k hk
  have h3 : 4294967296 ^ 2 ≤ 4294967296 ^ k := Nat.pow_le_pow_right (by omega) (by omega)
  have e : (4294967296 : Nat) ^ 2 = 18446744073709551616 := by decide
  omega
 ·exact h1
theorem nl_long {xs : List Nat} (hw : Wf xs) (h : 18446744073709551616 ≤ val xs) : 2 < nl xs := by
 rcases Nat.lt_or_ge 2 (nl xs) with h1 | h1
 ·exact h1
 ·have h2 := zz211 hw 2 h1
  have e : (4294967296 : Nat) ^ 2 = 18446744073709551616 := by decide
  omega
theorem zz172 (n : Nat) (w : World) (hn : n ≤ 18446744073709551615) :
  Calls Tryz.prog 154 #[.int .u64 (n : Int)] w (NewSl w (limbs n)) := by
 go_enter Tryz.func154, Tryz.ntmps154
 go_wp2_with fail
 have e1 : ((n : Nat) : Int) % 4294967296 = ((n % 4294967296 : Nat) : Int) := by omega
 have e2 : ((n : Nat) : Int) / 4294967296 = ((n / 4294967296 : Nat) : Int) := by omega
 rw [e1, e2]; clear e1 e2
 have hw : ∀ x ∈ [n % 4294967296, n / 4294967296], x < 4294967296 := by
  intro x hx
  simp at hx
  omega
 have ho := Own.lit w [n % 4294967296, n / 4294967296] hw (by simp)
 have ht : trimL [n % 4294967296, n / 4294967296] = limbs n := by
  rw [zz200 _ hw, zz207, zz207, val_nil]
  congr 1
  omega
 have hc := cut_own _ _ _ _ _ _ ho; rw [ht] at hc
 refine hc.mono fun e w' h => ?_
 obtain ⟨ao, k, cap, rfl, h3, rfl⟩ := h; go_wp2_with fail
 go_ret
 exact ⟨_, _, _, rfl, h3, (Below.refl _ _).alloc (Nat.le_refl _) _⟩
theorem zz221 (ao : Option Addr) (n cap : Nat) (xs : List Nat) (w : World) (hs : Sl w ao n cap xs) (h2 : 2 < nl xs) :
  Calls Tryz.prog 197 #[.slice ao n cap] w fun e w' => e = .returned (.tuple #[.int .u64 0, .bool false]) ∧ w = w' := by
 have hle := hs.le; have hbig := hs.big
 have hnl : nl xs ≤ n := by have := nl_le xs; rw [hs.len] at this; exact this
 obtain ⟨m, hm⟩ : ∃ m, m = nl xs := ⟨_, rfl⟩; rw [← hm] at hnl h2
 have HM : Hid (nl xs = m) := hm.symm
 clear hm
 go_enter Tryz.func197, Tryz.ntmps197
 go_wp2_with (go_at_call 176; refine (zz98 m _ _ _ _ _ hs HM).mono ?_; rintro e w' ⟨rfl, rfl⟩)
 go_ret2
 exact ⟨rfl, rfl⟩
theorem word_short (ao : Option Addr) (n cap : Nat) (xs : List Nat) (w : World) (hs : Sl w ao n cap xs) (h2 : nl xs ≤ 2) :
  Calls Tryz.prog 197 #[.slice ao n cap] w fun e w' => e = .returned (.tuple #[.int .u64 (val xs : Nat), .bool true]) ∧ w = w' := by
 have hle := hs.le; have hbig := hs.big
 have hnl : nl xs ≤ n := by have := nl_le xs; rw [hs.len] at this; exact this
 obtain ⟨m, hm⟩ : ∃ m, m = nl xs := ⟨_, rfl⟩; rw [← hm] at hnl h2
 have HM : Hid (nl xs = m) := hm.symm
 clear hm
 go_enter Tryz.func197, Tryz.ntmps197
 go_wp2_with (go_at_call 176; refine (zz98 m _ _ _ _ _ hs HM).mono ?_; rintro e w' ⟨rfl, rfl⟩)
 go_loop [5, 6, 12] (fun s _ i => ∃ k : Nat, k ≤ m ∧ i = .int .i64 k ∧ s = .int .u64 (val (xs.take k) : Nat)) (fun _ _ i => m - (intOf i).toNat)
 case atStart => exact ⟨0, Nat.zero_le _, rfl, rfl⟩
 case round =>
  obtain ⟨k, hk, rfl, rfl⟩ := hrel
  by_cases hkm : k < m
  ·obtain ⟨b, off, rfl, hb, hcell⟩ := hs.at (by omega)
   have hc := hcell k (by omega)
   obtain ⟨x, hx⟩ : ∃ x, x = xs.getD k 0 := ⟨_, rfl⟩
   have hxlt : x < 4294967296 := by rw [hx]; exact hs.getD_lt k
   rw [← hx] at hc; have HX := Lib.hid hx
   clear hx hcell; obtain ⟨s, hs0⟩ : ∃ s, s = val (xs.take k) := ⟨_, rfl⟩; rw [← hs0]; have HS := Lib.hid hs0; clear hs0
   go_wp2
   go_roundw
   case rel =>
    refine ⟨k + 1, by omega, by go_num, ?_⟩
    have hsl : s < 4294967296 ^ k := by
     rw [HS.out]
     have := val_lt _ (Wf.take hs.wf k)
     rwa [List.length_take, hs.len, Nat.min_eq_left (by omega)] at this
    have hv : val (xs.take (k + 1)) = 2 ^ (32 * k) * x + s := by
     rw [zz183 xs k (by rw [hs.len]; omega), zz206, List.length_take, hs.len, Nat.min_eq_left (by omega), zz207, val_nil, ← HS.out, ← HX.out, Nat.pow_mul]
     simp; omega
    have hk2 : k = 0 ∨ k = 1 := by omega
    have hb : 2 ^ (32 * k) * x + s < 18446744073709551616 := by rcases hk2 with rfl | rfl <;> simp at * <;> omega
    rw [hv, show ((x : Nat) : Int) * 2 ^ (32 * k) = ((2 ^ (32 * k) * x : Nat) : Int) from by rw [Int.mul_comm]; simp, zz233 _ (by omega), or_u64 s x (32 * k) (by rwa [Nat.pow_mul]) hb]
   case measure => simp [intOf]; omega
  ·go_wp2
   go_ret2
   obtain rfl : k = m := by omega
   refine ⟨?_, rfl⟩
   rw [← HM.out, ← zz199, zz217]
   rfl
theorem word_is (x : Nat) (ao : Option Addr) (n cap : Nat) (xs : List Nat) (w : World) (hs : Sl w ao n cap xs) (h2 : nl xs ≤ 2) (hx : val xs = x) :
  Calls Tryz.prog 197 #[.slice ao n cap] w fun e w' => e = .returned (.tuple #[.int .u64 (x : Nat), .bool true]) ∧ w = w' := by
 rw [← hx]; exact word_short ao n cap xs w hs h2
end Go.Proofs.YtmbgljjfmbhelaaGreat

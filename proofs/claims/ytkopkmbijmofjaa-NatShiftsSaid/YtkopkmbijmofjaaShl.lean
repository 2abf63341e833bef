/-
  The contract of nat.Shl: the number times a power of two.
-/
import Derived.Test.YtkopkmbijmofjaaSub
import Derived.Test.YtkopkmbijmofjaaShlPlain
namespace Go.Proofs.Ytkopkmbijmofjaa
open Go.RowKit

set_option maxHeartbeats 400000 in
theorem shl_bad (ao : Option Addr) (n cap : Nat) (s : Int) (w : World) (h : s < 0 ∨ 1048576 < s) :
    Calls Try.prog 21 #[.slice ao n cap, .int .i64 s] w (NewSlE w [] 2) := by
  go_enter Try.func21, Try.ntmps21
  go_wp2_with fail
  refine (may_no s _ h).mono ?_
  rintro e w' ⟨rfl, rfl⟩
  go_wp2_with fail
  go_ret2
  exact ⟨_, _, _, rfl, Own.nil _ _, Below.refl _ _⟩

/-- What the loop of nat.Shl holds. -/
def ShlInv (B : Nat) (ao : Option Addr) (n cap : Nat) (w : World) (sk by' V k : Nat) (wr : World) : Prop :=
  ∃ zs, Own B wr ao n cap zs ∧ Below B w wr ∧ val zs = 4294967296 ^ sk * V * 2 ^ by' ∧ zs.getD (sk + k) 0 < 2 ^ by' ∧ ∀ t, sk + k < t → zs.getD t 0 = 0

set_option maxHeartbeats 1000000 in
theorem shl_any (ao : Option Addr) (n cap : Nat) (xs : List Nat) (s : Nat) (w : World) (ha : Sl w ao n cap xs) (hs : s ≤ 1048576) (hroom : n < 35184372000000) :
    Calls Try.prog 21 #[.slice ao n cap, .int .i64 (s : Int)] w (NewSlE w (limbs (val xs * 2 ^ s)) 0) := by
  have n1 := nl_le xs
  rw [ha.len] at n1
  have b1 := ha.big
  have l1 := ha.le
  obtain ⟨m, hm⟩ : ∃ m, m = nl xs := ⟨_, rfl⟩
  rw [← hm] at n1
  have HM : Hid (nl xs = m) := hm.symm
  clear hm
  obtain ⟨i0, hi, hz0, hz1, hz2⟩ := info_parts Try.info_u32
  by_cases hm0 : m = 0
  · subst hm0
    go_enter Try.func21, Try.ntmps21
    go_wp2_with fail
    refine (may_yes s _ (by omega) (by omega)).mono ?_
    rintro e w' ⟨rfl, rfl⟩
    go_wp2_with fail
    refine (length_is 0 _ _ _ _ _ ha HM).mono ?_
    rintro e w' ⟨rfl, rfl⟩
    go_wp2_with fail
    go_ret2
    have : val xs = 0 := trimL_nil.1 (trimL_nil_of HM.out)
    exact ⟨_, _, _, rfl, by rw [this, Nat.zero_mul]; exact Own.nil _ _, Below.refl _ _⟩
  · have hb0 : (((m : Nat) : Int) == 0) = false := by simp; omega
    have hsk2 : s / 32 ≤ 32768 := by omega
    obtain ⟨b, off, rfl, hbb, hcell⟩ := ha.at (by omega)
    have HC := Lib.hid hcell
    clear hcell
    go_enter Try.func21, Try.ntmps21
    go_wp2_with fail
    refine (may_yes _ _ (by omega) (by omega)).mono ?_
    rintro e w' ⟨rfl, rfl⟩
    go_wp2_with fail
    refine (length_is m _ _ _ _ _ ha HM).mono ?_
    rintro e w' ⟨rfl, rfl⟩
    go_wp2_with (at_make; refine wpList_make_full _ rfl _ _ 22 rfl w.heap.size 38 i0 (.int .u32 0) 1 Try.underlying22 hi hz0 hz1 _ _ _ _ (s / 32 + m + 1) rfl rfl (by omega) (by omega) ?b2 ?b3 (Nat.le_refl _) ?_)
    case b2 => rw [hz2]; omega
    case b3 => unfold maxLen; omega
    intro w1 hown1 hgrow1
    rw [made_u32] at hown1
    have hb1 : Below w.heap.size w w1 := (Below.refl _ _).grown hgrow1 (Nat.le_refl _) (fun k h => by cases h)
    have hO1 : Own w.heap.size w1 (some ⟨w.heap.size, 0, none⟩) (s / 32 + m + 1) (s / 32 + m + 1) (List.replicate (s / 32 + m + 1) 0) :=
      ⟨hown1, by omega, fun x hx => by rw [(List.mem_replicate.1 hx).2]; omega⟩
    clear hown1 hgrow1
    have hI1 : ShlInv w.heap.size (some ⟨w.heap.size, 0, none⟩) (s / 32 + m + 1) (s / 32 + m + 1) w (s / 32) (s % 32) (val (xs.take 0)) 0 w1 := by
      exact ⟨_, hO1, hb1, by rw [val_replicate]; simp [val], by rw [getD_replicate_zero]; exact Nat.two_pow_pos _, fun t _ => getD_replicate_zero _ _⟩
    clear hO1 hb1
    go_wp2_with fail
    go_loopw [10, 11, 12, 34] (fun _ _ _ i wr => ∃ k : Nat, k ≤ m ∧ i = .int .i64 k ∧ ShlInv w.heap.size (some ⟨w.heap.size, 0, none⟩) (s / 32 + m + 1) (s / 32 + m + 1) w (s / 32) (s % 32) (val (xs.take k)) k wr) (fun _ _ _ i _ => m - (intOf i).toNat)
    case atStart => exact ⟨0, Nat.zero_le _, rfl, hI1⟩
    case round =>
      clear hI1
      obtain ⟨k, hk, rfl, zs, hO, hB, hV, hlt, hz⟩ := hrel
      by_cases hkm : k < m
      · have hxc : wr.cell? ⟨b, off + k, none⟩ = some (.int .u32 (xs.getD k 0 : Nat)) := (hB.cell (by exact hbb)).trans (HC.out k (by omega))
        have hxl := ha.getD_lt k
        obtain ⟨x, hx⟩ : ∃ x, x = xs.getD k 0 := ⟨_, rfl⟩
        rw [← hx] at hxc hxl
        have HX := Lib.hid hx
        have hzc := hO.cell (s / 32 + k) (by omega)
        have hzf := hO.frozen (s / 32 + k)
        have hzc2 := hO.cell (s / 32 + k + 1) (by omega)
        have hzf2 := hO.frozen (s / 32 + k + 1)
        obtain ⟨z, hz0⟩ : ∃ z, z = zs.getD (s / 32 + k) 0 := ⟨_, rfl⟩
        rw [← hz0] at hzc hlt
        have HZ := Lib.hid hz0
        have HV := Lib.hid hV
        have HT := Lib.hid hz
        have HLT := Lib.hid hlt
        clear hx hz0 hV hz hlt
        have hzc2z : zs.getD (s / 32 + k + 1) 0 = 0 := HT.out _ (by omega)
        rw [hzc2z] at hzc2
        clear hzc2z
        go_wp2
        go_roundw
        case rel =>
          refine ⟨k + 1, by omega, by go_num, ?_⟩
          have hd : s % 32 < 32 := Nat.mod_lt _ (by omega)
          rw [shl_lo z x _ hxl hd HLT.out, shl_hi x _ hxl hd]
          refine ⟨_, (hO.set (s / 32 + k) _ (shl_lo_lt x _ z hd HLT.out)).set (s / 32 + k + 1) _ (by have := shl_hi_lt x (s % 32) hxl; have h2 : 2 ^ (s % 32) ≤ 2 ^ 31 := Nat.pow_le_pow_right (by omega) (by omega); omega), (hB.setCell (Nat.le_refl _) _).setCell (Nat.le_refl _) _, ?_, ?_, fun t ht => ?_⟩
          · have hst := shl_step (zs := zs) (j := s / 32 + k) (x := x) (d := s % 32) (by rw [hO.len]; omega) (HT.out _ (by omega))
            rw [← HZ.out] at hst
            rw [hst, shl_inv_step _ k _ x _ _ HV.out, val_take_succ xs k (by rw [ha.len]; omega), ← HX.out]
          · rw [← Nat.add_assoc, getD_set, if_pos ⟨rfl, by rw [List.length_set, hO.len]; omega⟩]
            exact shl_hi_lt x _ hxl
          · rw [getD_set, if_neg (by omega), getD_set, if_neg (by omega)]
            exact HT.out t (by omega)
        case measure => simp [intOf]; omega
      · obtain rfl : k = m := by omega
        have hcut := cut_own _ _ _ _ _ _ hO
        have ht : trimL zs = limbs (val xs * 2 ^ s) := by
          rw [trim_limbs _ hO.wf, hV, ← HM.out, val_nl, Nat.mul_comm _ (val xs), Nat.mul_assoc, pow_split]
        rw [ht] at hcut
        have HCUT := Lib.hid hcut
        clear ht hV hcut hlt hz
        go_wp2_with fail
        refine HCUT.out.mono fun e w' h => ?_
        obtain ⟨ao', kk, cap', rfl, h3, rfl⟩ := h
        go_wp2_with fail
        go_ret2
        exact ⟨_, _, _, rfl, h3, hB⟩

end Go.Proofs.Ytkopkmbijmofjaa

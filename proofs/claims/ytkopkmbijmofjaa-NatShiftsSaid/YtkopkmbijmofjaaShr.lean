/-
  The contract of nat.Shr: the number divided by a power of two, rounded down.
-/
import Derived.Test.YtkopkmbijmofjaaSub
import Derived.Test.YtkopkmbijmofjaaShrPlain
namespace Go.Proofs.Ytkopkmbijmofjaa
open Go.RowKit

set_option maxHeartbeats 400000 in
theorem shr_bad (ao : Option Addr) (n cap : Nat) (s : Int) (w : World) (h : s < 0 ∨ 1048576 < s) :
    Calls Try.prog 22 #[.slice ao n cap, .int .i64 s] w (NewSlE w [] 2) := by
  go_enter Try.func22, Try.ntmps22
  go_wp2_with fail
  refine (may_no s _ h).mono ?_
  rintro e w' ⟨rfl, rfl⟩
  go_wp2_with fail
  go_ret2
  exact ⟨_, _, _, rfl, Own.nil _ _, Below.refl _ _⟩

/-- What the loop of nat.Shr holds: from place j on all limbs are shifted; the one at place j is kept. -/
def ShrInv (B : Nat) (ao : Option Addr) (n cap : Nat) (w : World) (D : List Nat) (s j up : Nat) (wr : World) : Prop :=
  ∃ zs, Own B wr ao n cap zs ∧ Below B w wr ∧ val (zs.drop j) = val (D.drop j) / 2 ^ s ∧ up = D.getD j 0

set_option maxHeartbeats 1000000 in
theorem shr_any (ao : Option Addr) (n cap : Nat) (xs : List Nat) (s : Nat) (w : World) (ha : Sl w ao n cap xs) (hs : s ≤ 1048576) :
    Calls Try.prog 22 #[.slice ao n cap, .int .i64 (s : Int)] w (NewSlE w (limbs (val xs / 2 ^ s)) 0) := by
  have n1 := nl_le xs
  rw [ha.len] at n1
  have b1 := ha.big
  have l1 := ha.le
  obtain ⟨L, hL⟩ : ∃ L, L = nl xs := ⟨_, rfl⟩
  rw [← hL] at n1
  have HL : Hid (nl xs = L) := hL.symm
  clear hL
  have hsk2 : s / 32 ≤ 32768 := by omega
  obtain ⟨i0, hi, hz0, hz1, hz2⟩ := info_parts Try.info_u32
  by_cases hm0 : L ≤ s / 32
  · have hle : ((L : Nat) : Int) - ((s / 32 : Nat) : Int) ≤ 0 := by omega
    go_enter Try.func22, Try.ntmps22
    go_wp2_with fail
    refine (may_yes s _ (by omega) (by omega)).mono ?_
    rintro e w' ⟨rfl, rfl⟩
    go_wp2_with fail
    refine (length_is L _ _ _ _ _ ha HL).mono ?_
    rintro e w' ⟨rfl, rfl⟩
    go_wp2_with fail
    go_ret2
    have h1 := val_lt_nl ha.wf (s / 32) (by rw [HL.out]; exact hm0)
    have : val xs / 2 ^ s = 0 := by rw [← shr_div, Nat.div_eq_of_lt h1, Nat.zero_div]
    exact ⟨_, _, _, rfl, by rw [this]; exact Own.nil _ _, Below.refl _ _⟩
  · obtain ⟨m, hm⟩ : ∃ m, m = L - s / 32 := ⟨_, rfl⟩
    have HMM : Hid (m = L - s / 32) := hm
    have hm1 : 0 < m := by omega
    have hm2 : s / 32 + m ≤ L := by omega
    have hm3 : L ≤ s / 32 + m := by omega
    have hmv : ((L : Nat) : Int) - ((s / 32 : Nat) : Int) = (m : Int) := by omega
    have hmv2 : ((L : Nat) : Int) - ((s : Nat) : Int) / 32 = (m : Int) := by omega
    have HMV := Lib.hid hmv2
    clear hm hmv hmv2
    obtain ⟨b, off, rfl, hbb, hcell⟩ := ha.at (by omega)
    have HC := Lib.hid hcell
    clear hcell
    have HD : Hid (((trimL xs).drop (s / 32)).length = m) := by
      show _ = _
      rw [List.length_drop, show (trimL xs).length = L from HL.out]; omega
    have HDG : Hid (∀ t, t < m → ((trimL xs).drop (s / 32)).getD t 0 = xs.getD (s / 32 + t) 0) := by
      intro t ht
      rw [← getD_trim xs (s / 32 + t) (by rw [HL.out]; omega)]
      simp [List.getD, List.getElem?_drop]
    have HDV : Hid (val ((trimL xs).drop (s / 32)) / 2 ^ (s % 32) = val xs / 2 ^ s) := by
      show _ = _
      rw [val_mid xs ha.wf, shr_div]
    obtain ⟨D, hD⟩ : ∃ D, D = (trimL xs).drop (s / 32) := ⟨_, rfl⟩
    rw [← hD] at HD HDG HDV
    clear hD
    go_enter Try.func22, Try.ntmps22
    go_wp2_with fail
    refine (may_yes _ _ (by omega) (by omega)).mono ?_
    rintro e w' ⟨rfl, rfl⟩
    go_wp2_with fail
    refine (length_is L _ _ _ _ _ ha HL).mono ?_
    rintro e w' ⟨rfl, rfl⟩
    go_wp2_with (at_make; refine wpList_make_full _ rfl _ _ 22 rfl w.heap.size 38 i0 (.int .u32 0) 1 Try.underlying22 hi hz0 hz1 _ _ _ _ m rfl rfl (by omega) (by omega) ?b2 ?b3 (Nat.le_refl _) ?_)
    case b2 => rw [hz2]; omega
    case b3 => unfold maxLen; omega
    intro w1 hown1 hgrow1
    rw [made_u32] at hown1
    have hb1 : Below w.heap.size w w1 := (Below.refl _ _).grown hgrow1 (Nat.le_refl _) (fun k h => by cases h)
    have hO1 : Own w.heap.size w1 (some ⟨w.heap.size, 0, none⟩) m m (List.replicate m 0) :=
      ⟨hown1, by omega, fun x hx => by rw [(List.mem_replicate.1 hx).2]; omega⟩
    clear hown1 hgrow1
    have hI1 : ShrInv w.heap.size (some ⟨w.heap.size, 0, none⟩) m m w D (s % 32) m 0 w1 := by
      refine ⟨_, hO1, hb1, ?_, ?_⟩
      · rw [List.drop_eq_nil_of_le (by simp), List.drop_eq_nil_of_le (by rw [HD.out]; exact Nat.le_refl _), val_nil, Nat.zero_div]
      · simp [List.getD, List.getElem?_eq_none (show D.length ≤ m by rw [HD.out]; exact Nat.le_refl _)]
    clear hO1 hb1
    go_wp2_with fail
    go_loopw [10, 11, 12] (fun ab i _ wr => ∃ j up : Nat, j ≤ m ∧ i = .int .i64 ((j : Int) - 1) ∧ ab = .int .u32 up ∧ ShrInv w.heap.size (some ⟨w.heap.size, 0, none⟩) m m w D (s % 32) j up wr) (fun _ i _ _ => (intOf i + 1).toNat)
    case atStart => exact ⟨m, 0, Nat.le_refl _, by rw [HMV.out], rfl, hI1⟩
    case round =>
      clear hI1
      obtain ⟨j, up, hj, rfl, rfl, zs, hO, hB, hV, hup⟩ := hrel
      by_cases hj0 : j = 0
      · subst hj0
        have hcut := cut_own _ _ _ _ _ _ hO
        have ht : trimL zs = limbs (val xs / 2 ^ s) := by
          rw [trim_limbs _ hO.wf]
          simp only [List.drop_zero] at hV
          rw [hV, HDV.out]
        rw [ht] at hcut
        have HCUT := Lib.hid hcut
        clear ht hV hcut hup
        go_wp2_with fail
        refine HCUT.out.mono fun e w' h => ?_
        obtain ⟨ao', kk, cap', rfl, h3, rfl⟩ := h
        go_wp2_with fail
        go_ret2
        exact ⟨_, _, _, rfl, h3, hB⟩
      · obtain ⟨i, rfl⟩ : ∃ i, j = i + 1 := ⟨j - 1, by omega⟩
        have ei : ((i + 1 : Nat) : Int) - 1 = (i : Int) := by omega
        rw [ei]
        have EI := Lib.hid ei
        clear ei
        have hxc : wr.cell? ⟨b, off + (s / 32 + i), none⟩ = some (.int .u32 (xs.getD (s / 32 + i) 0 : Nat)) := (hB.cell (by exact hbb)).trans (HC.out _ (by omega))
        have hxl := ha.getD_lt (s / 32 + i)
        obtain ⟨x, hx⟩ : ∃ x, x = xs.getD (s / 32 + i) 0 := ⟨_, rfl⟩
        rw [← hx] at hxc hxl
        have HX : Hid (x = D.getD i 0) := by show _ = _; rw [HDG.out i (by omega), hx]
        have hzf := hO.frozen i
        have hzc := hO.cell i (by omega)
        obtain ⟨z, hz⟩ : ∃ z, z = zs.getD i 0 := ⟨_, rfl⟩
        rw [← hz] at hzc
        clear hz
        have hul : up < 4294967296 := by
          rw [hup]
          by_cases h : i + 1 < m
          · rw [HDG.out (i + 1) h]; exact ha.getD_lt _
          · simp [List.getD, List.getElem?_eq_none (show D.length ≤ i + 1 by rw [HD.out]; omega)]
        have HV := Lib.hid hV
        have HUP := Lib.hid hup
        clear hx hV hup hj0
        go_wp2
        go_roundw
        case rel =>
          refine ⟨i, x, by omega, by go_num, rfl, ?_⟩
          rw [shr_bits up x _ hul hxl]
          refine ⟨_, hO.set i _ (shrD_lt _ _ _), hB.setCell (Nat.le_refl _) _, ?_, HX.out⟩
          rw [val_drop _ i (by rw [List.length_set, hO.len]; omega), getD_set, if_pos ⟨rfl, by rw [hO.len]; omega⟩, List.drop_set_of_lt (by omega), HV.out, val_drop D i (by rw [HD.out]; omega), ← HX.out]
          refine (shr_step _ (val (D.drop (i + 2))) up x _ (Nat.mod_lt _ (by omega)) hxl ?_).symm
          rw [HUP.out]
          by_cases h : i + 1 < m
          · exact val_drop D (i + 1) (by rw [HD.out]; exact h)
          · rw [List.drop_eq_nil_of_le (by rw [HD.out]; omega), List.drop_eq_nil_of_le (by rw [HD.out]; omega)]
            simp [List.getD, List.getElem?_eq_none (show D.length ≤ i + 1 by rw [HD.out]; omega), val]
        case measure => simp [intOf]

end Go.Proofs.Ytkopkmbijmofjaa

/-
  The contract of divide.Limb, where what it answers lies in memory of its own.
-/
import Derived.Test.YtocdlaakcecieaaDoorGDiv
set_option maxRecDepth 8192
namespace Go.Proofs.YtocdlaakcecieaaDoor
open Go.RowKit

/-- The same of limbs that are the call's own. -/
theorem dbare_own (B : Nat) (ao : Option Addr) (n cap : Nat) (xs : List Nat) (w : World) (h : Own B w ao n cap xs) :
    Calls Tryd.prog 64 #[.slice ao n cap] w (CutOf B w (limbs (val xs))) := by
  have hs := h.sl
  have hle := hs.le
  have hbig := hs.big
  have hnl : nl xs ≤ n := by have := nl_le xs; rw [hs.len] at this; exact this
  have HT : Hid (limbs (val xs) = xs.take (nl xs)) := by show _ = _; rw [← trim_limbs xs hs.wf, trimL_take]
  have hup := nbits_up hs.wf
  obtain ⟨b, hb⟩ : ∃ b, b = nbits (val xs) := ⟨_, rfl⟩
  obtain ⟨m, hm⟩ : ∃ m, m = nl xs := ⟨_, rfl⟩
  rw [← hb, ← hm] at hup
  rw [← hm] at HT hnl
  have HB := Lib.hid hb
  have hbl : b ≤ 32 * m := by omega
  have hdv : (((b : Nat) : Int) + 32 - 1) / 32 = ((m : Nat) : Int) := by omega
  clear hb hup hm
  go_enter Tryd.func64, Tryd.ntmps64
  by_cases h0 : m = 0
  · subst h0
    go_wp2_with fail
    refine (bits_is b _ _ _ _ _ hs HB.out.symm).mono ?_
    rintro e w' ⟨rfl, rfl⟩
    go_wp2_with fail
    go_ret
    exact ⟨_, _, _, rfl, by rw [HT.out]; exact Own.nil _ _, rfl⟩
  · have hb0 : (((m : Nat) : Int) == 0) = false := by simp; omega
    go_wp2_with fail
    refine (bits_is b _ _ _ _ _ hs HB.out.symm).mono ?_
    rintro e w' ⟨rfl, rfl⟩
    go_wp2_with fail
    go_ret
    exact ⟨_, _, _, rfl, by rw [HT.out]; exact h.take m hnl (by omega), rfl⟩


/-- What a call leaves that answers a list in memory of its own, a limb, an error's number. -/
def NewQLo (w : World) (q r : Nat) (er : Int) (e : Ending) (w' : World) : Prop :=
  ∃ ao n cap, e = .returned (.tuple #[.slice ao n cap, .int .u32 (r : Int), .int .i64 er]) ∧ Own w.heap.size w' ao n cap (limbs q) ∧ Below w.heap.size w w'

set_option maxHeartbeats 1000000 in
theorem dlimb_own (a0 : Option Addr) (la ca : Nat) (xs : List Nat) (d : Nat) (w : World) (ha : Sl w a0 la ca xs) (hd0 : 0 < d) (hd : d < 4294967296) :
    Calls Tryd.prog 57 #[.slice a0 la ca, .int .u32 (d : Int)] w (NewQLo w (val xs / d) (val xs % d) 0) := by
  obtain ⟨i0, hi, hz0, hz1, hz2⟩ := info_parts Tryd.info_u32
  have hb0 : (((d : Nat) : Int) == 0) = false := by simp; omega
  have hbig := ha.big
  go_enter Tryd.func57, Tryd.ntmps57
  go_wp2_with fail
  refine (dbare_any _ _ _ _ _ ha).mono ?_
  rintro e w' ⟨a1, n1, c1, rfl, hA, hn1, rfl⟩
  go_wp2_with (at_make; refine wpList_make_full _ rfl _ _ 22 rfl w.heap.size 39 i0 (.int .u32 0) 1 Tryd.underlying22 hi hz0 hz1 _ _ _ _ n1 rfl rfl rfl rfl ?b2 ?b3 (Nat.le_refl _) ?_)
  case b2 => rw [hz2]; omega
  case b3 => unfold maxLen; omega
  intro w1 hown1 hgrow1
  rw [made_u32] at hown1
  have hb1 : Below w.heap.size w w1 := (Below.refl _ _).grown hgrow1 (Nat.le_refl _) (fun k h => by cases h)
  have hO1 : Own w.heap.size w1 (some ⟨w.heap.size, 0, none⟩) n1 n1 (List.replicate n1 0) :=
    ⟨hown1, by omega, fun x hx => by rw [(List.mem_replicate.1 hx).2]; omega⟩
  have hI1 : DLimbInv w.heap.size (some ⟨w.heap.size, 0, none⟩) n1 w (limbs (val xs)) d n1 0 (List.replicate n1 0) w1 := by
    refine ⟨hO1, hb1, ?_, hd0⟩
    rw [List.drop_eq_nil_of_le (by simp), List.drop_eq_nil_of_le (by rw [hA.len]; exact Nat.le_refl _), val_nil, Nat.zero_mul]
  clear hown1 hgrow1 hO1 hb1
  go_wp2_with fail
  go_loopw [5, 7] (fun r i wr => ∃ j rr : Nat, ∃ zs : List Nat, j ≤ n1 ∧ i = .int .i64 ((j : Int) - 1) ∧ r = .int .u32 rr ∧ DLimbInv w.heap.size (some ⟨w.heap.size, 0, none⟩) n1 w (limbs (val xs)) d j rr zs wr) (fun _ i _ => (intOf i + 1).toNat)
  case atStart => exact ⟨n1, 0, _, Nat.le_refl _, rfl, rfl, hI1⟩
  case round =>
    clear hI1
    obtain ⟨j, rr, zs, hj, rfl, rfl, hO, hB, hV, hlt⟩ := hrel
    by_cases hj0 : j = 0
    · subst hj0
      have hq : val zs = val xs / d ∧ rr = val xs % d := by
        rw [List.drop_zero, List.drop_zero, val_limbs] at hV
        have h1 : val xs = rr + d * val zs := by rw [← hV, Nat.mul_comm]; omega
        rw [h1]
        exact ⟨by rw [Nat.add_mul_div_left _ _ hd0, Nat.div_eq_of_lt hlt, Nat.zero_add], by rw [Nat.add_mul_mod_self_left, Nat.mod_eq_of_lt hlt]⟩
      have hbare := dbare_own w.heap.size _ _ _ _ _ hO
      rw [hq.1] at hbare
      have HBA := Lib.hid hbare
      have HR := Lib.hid hq.2
      clear hbare hV hq hO
      go_wp2_with fail
      refine HBA.out.mono fun e w' h => ?_
      obtain ⟨ao, kk, cap, rfl, h3, rfl⟩ := h
      go_wp2_with fail
      go_ret3
      exact ⟨_, _, _, by rw [← HR.out]; rfl, h3, hB⟩
    · obtain ⟨i, rfl⟩ : ∃ i, j = i + 1 := ⟨j - 1, by omega⟩
      have ei : ((i + 1 : Nat) : Int) - 1 = (i : Int) := by omega
      rw [ei]
      clear ei
      obtain ⟨b, off, rfl, hbb, hcb⟩ := hA.at (by omega)
      have hxc : wr.cell? ⟨b, off + i, none⟩ = some (.int .u32 ((limbs (val xs)).getD i 0 : Nat)) := (hB.cell (by exact hbb)).trans (hcb i (by omega))
      have hxl := hA.getD_lt i
      have hzf := hO.frozen i
      have hzc := hO.cell i (by omega)
      have hdrop := val_drop (limbs (val xs)) i (by rw [hA.len]; omega)
      obtain ⟨x, hx⟩ : ∃ x, x = (limbs (val xs)).getD i 0 := ⟨_, rfl⟩
      rw [← hx] at hxc hxl hdrop
      have HDR := Lib.hid hdrop
      have HV := Lib.hid hV
      have hq : (rr * 4294967296 + x) / d < 4294967296 := by
        rw [Nat.div_lt_iff_lt_mul hd0]
        have : (rr + 1) * 4294967296 ≤ d * 4294967296 := Nat.mul_le_mul_right _ hlt
        omega
      have hI2 : Hid (∀ q, DLimbInv w.heap.size (some ⟨w.heap.size, 0, none⟩) n1 w (limbs (val xs)) d i ((rr * 4294967296 + x) % d) (zs.set i ((rr * 4294967296 + x) / d)) ((wr.drewN q).setCell ⟨w.heap.size, i, none⟩ (.int .u32 (((rr * 4294967296 + x) / d : Nat) : Int)))) := by
        intro q
        refine ⟨(hO.drewN q).set i _ hq, (hB.trans (below_drewN _ _ q)).setCell (Nat.le_refl _) _, ?_, Nat.mod_lt _ hd0⟩
        rw [val_drop _ i (by rw [List.length_set, hO.len]; omega), getD_set, if_pos ⟨rfl, by rw [hO.len]; omega⟩, List.drop_set_of_lt (by omega), HDR.out]
        exact dlimb_step HV.out
      clear hx hcb hdrop hV hq hj0 hO
      go_wp2_with (go_at_call 65; refine (div32_any rr x d _ hlt hxl hd).mono ?_; rintro e w' ⟨rfl, q, rfl⟩)
      go_roundw
      case rel => exact ⟨i, _, _, by omega, by go_num, rfl, hI2.out _⟩
      case measure => simp [intOf]

end Go.Proofs.YtocdlaakcecieaaDoor

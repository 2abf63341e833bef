/-
  The contract of porismref01.Add.
-/
import Derived.Test.YtkopkmbijmofjaaROf
namespace Go.Proofs.Ytkopkmbijmofjaa.Dg
open Go.RowKit

theorem getD_out (xs : List Nat) (k : Nat) (h : xs.length ≤ k) : xs.getD k 0 = 0 := by
  simp [List.getD, List.getElem?_eq_none h]

theorem val_take_any (xs : List Nat) (k : Nat) : val (xs.take k) + 10 ^ k * xs.getD k 0 = val (xs.take (k + 1)) := by
  by_cases h : k < xs.length
  · rw [val_take_succ xs k h]
  · rw [getD_out xs k (by omega), List.take_of_length_le (by omega), List.take_of_length_le (by omega)]
    omega

theorem add_push {zs : List Nat} {k c S T x y : Nat} (hl : zs.length = k) (h : val zs + 10 ^ k * c = S + T) :
    val (zs ++ [(c + x + y) % 10]) + 10 ^ (k + 1) * ((c + x + y) / 10) = (S + 10 ^ k * x) + (T + 10 ^ k * y) := by
  rw [val_append, val_cons, val_nil, hl, Nat.pow_succ]
  have e : 10 ^ k * ((c + x + y) % 10 + 10 * 0) + 10 ^ k * 10 * ((c + x + y) / 10) = 10 ^ k * c + 10 ^ k * x + 10 ^ k * y := by
    rw [Nat.mul_assoc, ← Nat.mul_add, ← Nat.mul_add, ← Nat.mul_add]
    congr 1
    omega
  omega

/-- What the loop of porismref01.Add holds. -/
def AddInv (B : Nat) (w : World) (ao : Option Addr) (k cap : Nat) (S c : Nat) (wr : World) : Prop :=
  ∃ zs, Own B wr ao k cap zs ∧ Below B w wr ∧ val zs + 10 ^ k * c = S

set_option maxHeartbeats 2000000 in
theorem add_any (a0 b0 : Option Addr) (la ca lb cb : Nat) (xs ys : List Nat) (w : World) (ha : Sl w a0 la ca xs) (hb : Sl w b0 lb cb ys) (hra : la ≤ 4398046511104) (hrb : lb ≤ 4398046511104) :
    Calls Try.prog 14 #[.slice a0 la ca, .slice b0 lb cb] w (NewSl w (limbs (val xs + val ys))) := by
  obtain ⟨i0, hi, hz0, hz1, hz2⟩ := info_parts Try.info_int
  go_enter Try.func14, Try.ntmps14
  go_wp2
  go_loopw [5, 6, 7] (fun o c i wr => ∃ (k cc : Nat) (ao' : Option Addr) (cap' : Nat), k ≤ la + lb + 1 ∧ cc ≤ 1 ∧ i = .int .i64 ((k : Nat) : Int) ∧ c = .int .i64 ((cc : Nat) : Int) ∧ o = .slice ao' k cap' ∧ AddInv w.heap.size w ao' k cap' (val (xs.take k) + val (ys.take k)) cc wr) (fun _ _ i _ => la + lb + 1 - (intOf i).toNat)
  case atStart => exact ⟨0, 0, none, 0, Nat.zero_le _, Nat.zero_le _, rfl, rfl, rfl, [], Own.nil _ _, Below.refl _ _, by simp [val]⟩
  case round =>
    obtain ⟨k, cc, ao', cap', hk, hcc, rfl, rfl, rfl, zs, hO, hB, hV⟩ := hrel
    have hsz := hB.size
    by_cases hka : k < la
    · by_cases hkb : k < lb
      · skip
        obtain ⟨pa, offa, rfl, hpa, hca⟩ := ha.at (by omega)
        have hxc : wr.cell? ⟨pa, offa + k, none⟩ = some (.int .i64 (xs.getD k 0 : Nat)) := (hB.cell (by exact hpa)).trans (hca k (by omega))
        have hxl := ha.getD_lt k
        obtain ⟨pb, offb, rfl, hpb, hcb⟩ := hb.at (by omega)
        have hyc : wr.cell? ⟨pb, offb + k, none⟩ = some (.int .i64 (ys.getD k 0 : Nat)) := (hB.cell (by exact hpb)).trans (hcb k (by omega))
        have hyl := hb.getD_lt k
        have hstep := add_push (x := xs.getD k 0) (y := ys.getD k 0) hO.len hV
        rw [val_take_any xs k, val_take_any ys k] at hstep
        obtain ⟨x, hx⟩ : ∃ x, x = xs.getD k 0 := ⟨_, rfl⟩
        rw [← hx] at hxc hxl hstep
        clear hx hca
        obtain ⟨y, hy⟩ : ∃ y, y = ys.getD k 0 := ⟨_, rfl⟩
        rw [← hy] at hyc hyl hstep
        clear hy hcb
        have HST := Lib.hid hstep
        clear hV hstep
        go_wp2_with (at_builtin; refine wpList_push wr w rfl (.tmp 44) (.tmp 47) 26 rfl w.heap.size 3 i0 (.int .i64 0) 8 Try.underD hi hz0 hz1 hz2 rfl _ _ _ _ rfl hO.row _ rfl 3 rfl hB hsz (by unfold maxLen; omega) (by omega) ?_; intro ao1 cap1 w1 hown1 hB1 _)
        go_roundw
        case rel => exact ⟨k + 1, (cc + x + y) / 10, ao1, cap1, by omega, by omega, by go_num, by go_num, rfl, _, Own.push ((cc + x + y) % 10) hown1 (by go_num) (Nat.mod_lt _ (by omega)) hO.wf (by omega), hB1, HST.out⟩
        case measure => simp [intOf]; omega
      · skip
        obtain ⟨pa, offa, rfl, hpa, hca⟩ := ha.at (by omega)
        have hxc : wr.cell? ⟨pa, offa + k, none⟩ = some (.int .i64 (xs.getD k 0 : Nat)) := (hB.cell (by exact hpa)).trans (hca k (by omega))
        have hxl := ha.getD_lt k
        have db : decide (k < lb) = false := by simp; omega
        have hy0 : ys.getD k 0 = 0 := getD_out ys k (by rw [hb.len]; omega)
        have hstep := add_push (x := xs.getD k 0) (y := ys.getD k 0) hO.len hV
        rw [val_take_any xs k, val_take_any ys k] at hstep
        obtain ⟨x, hx⟩ : ∃ x, x = xs.getD k 0 := ⟨_, rfl⟩
        rw [← hx] at hxc hxl hstep
        clear hx hca
        rw [hy0] at hstep
        have HST := Lib.hid hstep
        clear hV hstep
        go_wp2_with (at_builtin; refine wpList_push wr w rfl (.tmp 44) (.tmp 47) 26 rfl w.heap.size 3 i0 (.int .i64 0) 8 Try.underD hi hz0 hz1 hz2 rfl _ _ _ _ rfl hO.row _ rfl 3 rfl hB hsz (by unfold maxLen; omega) (by omega) ?_; intro ao1 cap1 w1 hown1 hB1 _)
        go_roundw
        case rel => exact ⟨k + 1, (cc + x + 0) / 10, ao1, cap1, by omega, by omega, by go_num, by go_num, rfl, _, Own.push ((cc + x + 0) % 10) hown1 (by go_num) (Nat.mod_lt _ (by omega)) hO.wf (by omega), hB1, HST.out⟩
        case measure => simp [intOf]; omega
    · have da : decide (k < la) = false := by simp; omega
      by_cases hkb : k < lb
      · skip
        have hx0 : xs.getD k 0 = 0 := getD_out xs k (by rw [ha.len]; omega)
        obtain ⟨pb, offb, rfl, hpb, hcb⟩ := hb.at (by omega)
        have hyc : wr.cell? ⟨pb, offb + k, none⟩ = some (.int .i64 (ys.getD k 0 : Nat)) := (hB.cell (by exact hpb)).trans (hcb k (by omega))
        have hyl := hb.getD_lt k
        have hstep := add_push (x := xs.getD k 0) (y := ys.getD k 0) hO.len hV
        rw [val_take_any xs k, val_take_any ys k] at hstep
        rw [hx0] at hstep
        obtain ⟨y, hy⟩ : ∃ y, y = ys.getD k 0 := ⟨_, rfl⟩
        rw [← hy] at hyc hyl hstep
        clear hy hcb
        have HST := Lib.hid hstep
        clear hV hstep
        go_wp2_with (at_builtin; refine wpList_push wr w rfl (.tmp 44) (.tmp 47) 26 rfl w.heap.size 3 i0 (.int .i64 0) 8 Try.underD hi hz0 hz1 hz2 rfl _ _ _ _ rfl hO.row _ rfl 3 rfl hB hsz (by unfold maxLen; omega) (by omega) ?_; intro ao1 cap1 w1 hown1 hB1 _)
        go_roundw
        case rel => exact ⟨k + 1, (cc + 0 + y) / 10, ao1, cap1, by omega, by omega, by go_num, by go_num, rfl, _, Own.push ((cc + 0 + y) % 10) hown1 (by go_num) (Nat.mod_lt _ (by omega)) hO.wf (by omega), hB1, HST.out⟩
        case measure => simp [intOf]; omega
      · have db : decide (k < lb) = false := by simp; omega
        have hS : Hid (val zs + 10 ^ k * cc = val xs + val ys) := by
          rw [List.take_of_length_le (by rw [ha.len]; omega), List.take_of_length_le (by rw [hb.len]; omega)] at hV
          exact hV
        by_cases hc0 : 0 < cc
        · have hk2 : k ≤ la + lb := by
            rcases Nat.lt_or_ge (la + lb) k with h | h
            · obtain rfl : k = la + lb + 1 := by omega
              obtain rfl : cc = 1 := by omega
              have h1 := val_lt xs ha.wf
              have h2 := val_lt ys hb.wf
              rw [ha.len] at h1
              rw [hb.len] at h2
              have h3 : 10 ^ la ≤ 10 ^ (la + lb) := Nat.pow_le_pow_right (by omega) (by omega)
              have h4 : 10 ^ lb ≤ 10 ^ (la + lb) := Nat.pow_le_pow_right (by omega) (by omega)
              have h5 := hS.out
              rw [Nat.pow_succ] at h5
              omega
            · exact h
          have hx0 : xs.getD k 0 = 0 := getD_out xs k (by rw [ha.len]; omega)
          have hy0 : ys.getD k 0 = 0 := getD_out ys k (by rw [hb.len]; omega)
          have hstep := add_push (x := xs.getD k 0) (y := ys.getD k 0) hO.len hV
          rw [val_take_any xs k, val_take_any ys k] at hstep
          rw [hx0] at hstep
          rw [hy0] at hstep
          have HST := Lib.hid hstep
          clear hV hstep
          go_wp2_with (at_builtin; refine wpList_push wr w rfl (.tmp 44) (.tmp 47) 26 rfl w.heap.size 3 i0 (.int .i64 0) 8 Try.underD hi hz0 hz1 hz2 rfl _ _ _ _ rfl hO.row _ rfl 3 rfl hB hsz (by unfold maxLen; omega) (by omega) ?_; intro ao1 cap1 w1 hown1 hB1 _)
          go_roundw
          case rel => exact ⟨k + 1, (cc + 0 + 0) / 10, ao1, cap1, by omega, by omega, by go_num, by go_num, rfl, _, Own.push ((cc + 0 + 0) % 10) hown1 (by go_num) (Nat.mod_lt _ (by omega)) hO.wf (by omega), hB1, HST.out⟩
          case measure => simp [intOf]; omega
        · have hd : decide (0 < cc) = false := by simp; omega
          have hcut := trim_own _ _ _ _ _ _ hO
          have ht : val zs = val xs + val ys := by
            have := hS.out
            obtain rfl : cc = 0 := by omega
            omega
          rw [ht] at hcut
          have HCUT := Lib.hid hcut
          clear ht hV hcut
          go_wp2_with fail
          refine HCUT.out.mono fun e w' h => ?_
          obtain ⟨ao2, kk, cap2, rfl, h3, rfl⟩ := h
          go_wp2_with fail
          go_ret
          exact ⟨_, _, _, rfl, h3, hB⟩
end Go.Proofs.Ytkopkmbijmofjaa.Dg

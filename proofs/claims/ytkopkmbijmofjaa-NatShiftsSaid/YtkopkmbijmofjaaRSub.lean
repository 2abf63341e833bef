/-
  The contract of porismref01.Sub.
-/
import Derived.Test.YtkopkmbijmofjaaRAdd
namespace Go.Proofs.Ytkopkmbijmofjaa.Dg
open Go.RowKit

theorem sub_push {zs : List Nat} {k c S T u y : Nat} (hl : zs.length = k) (hu : u < 10) (hy : y < 10) (hc : c ≤ 1) (h : val zs + T = S + 10 ^ k * c) :
    val (zs ++ [subD u y c]) + (T + 10 ^ k * y) = (S + 10 ^ k * u) + 10 ^ (k + 1) * subB u y c := by
  rw [val_append, val_cons, val_nil, hl, Nat.pow_succ, Nat.mul_zero, Nat.add_zero]
  have e : 10 ^ k * subD u y c + 10 ^ k * y + 10 ^ k * c = 10 ^ k * u + 10 ^ k * 10 * subB u y c := by
    rw [Nat.mul_assoc, ← Nat.mul_add, ← Nat.mul_add, ← Nat.mul_add]
    congr 1
    unfold subD subB
    split <;> omega
  omega

theorem limbs_le_len {a b : Nat} (h : b ≤ a) : (limbs b).length ≤ (limbs a).length := by
  rcases Nat.lt_or_ge (limbs a).length (limbs b).length with h1 | h1
  · have h2 := val_lt_of_nl (xs := limbs a) (ys := limbs b) (wf_limbs a) (by rw [nl_limbs, nl_limbs]; exact h1)
    rw [val_limbs, val_limbs] at h2
    omega
  · exact h1

/-- What the loop of porismref01.Sub holds. -/
def SubInv (B : Nat) (w : World) (ao : Option Addr) (k cap : Nat) (S T c : Nat) (wr : World) : Prop :=
  ∃ zs, Own B wr ao k cap zs ∧ Below B w wr ∧ val zs + T = S + 10 ^ k * c

set_option maxHeartbeats 2000000 in
theorem sub_any (a0 b0 : Option Addr) (la ca lb cb a b : Nat) (w : World) (ha : Sl w a0 la ca (limbs a)) (hb : Sl w b0 lb cb (limbs b)) (hge : b ≤ a) (hra : la ≤ 4398046511104) :
    Calls Try.prog 20 #[.slice a0 la ca, .slice b0 lb cb] w (NewSl w (limbs (a - b))) := by
  obtain ⟨i0, hi, hz0, hz1, hz2⟩ := info_parts Try.info_int
  have hlb : lb ≤ la := by rw [← ha.len, ← hb.len]; exact limbs_le_len hge
  have HGE := Lib.hid hge
  clear hge
  obtain ⟨xs, hxs⟩ : ∃ xs, xs = limbs a := ⟨_, rfl⟩
  obtain ⟨ys, hys⟩ : ∃ ys, ys = limbs b := ⟨_, rfl⟩
  have HXV : Hid (val xs = a) := by rw [Hid, hxs, val_limbs]
  have HYV : Hid (val ys = b) := by rw [Hid, hys, val_limbs]
  rw [← hxs] at ha
  rw [← hys] at hb
  clear hxs hys
  go_enter Try.func20, Try.ntmps20
  go_wp2
  go_loopw [5, 6, 7, 8] (fun o c i _ wr => ∃ (k cc : Nat) (ao' : Option Addr) (cap' : Nat), k ≤ la ∧ cc ≤ 1 ∧ i = .int .i64 ((k : Nat) : Int) ∧ c = .int .i64 ((cc : Nat) : Int) ∧ o = .slice ao' k cap' ∧ SubInv w.heap.size w ao' k cap' (val (xs.take k)) (val (ys.take k)) cc wr) (fun _ _ i _ _ => la - (intOf i).toNat)
  case atStart => exact ⟨0, 0, none, 0, Nat.zero_le _, Nat.zero_le _, rfl, rfl, rfl, [], Own.nil _ _, Below.refl _ _, by simp [val]⟩
  case round =>
    obtain ⟨k, cc, ao', cap', hk, hcc, rfl, rfl, rfl, zs, hO, hB, hV⟩ := hrel
    have hsz := hB.size
    by_cases hka : k < la
    · obtain ⟨pa, offa, rfl, hpa, hca⟩ := ha.at (by omega)
      have hxc : wr.cell? ⟨pa, offa + k, none⟩ = some (.int .i64 (xs.getD k 0 : Nat)) := (hB.cell (by exact hpa)).trans (hca k (by omega))
      have hxl := ha.getD_lt k
      have hyl := hb.getD_lt k
      have hstep := sub_push (u := xs.getD k 0) (y := ys.getD k 0) hO.len hxl hyl hcc hV
      rw [val_take_any xs k, val_take_any ys k] at hstep
      obtain ⟨u, hu⟩ : ∃ u, u = xs.getD k 0 := ⟨_, rfl⟩
      rw [← hu] at hxc hxl hstep
      clear hu hca
      by_cases hkb : k < lb
      · obtain ⟨pb, offb, rfl, hpb, hcb⟩ := hb.at (by omega)
        have hyc : wr.cell? ⟨pb, offb + k, none⟩ = some (.int .i64 (ys.getD k 0 : Nat)) := (hB.cell (by exact hpb)).trans (hcb k (by omega))
        obtain ⟨y, hy⟩ : ∃ y, y = ys.getD k 0 := ⟨_, rfl⟩
        rw [← hy] at hyc hyl hstep
        clear hy hcb
        by_cases hn : u < y + cc
        · skip
          have hneg : u < y + cc := by omega
          have hD : subD u y cc = u + 10 - y - cc := by unfold subD; omega
          have hB1 : subB u y cc = 1 := by unfold subB; rw [if_pos hneg]
          rw [hD, hB1] at hstep
          have HST := Lib.hid hstep
          clear hV hstep hD hB1
          go_wp2_with (at_builtin; refine wpList_push wr w rfl (.tmp 35) (.tmp 37) 26 rfl w.heap.size 3 i0 (.int .i64 0) 8 Try.underD hi hz0 hz1 hz2 rfl _ _ _ _ rfl hO.row _ rfl 3 rfl hB hsz (by unfold maxLen; omega) (by omega) ?_; intro ao1 cap1 w1 hown1 hB2 _)
          go_roundw
          case rel => exact ⟨k + 1, 1, ao1, cap1, by omega, by omega, by go_num, by go_num, rfl, _, Own.push (u + 10 - y - cc) hown1 (by go_num) (by omega) hO.wf (by omega), hB2, HST.out⟩
          case measure => simp [intOf]; omega
        · skip
          have hneg : y + cc ≤ u := by omega
          have hD : subD u y cc = u - y - cc := by unfold subD; omega
          have hB1 : subB u y cc = 0 := by unfold subB; rw [if_neg (by omega)]
          rw [hD, hB1] at hstep
          have HST := Lib.hid hstep
          clear hV hstep hD hB1
          go_wp2_with (at_builtin; refine wpList_push wr w rfl (.tmp 35) (.tmp 37) 26 rfl w.heap.size 3 i0 (.int .i64 0) 8 Try.underD hi hz0 hz1 hz2 rfl _ _ _ _ rfl hO.row _ rfl 3 rfl hB hsz (by unfold maxLen; omega) (by omega) ?_; intro ao1 cap1 w1 hown1 hB2 _)
          go_roundw
          case rel => exact ⟨k + 1, 0, ao1, cap1, by omega, by omega, by go_num, by go_num, rfl, _, Own.push (u - y - cc) hown1 (by go_num) (by omega) hO.wf (by omega), hB2, HST.out⟩
          case measure => simp [intOf]; omega
      · have hy0 : ys.getD k 0 = 0 := getD_out ys k (by rw [hb.len]; omega)
        rw [hy0] at hstep
        clear hy0 hyl
        by_cases hn : u < 0 + cc
        · skip
          have hneg : u < 0 + cc := by omega
          have hD : subD u 0 cc = u + 10 - 0 - cc := by unfold subD; omega
          have hB1 : subB u 0 cc = 1 := by unfold subB; rw [if_pos hneg]
          rw [hD, hB1] at hstep
          have HST := Lib.hid hstep
          clear hV hstep hD hB1
          go_wp2_with (at_builtin; refine wpList_push wr w rfl (.tmp 35) (.tmp 37) 26 rfl w.heap.size 3 i0 (.int .i64 0) 8 Try.underD hi hz0 hz1 hz2 rfl _ _ _ _ rfl hO.row _ rfl 3 rfl hB hsz (by unfold maxLen; omega) (by omega) ?_; intro ao1 cap1 w1 hown1 hB2 _)
          go_roundw
          case rel => exact ⟨k + 1, 1, ao1, cap1, by omega, by omega, by go_num, by go_num, rfl, _, Own.push (u + 10 - 0 - cc) hown1 (by go_num) (by omega) hO.wf (by omega), hB2, HST.out⟩
          case measure => simp [intOf]; omega
        · skip
          have hneg : 0 + cc ≤ u := by omega
          have hD : subD u 0 cc = u - 0 - cc := by unfold subD; omega
          have hB1 : subB u 0 cc = 0 := by unfold subB; rw [if_neg (by omega)]
          rw [hD, hB1] at hstep
          have HST := Lib.hid hstep
          clear hV hstep hD hB1
          go_wp2_with (at_builtin; refine wpList_push wr w rfl (.tmp 35) (.tmp 37) 26 rfl w.heap.size 3 i0 (.int .i64 0) 8 Try.underD hi hz0 hz1 hz2 rfl _ _ _ _ rfl hO.row _ rfl 3 rfl hB hsz (by unfold maxLen; omega) (by omega) ?_; intro ao1 cap1 w1 hown1 hB2 _)
          go_roundw
          case rel => exact ⟨k + 1, 0, ao1, cap1, by omega, by omega, by go_num, by go_num, rfl, _, Own.push (u - 0 - cc) hown1 (by go_num) (by omega) hO.wf (by omega), hB2, HST.out⟩
          case measure => simp [intOf]; omega
    · obtain rfl : k = la := by omega
      have hS : val zs + b = a + 10 ^ k * cc := by
        rw [take_all xs k ha.len, List.take_of_length_le (by rw [hb.len]; exact hlb), HXV.out, HYV.out] at hV
        exact hV
      have hcut := trim_own _ _ _ _ _ _ hO
      have ht : val zs = a - b := by
        have h1 := val_lt zs hO.wf
        rw [hO.len] at h1
        have h2 := HGE.out
        rcases Nat.eq_zero_or_pos cc with h3 | h3
        · subst h3; omega
        · obtain rfl : cc = 1 := by omega
          omega
      rw [ht] at hcut
      have HCUT := Lib.hid hcut
      clear ht hV hS hcut
      go_wp2_with fail
      refine HCUT.out.mono fun e w' h => ?_
      obtain ⟨ao2, kk, cap2, rfl, h3, rfl⟩ := h
      go_wp2_with fail
      go_ret
      exact ⟨_, _, _, rfl, h3, hB⟩
end Go.Proofs.Ytkopkmbijmofjaa.Dg

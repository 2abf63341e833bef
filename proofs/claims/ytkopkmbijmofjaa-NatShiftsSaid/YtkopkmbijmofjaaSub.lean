/-
  The contract of nat.Sub: the difference.
-/
import Derived.Test.YtkopkmbijmofjaaAdd
import Derived.Test.YtkopkmbijmofjaaCmp
namespace Go.Proofs.Ytkopkmbijmofjaa
open Go.RowKit

theorem Sl.drewN {w : World} {ao : Option Addr} {n cap : Nat} {xs : List Nat} (h : Sl w ao n cap xs) (q : Nat) : Sl (w.drewN q) ao n cap xs := ⟨h.len, h.le, h.big, h.wf, h.nil, h.cells⟩
theorem Own.drewN {B : Nat} {w : World} {ao : Option Addr} {n cap : Nat} {xs : List Nat} (h : Own B w ao n cap xs) (q : Nat) : Own B (w.drewN q) ao n cap xs := ⟨h.row, h.big, h.wf⟩
theorem below_drewN (B : Nat) (w : World) (q : Nat) : Below B w (w.drewN q) := ⟨rfl, rfl, rfl, Nat.le_refl _, fun _ _ => rfl⟩

theorem cmp_is (c : Int) (a0 b0 : Option Addr) (la ca lb cb : Nat) (xs ys : List Nat) (w : World) (ha : Sl w a0 la ca xs) (hb : Sl w b0 lb cb ys) (hc : Hid (cmpN (val xs) (val ys) = c)) :
    Calls Try.prog 16 #[.slice a0 la ca, .slice b0 lb cb] w (RetDrew (.int .i64 c) w) := by
  rw [← hc.out]; exact cmp_any _ _ _ _ _ _ _ _ _ ha hb

set_option maxHeartbeats 400000 in
theorem sub_low (a0 b0 : Option Addr) (la ca lb cb : Nat) (xs ys : List Nat) (w : World) (ha : Sl w a0 la ca xs) (hb : Sl w b0 lb cb ys) (h : val xs < val ys) :
    Calls Try.prog 12 #[.slice a0 la ca, .slice b0 lb cb] w (NewSlE w [] 2) := by
  have HC : Hid (cmpN (val xs) (val ys) = -1) := by show _ = _; unfold cmpN; rw [if_pos h]
  go_enter Try.func12, Try.ntmps12
  go_wp2_with fail
  refine (cmp_is (-1) _ _ _ _ _ _ _ _ _ ha hb HC).mono ?_
  rintro e w' ⟨rfl, q, rfl⟩
  go_wp2_with fail
  go_ret2
  exact ⟨_, _, _, rfl, Own.nil _ _, below_drewN _ _ _⟩

/-- What the loops of nat.Sub hold. -/
def SubInv (B : Nat) (ao : Option Addr) (n cap : Nat) (w : World) (S T k c : Nat) (wr : World) : Prop :=
  ∃ zs, Own B wr ao n cap zs ∧ Below B w wr ∧ val zs + T = S + 4294967296 ^ k * c

set_option maxHeartbeats 1000000 in
theorem sub_any (a0 b0 : Option Addr) (la ca lb cb : Nat) (xs ys : List Nat) (w : World) (ha : Sl w a0 la ca xs) (hb : Sl w b0 lb cb ys) (hge : val ys ≤ val xs) :
    Calls Try.prog 12 #[.slice a0 la ca, .slice b0 lb cb] w (NewSlE w (limbs (val xs - val ys)) 0) := by
  obtain ⟨c0, hc0⟩ : ∃ c0, c0 = cmpN (val xs) (val ys) := ⟨_, rfl⟩
  have hc1 : 0 ≤ c0 := by
    rw [hc0]; unfold cmpN; rw [if_neg (by omega)]; split <;> omega
  have HC : Hid (cmpN (val xs) (val ys) = c0) := hc0.symm
  clear hc0
  have n1 := nl_le xs
  have n2 := nl_le ys
  rw [ha.len] at n1
  rw [hb.len] at n2
  have b1 := ha.big
  have b2 := hb.big
  have l1 := ha.le
  have l2 := hb.le
  have hmn : nl ys ≤ nl xs := by
    by_cases h : nl xs < nl ys
    · have := val_lt_of_nl ha.wf h; omega
    · omega
  obtain ⟨n, hn⟩ : ∃ n, n = nl xs := ⟨_, rfl⟩
  obtain ⟨m, hm⟩ : ∃ m, m = nl ys := ⟨_, rfl⟩
  rw [← hn] at n1 hmn
  rw [← hm] at n2 hmn
  have HN : Hid (nl xs = n) := hn.symm
  have HM : Hid (nl ys = m) := hm.symm
  clear hn hm
  have HGE := Lib.hid hge
  clear hge
  go_enter Try.func12, Try.ntmps12
  go_wp2_with fail
  refine (cmp_is c0 _ _ _ _ _ _ _ _ _ ha hb HC).mono ?_
  rintro e w' ⟨rfl, q, rfl⟩
  go_wp2_with fail
  refine (trim_any _ _ _ _ _ (ha.drewN q)).mono ?_
  rintro e w1 ⟨ao, tn, cap, rfl, hO0, hB0⟩
  obtain rfl : tn = n := by rw [← hO0.len]; exact HN.out
  have hb1 : Sl w1 b0 lb cb ys := (hb.drewN q).below hB0
  have hB1 : Below w.heap.size w w1 := (below_drewN _ w q).trans hB0
  have hO1 : Own w.heap.size w1 ao tn cap (trimL xs) := hO0
  have hcap := hO1.sl.le
  have hbig := hO1.big
  clear hO0 hB0
  have hI1 : SubInv w.heap.size ao tn cap w (val xs) (val (ys.take 0)) 0 0 w1 := ⟨_, hO1, hB1, by rw [val_trim]; simp [val]⟩
  clear hO1
  go_wp2_with fail
  refine (length_is m _ _ _ _ _ hb1 HM).mono ?_
  rintro e w' ⟨rfl, rfl⟩
  go_wp2_with fail
  go_loopw [8, 9] (fun c i wr => ∃ k cc : Nat, k ≤ m ∧ cc ≤ 1 ∧ i = .int .i64 k ∧ c = .int .u32 cc ∧ SubInv w.heap.size ao tn cap w (val xs) (val (ys.take k)) k cc wr) (fun _ i _ => m - (intOf i).toNat)
  case atStart => exact ⟨0, 0, Nat.zero_le _, Nat.zero_le _, rfl, rfl, hI1⟩
  case round =>
    clear hI1
    obtain ⟨k, cc, hk, hcc, rfl, rfl, hinv⟩ := hrel
    by_cases hkm : k < m
    · obtain ⟨zs', hO, hB, hV⟩ := hinv
      obtain ⟨b, off, rfl, hbb, hcb⟩ := hb.at (by omega)
      obtain ⟨g, rfl, hBg⟩ : ∃ g, ao = some ⟨g, 0, none⟩ ∧ w.heap.size ≤ g := by
        rcases hO.parts with ⟨_, h, _⟩ | ⟨g, h1, h2, _⟩
        · omega
        · exact ⟨g, h1, h2⟩
      have hyc : wr.cell? ⟨b, off + k, none⟩ = some (.int .u32 (ys.getD k 0 : Nat)) := (hB.cell (by exact hbb)).trans (hcb k (by omega))
      have hzc := hO.cell k (by omega)
      have hzf := hO.frozen k
      have hstep := sub_step (y := ys.getD k 0) (by rw [hO.len]; omega) (hO.getD_lt k) (hb.getD_lt k) hcc hV
      rw [← val_take_succ ys k (by rw [hb.len]; omega)] at hstep
      have hyl := hb.getD_lt k
      have hzl := hO.getD_lt k
      obtain ⟨y, hy⟩ : ∃ y, y = ys.getD k 0 := ⟨_, rfl⟩
      obtain ⟨z, hz⟩ : ∃ z, z = zs'.getD k 0 := ⟨_, rfl⟩
      rw [← hy] at hyc hyl hstep
      rw [← hz] at hzc hzl hstep
      have HST := Lib.hid hstep
      clear hy hz hV hstep hcb
      go_wp2
      have hki : ((k : Nat) : Int) < ((tn : Nat) : Int) := by omega
      have hkb : ((k : Nat) : Int) < ((lb : Nat) : Int) := by omega
      have hk0 : (0 : Int) ≤ ((k : Nat) : Int) := by omega
      go_region_with (go_at_call 36; refine (sub32_any z y cc _ hzl hyl hcc).mono ?_; rintro e w' ⟨rfl, rfl⟩)
      all_goals
        go_wp2
        go_roundw
        case rel => exact ⟨k + 1, subB z y cc, by omega, subB_le _ _ _, by go_num, rfl, _, hO.drew.set k _ (subD_lt _ _ _), hB.drew.setCell hBg _, HST.out⟩
        case measure => simp [intOf]; omega
    · obtain rfl : k = m := by omega
      have hI3 : SubInv w.heap.size ao tn cap w (val xs) (val ys) k cc wr := by
        have e : val (ys.take k) = val ys := by rw [← HM.out, val_nl]
        rwa [e] at hinv
      clear hinv
      go_wp2
      go_loopw [8, 10] (fun c i wr => ∃ k cc : Nat, k ≤ tn ∧ cc ≤ 1 ∧ i = .int .i64 k ∧ c = .int .u32 cc ∧ SubInv w.heap.size ao tn cap w (val xs) (val ys) k cc wr) (fun _ i _ => tn - (intOf i).toNat)
      case atStart => exact ⟨k, cc, by omega, hcc, rfl, rfl, hI3⟩
      case round =>
        clear hI3
        obtain ⟨k, cc, hk, hcc, rfl, rfl, zs', hO, hB, hV⟩ := hrel
        by_cases hc0 : cc = 0
        · have hb0 : (((cc : Nat) : Int) != 0) = false := by simp; omega
          have hcut := cut_own _ _ _ _ _ _ hO
          have ht : trimL zs' = limbs (val xs - val ys) := by
            rw [trim_limbs _ hO.wf]
            congr 1
            rw [hc0] at hV
            omega
          rw [ht] at hcut
          have HCUT := Lib.hid hcut
          clear ht hV hc0 hcut
          go_wp2_with fail
          refine HCUT.out.mono fun e w' h => ?_
          obtain ⟨ao', kk, cap', rfl, h3, rfl⟩ := h
          go_wp2_with fail
          go_ret2
          exact ⟨_, _, _, rfl, h3, hB⟩
        · have hb0 : (((cc : Nat) : Int) != 0) = true := by simp; omega
          have hkn : k < tn := by
            rcases Nat.lt_or_ge k tn with h | h
            · exact h
            · obtain rfl : k = tn := by omega
              obtain rfl : cc = 1 := by omega
              have h1 := val_lt zs' hO.wf
              rw [hO.len] at h1
              have := HGE.out
              omega
          obtain ⟨g, rfl, hBg⟩ : ∃ g, ao = some ⟨g, 0, none⟩ ∧ w.heap.size ≤ g := by
            rcases hO.parts with ⟨_, h, _⟩ | ⟨g, h1, h2, _⟩
            · omega
            · exact ⟨g, h1, h2⟩
          have hzc := hO.cell k (by omega)
          have hzf := hO.frozen k
          have hstep := sub_step (y := 0) (by rw [hO.len]; omega) (hO.getD_lt k) (by omega) hcc hV
          rw [Nat.mul_zero, Nat.add_zero (val ys)] at hstep
          have hzl := hO.getD_lt k
          obtain ⟨z, hz⟩ : ∃ z, z = zs'.getD k 0 := ⟨_, rfl⟩
          rw [← hz] at hzc hzl hstep
          have HST := Lib.hid hstep
          clear hz hV hstep hc0
          go_wp2_with (go_at_call 36; refine (sub32_any z 0 cc _ hzl (by omega) hcc).mono ?_; rintro e w' ⟨rfl, rfl⟩)
          go_roundw
          case rel => exact ⟨k + 1, subB z 0 cc, by omega, subB_le _ _ _, by go_num, rfl, _, hO.set k _ (subD_lt _ _ _), hB.setCell hBg _, HST.out⟩
          case measure => simp [intOf]; omega

end Go.Proofs.Ytkopkmbijmofjaa

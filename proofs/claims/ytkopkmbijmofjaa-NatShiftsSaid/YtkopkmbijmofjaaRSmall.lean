/-
  The contracts of porismref01.Small and porismref01.by.
-/
import Derived.Test.YtkopkmbijmofjaaRTimes
namespace Go.Proofs.Ytkopkmbijmofjaa.Dg
open Go.RowKit

theorem limbs_len {n k : Nat} (h : n < 10 ^ k) : (limbs n).length ≤ k := by
  rcases Nat.lt_or_ge k (limbs n).length with hl | hl
  · obtain ⟨j, hj⟩ : ∃ j, nl (limbs n) = j + 1 := ⟨(limbs n).length - 1, by rw [nl_limbs]; omega⟩
    have h1 := pow_le_of_nl j hj
    rw [val_limbs] at h1
    have h2 : 10 ^ k ≤ 10 ^ j := Nat.pow_le_pow_right (by omega) (by rw [nl_limbs] at hj; omega)
    omega
  · exact hl

theorem u64_pow {n : Nat} (h : n ≤ 18446744073709551615) : n < 10 ^ 20 := by
  have e : (10 : Nat) ^ 20 = 100000000000000000000 := by decide
  omega

set_option maxHeartbeats 400000 in
theorem small_any (n : Nat) (w : World) (hn : Hid (n ≤ 18446744073709551615)) :
    Calls Try.prog 29 #[.int .u64 (n : Int)] w (NewSl w (limbs n)) := by
  obtain ⟨i0, hi, hz0, hz1, hz2⟩ := info_parts Try.info_int
  have HLEN : Hid ((limbs n).length ≤ 20) := limbs_len (u64_pow hn.out)
  have HN := Lib.hid hn.out
  clear hn
  go_enter Try.func29, Try.ntmps29
  go_wp2
  go_loopw [0, 3] (fun c o wr => ∃ (cc L : Nat) (ao : Option Addr) (cap : Nat) (zs : List Nat), cc ≤ n ∧ c = .int .u64 ((cc : Nat) : Int) ∧ o = .slice ao L cap ∧ Own w.heap.size wr ao L cap zs ∧ Below w.heap.size w wr ∧ Hid (zs ++ limbs cc = limbs n)) (fun c _ _ => (intOf c).toNat)
  case atStart => exact ⟨n, 0, none, 0, [], Nat.le_refl _, rfl, rfl, Own.nil _ _, Below.refl _ _, rfl⟩
  case round =>
    obtain ⟨cc, L, ao, cap, zs, hcn, rfl, rfl, hO, hB, hV⟩ := hrel
    have hsz := hB.size
    by_cases hc0 : 0 < cc
    · have hL : L + 1 ≤ 20 := by
        have h1 := congrArg List.length hV.out
        have h2 := HLEN.out
        rw [List.length_append, limbs_pos hc0, List.length_cons, hO.len] at h1
        omega
      have HST : Hid ((zs ++ [cc % 10]) ++ limbs (cc / 10) = limbs n) := by
        rw [Hid, ← hV.out, limbs_pos hc0]; simp
      have HW : Hid (IntKind.u64.wrap (((cc : Nat) : Int) / 10) = ((cc / 10 : Nat) : Int)) := by
        rw [Hid, show ((cc : Nat) : Int) / 10 = ((cc / 10 : Nat) : Int) from by omega, wrap_u64 _ (by have := HN.out; omega)]
      clear hV
      go_wp2_with (at_builtin; refine wpList_push wr w rfl (.tmp 6) (.tmp 10) 26 rfl w.heap.size 3 i0 (.int .i64 0) 8 Try.underD hi hz0 hz1 hz2 rfl _ _ _ _ rfl hO.row _ rfl 3 rfl hB hsz (by unfold maxLen; omega) (by omega) ?_; intro ao1 cap1 w1 hown1 hB1 _)
      go_roundw
      case rel => exact ⟨cc / 10, L + 1, ao1, cap1, _, by omega, by rw [HW.out], rfl, Own.push (cc % 10) hown1 (by go_num) (Nat.mod_lt _ (by omega)) hO.wf (by omega), hB1, HST⟩
      case measure => rw [HW.out]; simp [intOf]; omega
    · obtain rfl : cc = 0 := by omega
      have HE : Hid (zs = limbs n) := by rw [Hid, ← hV.out, limbs_zero, List.append_nil]
      clear hV
      go_wp2
      go_ret
      exact ⟨_, _, _, rfl, by rw [← HE.out]; exact hO, hB⟩

/-- What the loop of porismref01.by holds, from place j on. -/
def ByInv (B : Nat) (ao : Option Addr) (n cap : Nat) (w : World) (X : List Nat) (N j r : Nat) (wr : World) : Prop :=
  ∃ zs, Own B wr ao n cap zs ∧ Below B w wr ∧ val (zs.drop j) * N + r = val (X.drop j) ∧ r < N

/-- what porismref01.by leaves -/
def NewBy (w : World) (ys : List Nat) (r : Nat) (e : Ending) (w' : World) : Prop :=
  ∃ ao n cap, e = .returned (.tuple #[.slice ao n cap, .int .i64 ((r : Nat) : Int)]) ∧ Own w.heap.size w' ao n cap ys ∧ Below w.heap.size w w'

set_option maxHeartbeats 1000000 in
theorem by_any (ao : Option Addr) (n cap : Nat) (xs : List Nat) (N : Nat) (w : World) (ha : Sl w ao n cap xs) (hN : 1 ≤ N) (hN2 : N ≤ 65536) :
    Calls Try.prog 38 #[.slice ao n cap, .int .i64 (N : Int)] w (NewBy w (limbs (val xs / N)) (val xs % N)) := by
  have hle := ha.le
  have hbig := ha.big
  obtain ⟨i0, hi, hz0, hz1, hz2⟩ := info_parts Try.info_int
  go_enter Try.func38, Try.ntmps38
  go_wp2_with (at_make; refine wpList_make_full _ rfl _ _ 26 rfl w.heap.size 3 i0 (.int .i64 0) 1 Try.underD hi hz0 hz1 _ _ _ _ n rfl rfl rfl rfl ?b2 ?b3 (Nat.le_refl _) ?_)
  case b2 => rw [hz2]; omega
  case b3 => unfold maxLen; omega
  intro w1 hown1 hgrow1
  rw [made_int] at hown1
  have hb1 : Below w.heap.size w w1 := (Below.refl _ _).grown hgrow1 (Nat.le_refl _) (fun k h => by cases h)
  have hO1 : Own w.heap.size w1 (some ⟨w.heap.size, 0, none⟩) n n (List.replicate n 0) :=
    ⟨hown1, hbig, fun x hx => by rw [(List.mem_replicate.1 hx).2]; omega⟩
  clear hown1 hgrow1
  have hI1 : ByInv w.heap.size (some ⟨w.heap.size, 0, none⟩) n n w xs N n 0 w1 := by
    refine ⟨_, hO1, hb1, ?_, by omega⟩
    rw [List.drop_eq_nil_of_le (by simp), List.drop_eq_nil_of_le (by rw [ha.len]; exact Nat.le_refl _), val_nil, Nat.zero_mul]
  clear hO1 hb1
  go_wp2_with fail
  go_loopw [7, 8] (fun r i wr => ∃ j rr : Nat, j ≤ n ∧ i = .int .i64 ((j : Int) - 1) ∧ r = .int .i64 ((rr : Nat) : Int) ∧ ByInv w.heap.size (some ⟨w.heap.size, 0, none⟩) n n w xs N j rr wr) (fun _ i _ => (intOf i + 1).toNat)
  case atStart => exact ⟨n, 0, Nat.le_refl _, rfl, rfl, hI1⟩
  case round =>
    clear hI1
    obtain ⟨j, rr, hj, rfl, rfl, zs, hO, hB, hV, hr⟩ := hrel
    by_cases hj0 : j = 0
    · subst hj0
      simp only [List.drop_zero] at hV
      have hq : val zs = val xs / N ∧ rr = val xs % N := by
        have h1 : val xs = rr + N * val zs := by rw [← hV, Nat.mul_comm]; omega
        rw [h1]
        exact ⟨by rw [Nat.add_mul_div_left _ _ (by omega), Nat.div_eq_of_lt hr, Nat.zero_add], by rw [Nat.add_mul_mod_self_left, Nat.mod_eq_of_lt hr]⟩
      have hcut := trim_own _ _ _ _ _ _ hO
      rw [hq.1] at hcut
      have HCUT := Lib.hid hcut
      have HR := Lib.hid hq.2
      clear hV hcut hq
      go_wp2_with fail
      refine HCUT.out.mono fun e w' h => ?_
      obtain ⟨ao2, kk, cap2, rfl, h3, rfl⟩ := h
      go_wp2_with fail
      go_ret2
      exact ⟨_, _, _, by rw [← HR.out]; rfl, h3, hB⟩
    · obtain ⟨i, rfl⟩ : ∃ i, j = i + 1 := ⟨j - 1, by omega⟩
      have ei : ((i + 1 : Nat) : Int) - 1 = (i : Int) := by omega
      rw [ei]
      have EI := Lib.hid ei
      clear ei
      obtain ⟨b, off, rfl, hbb, hcell⟩ := ha.at (by omega)
      have hdc : wr.cell? ⟨b, off + i, none⟩ = some (.int .i64 (xs.getD i 0 : Nat)) := (hB.cell (by exact hbb)).trans (hcell i (by omega))
      have hdl := ha.getD_lt i
      have hzc := hO.cell i (by omega)
      have hzf := hO.frozen i
      have hdrop := val_drop xs i (by rw [ha.len]; omega)
      obtain ⟨d, hd⟩ : ∃ d, d = xs.getD i 0 := ⟨_, rfl⟩
      rw [← hd] at hdc hdl hdrop
      obtain ⟨z, hz⟩ : ∃ z, z = zs.getD i 0 := ⟨_, rfl⟩
      rw [← hz] at hzc
      have hq : (rr * 10 + d) / N < 10 := by rw [Nat.div_lt_iff_lt_mul (by omega)]; omega
      have hst : val ((zs.set i ((rr * 10 + d) / N)).drop i) * N + (rr * 10 + d) % N = val (xs.drop i) := by
        rw [val_drop _ i (by rw [List.length_set, hO.len]; omega), getD_set, if_pos ⟨rfl, by rw [hO.len]; omega⟩, List.drop_set_of_lt (by omega), hdrop, ← hV, Nat.add_mul]
        have h := Nat.mod_add_div (rr * 10 + d) N
        rw [Nat.mul_comm N] at h
        have h2 : 10 * val (zs.drop (i + 1)) * N = 10 * (val (zs.drop (i + 1)) * N) := Nat.mul_assoc _ _ _
        omega
      have HQ := Lib.hid hq
      have HST := Lib.hid hst
      have HRN := Lib.hid hr
      have hrl : rr ≤ 65536 := by omega
      clear hd hz hV hdrop hcell hq hst hr hj0
      go_wp2
      go_roundw
      case rel => exact ⟨i, (rr * 10 + d) % N, by omega, by go_num, by go_num, _, by have := hO.set i _ HQ.out; simpa using this, hB.setCell (Nat.le_refl _) _, HST.out, Nat.mod_lt _ (by omega)⟩
      case measure => simp [intOf]
end Go.Proofs.Ytkopkmbijmofjaa.Dg

/-
  The contract of porismref01.Mul.
-/
import Derived.Test.YtkopkmbijmofjaaRLimbs
import Derived.Test.YtkopkmbijmofjaaRAdd
import Derived.Test.YtkopkmbijmofjaaWraps
namespace Go.Proofs.Ytkopkmbijmofjaa.Dg
open Go.RowKit

/-- digits at places that a number does not reach are noughts -/
theorem getD_high {zs : List Nat} {m t : Nat} (h : val zs < 10 ^ m) (ht : m ≤ t) : zs.getD t 0 = 0 := by
  by_cases hl : t < zs.length
  · have h1 := val_append (zs.take t) (zs.drop t)
    rw [List.take_append_drop, List.length_take, Nat.min_eq_left (by omega), val_drop zs t hl] at h1
    have h2 : 10 ^ m ≤ 10 ^ t := Nat.pow_le_pow_right (by omega) ht
    rcases Nat.eq_zero_or_pos (zs.getD t 0) with h3 | h3
    · exact h3
    · have h4 : 10 ^ t * 1 ≤ 10 ^ t * (zs.getD t 0 + 10 * val (zs.drop (t + 1))) := Nat.mul_le_mul_left _ (by omega)
      omega
  · exact getD_out zs t (by omega)

/-- one step of the inner loop of porismref01.Mul -/
theorem mul_step {zs : List Nat} {p c S m : Nat} (hp : p < zs.length) (h : val zs + 10 ^ p * c = S) :
    val (zs.set p ((c + zs.getD p 0 + m) % 10)) + 10 ^ (p + 1) * ((c + zs.getD p 0 + m) / 10) = S + 10 ^ p * m := by
  have h1 := val_set zs p ((c + zs.getD p 0 + m) % 10) hp
  generalize zs.getD p 0 = u at *
  have h2 : 10 ^ p * ((c + u + m) % 10) + 10 ^ (p + 1) * ((c + u + m) / 10) = 10 ^ p * u + 10 ^ p * c + 10 ^ p * m := by
    rw [Nat.pow_succ, Nat.mul_assoc, ← Nat.mul_add, ← Nat.mul_add, ← Nat.mul_add]
    congr 1
    omega
  omega

/-- What the loops of porismref01.Mul hold. -/
def MulInv (B g n : Nat) (w : World) (S p c : Nat) (wr : World) : Prop :=
  ∃ zs, Own B wr (some ⟨g, 0, none⟩) n n zs ∧ Below B w wr ∧ val zs + 10 ^ p * c = S

theorem mul_sum (X Y i k x y : Nat) : X + 10 ^ i * x * Y + 10 ^ (i + k) * (x * y) = X + 10 ^ i * x * (Y + 10 ^ k * y) := by
  rw [Nat.pow_add, Nat.mul_add]
  have : 10 ^ i * 10 ^ k * (x * y) = 10 ^ i * x * (10 ^ k * y) := by
    simp only [Nat.mul_assoc, Nat.mul_left_comm, Nat.mul_comm]
  omega

theorem mul_row {X : Nat} {xs : List Nat} {i Y : Nat} (h : X = val (xs.take i) * Y) : X + 10 ^ i * xs.getD i 0 * Y = val (xs.take (i + 1)) * Y := by
  rw [h, ← val_take_any xs i, Nat.add_mul]

theorem take_val_lt {xs : List Nat} (hw : Wf xs) (i : Nat) : val (xs.take i) < 10 ^ i := by
  have h := val_lt _ (hw.take i)
  refine Nat.lt_of_lt_of_le h (Nat.pow_le_pow_right (by omega) ?_)
  rw [List.length_take]; omega

set_option maxHeartbeats 2000000 in
theorem mul_any (a0 b0 : Option Addr) (la ca lb cb : Nat) (xs ys : List Nat) (w : World) (ha : Sl w a0 la ca xs) (hb : Sl w b0 lb cb ys) (hra : la ≤ 1000000) (hrb : lb ≤ 1000000) :
    Calls Try.prog 25 #[.slice a0 la ca, .slice b0 lb cb] w (NewSl w (limbs (val xs * val ys))) := by
  obtain ⟨i0, hi, hz0, hz1, hz2⟩ := info_parts Try.info_int
  have HYL : Hid (val ys < 10 ^ lb) := by have := val_lt ys hb.wf; rwa [hb.len] at this
  have HXL : Hid (∀ i, val (xs.take i) < 10 ^ i) := fun i => take_val_lt ha.wf i
  have HYT : Hid (∀ k, lb ≤ k → val (ys.take k) = val ys) := fun k hk => by rw [List.take_of_length_le (by rw [hb.len]; exact hk)]
  go_enter Try.func25, Try.ntmps25
  go_wp2_with (at_make; refine wpList_make_full _ rfl _ _ 26 rfl w.heap.size 3 i0 (.int .i64 0) 1 Try.underD hi hz0 hz1 _ _ _ _ (la + lb + 1) rfl rfl (by omega) (by omega) ?b2 ?b3 (Nat.le_refl _) ?_)
  case b2 => rw [hz2]; omega
  case b3 => unfold maxLen; omega
  intro w1 hown1 hgrow1
  rw [made_int] at hown1
  have hb1 : Below w.heap.size w w1 := (Below.refl _ _).grown hgrow1 (Nat.le_refl _) (fun k h => by cases h)
  have hO1 : Own w.heap.size w1 (some ⟨w.heap.size, 0, none⟩) (la + lb + 1) (la + lb + 1) (List.replicate (la + lb + 1) 0) :=
    ⟨hown1, by omega, fun x hx => by rw [(List.mem_replicate.1 hx).2]; omega⟩
  clear hown1 hgrow1
  have hI1 : MulInv w.heap.size w.heap.size (la + lb + 1) w (val (xs.take 0) * val ys) 0 0 w1 := ⟨_, hO1, hb1, by rw [val_replicate]; simp [val]⟩
  clear hO1 hb1
  go_wp2_with fail
  go_loopw [6] (fun i wr => ∃ k : Nat, k ≤ la ∧ i = .int .i64 ((k : Nat) : Int) ∧ MulInv w.heap.size w.heap.size (la + lb + 1) w (val (xs.take k) * val ys) 0 0 wr) (fun i _ => la - (intOf i).toNat)
  case atStart => exact ⟨0, Nat.zero_le _, rfl, hI1⟩
  case round =>
    clear hI1
    obtain ⟨i, hila, rfl, hI⟩ := hrel
    obtain ⟨wo, rfl⟩ : ∃ wo : World, wo = wr := ⟨_, rfl⟩
    by_cases hin : i < la
    · obtain ⟨S0, hS0⟩ : ∃ S0, S0 = val (xs.take i) * val ys := ⟨_, rfl⟩
      rw [← hS0] at hI
      have HS0 := Lib.hid hS0
      have HTOT : Hid (S0 + 10 ^ i * xs.getD i 0 * val ys = val (xs.take (i + 1)) * val ys) := mul_row hS0
      have HTOTL : Hid (val (xs.take (i + 1)) * val ys < 10 ^ (i + 1 + lb)) := by
        rw [Hid, Nat.pow_add]
        have h1 := HXL.out (i + 1)
        have h2 := HYL.out
        rcases Nat.eq_zero_or_pos (val ys) with h3 | h3
        · rw [h3, Nat.mul_zero]; exact Nat.mul_pos (Nat.pow_pos (by omega)) (Nat.pow_pos (by omega))
        · exact Nat.lt_of_lt_of_le (Nat.mul_lt_mul_of_pos_right h1 h3) (Nat.mul_le_mul_left _ (by omega))
      clear hS0
      obtain ⟨pa, offa, rfl, hpa, hca⟩ := ha.at (by omega)
      have HCA : Hid (w.cell? ⟨pa, offa + i, none⟩ = some (.int .i64 (xs.getD i 0 : Nat))) := hca i (by omega)
      have hxl := ha.getD_lt i
      obtain ⟨x, hx⟩ : ∃ x, x = xs.getD i 0 := ⟨_, rfl⟩
      rw [← hx] at HCA hxl HTOT
      clear hx hca
      have hI2 : MulInv w.heap.size w.heap.size (la + lb + 1) w (S0 + 10 ^ i * x * val (ys.take 0)) (i + 0) 0 wo := by
        obtain ⟨zs, h1, h2, h3⟩ := hI
        exact ⟨zs, h1, h2, by simp [val] at h3 ⊢; exact h3⟩
      clear hI
      go_wp2_with fail
      go_loopw [7, 8] (fun c kk wr => ∃ k cc : Nat, k ≤ lb + 1 ∧ cc ≤ 9 ∧ kk = .int .i64 ((k : Nat) : Int) ∧ c = .int .i64 ((cc : Nat) : Int) ∧ MulInv w.heap.size w.heap.size (la + lb + 1) w (S0 + 10 ^ i * x * val (ys.take k)) (i + k) cc wr) (fun _ kk _ => lb + 1 - (intOf kk).toNat)
      case atStart => exact ⟨0, 0, Nat.zero_le _, Nat.zero_le _, rfl, rfl, hI2⟩
      case round =>
        clear hI2
        obtain ⟨k, cc, hk, hcc, rfl, rfl, zs, hO, hB, hV⟩ := hrel
        have hac : wr.cell? ⟨pa, offa + i, none⟩ = some (.int .i64 ((x : Nat) : Int)) := (hB.cell (by exact hpa)).trans HCA.out
        by_cases hkb : k < lb
        · obtain ⟨pb, offb, rfl, hpb, hcb⟩ := hb.at (by omega)
          have hbc : wr.cell? ⟨pb, offb + k, none⟩ = some (.int .i64 (ys.getD k 0 : Nat)) := (hB.cell (by exact hpb)).trans (hcb k (by omega))
          have hyl := hb.getD_lt k
          have hzc := hO.cell (i + k) (by omega)
          have hzf := hO.frozen (i + k)
          have hzl := hO.getD_lt (i + k)
          have hstep := mul_step (m := x * ys.getD k 0) (by rw [hO.len]; omega) hV
          rw [mul_sum, val_take_any ys k] at hstep
          obtain ⟨y, hy⟩ : ∃ y, y = ys.getD k 0 := ⟨_, rfl⟩
          obtain ⟨z, hz⟩ : ∃ z, z = zs.getD (i + k) 0 := ⟨_, rfl⟩
          rw [← hy] at hbc hyl hstep
          rw [← hz] at hzc hzl hstep
          have hml : x * y ≤ 81 := Nat.mul_le_mul (show x ≤ 9 by omega) (show y ≤ 9 by omega)
          obtain ⟨m, hm⟩ : ∃ m, m = x * y := ⟨_, rfl⟩
          have hmI : ((x : Nat) : Int) * ((y : Nat) : Int) = ((m : Nat) : Int) := by rw [hm, Int.natCast_mul]
          rw [← hm] at hstep hml
          have HST := Lib.hid hstep
          clear hy hz hm hV hstep hcb
          have hii : ((i : Nat) : Int) < ((la : Nat) : Int) := by omega
          have hkk : ((k : Nat) : Int) < ((lb : Nat) : Int) := by omega
          go_wp2_with fail
          have hw1 : IntKind.i64.wrap ((m : Nat) : Int) = ((m : Nat) : Int) := wrap_i64 _ (by omega)
          have hw2 : IntKind.i64.wrap (((cc : Nat) : Int) + ((z : Nat) : Int) + ((m : Nat) : Int)) = ((cc : Nat) : Int) + ((z : Nat) : Int) + ((m : Nat) : Int) := IntWalk.i64_in _ (by omega)
          go_quiet (fail)
          clear hw1 hw2
          go_wp2_with fail
          go_roundw
          case rel => exact ⟨k + 1, (cc + z + m) / 10, by omega, by omega, by go_num, by go_num, _, by have := (hO.drewN nq).set (i + k) ((cc + z + m) % 10) (Nat.mod_lt _ (by omega)); simpa using this, (hB.trans (below_drewN _ _ nq)).setCell (Nat.le_refl _) _, by rw [← Nat.add_assoc]; exact HST.out⟩
          case measure => simp [intOf]; omega
        · have hkd : decide (k < lb) = false := by simp; omega
          have hS2 : val zs + 10 ^ (i + k) * cc = val (xs.take (i + 1)) * val ys := by
            rw [HYT.out k (by omega), HTOT.out] at hV
            exact hV
          by_cases hc0 : 0 < cc
          · have hik : k ≤ lb := by
              rcases Nat.lt_or_ge lb k with h | h
              · obtain rfl : k = lb + 1 := by omega
                have h1 := HTOTL.out
                have h2 : 10 ^ (i + (lb + 1)) * 1 ≤ 10 ^ (i + (lb + 1)) * cc := Nat.mul_le_mul_left _ hc0
                rw [show i + 1 + lb = i + (lb + 1) from by omega] at h1
                omega
              · exact h
            have hzc := hO.cell (i + k) (by omega)
            have hzf := hO.frozen (i + k)
            have hzl := hO.getD_lt (i + k)
            have hstep := mul_step (m := 0) (by rw [hO.len]; omega) hV
            rw [Nat.mul_zero, Nat.add_zero, HYT.out k (by omega), ← HYT.out (k + 1) (by omega)] at hstep
            obtain ⟨z, hz⟩ : ∃ z, z = zs.getD (i + k) 0 := ⟨_, rfl⟩
            rw [← hz] at hzc hzl hstep
            have HST := Lib.hid hstep
            clear hz hV hstep hS2
            go_wp2_with fail
            go_roundw
            case rel => exact ⟨k + 1, (cc + z + 0) / 10, by omega, by omega, by go_num, by go_num, _, by have := hO.set (i + k) ((cc + z + 0) % 10) (Nat.mod_lt _ (by omega)); simpa using this, hB.setCell (Nat.le_refl _) _, by rw [← Nat.add_assoc]; exact HST.out⟩
            case measure => simp [intOf]; omega
          · have hcd : decide (0 < cc) = false := by simp; omega
            have hI3 : MulInv w.heap.size w.heap.size (la + lb + 1) w (val (xs.take (i + 1)) * val ys) 0 0 wr := by
              refine ⟨zs, hO, hB, ?_⟩
              obtain rfl : cc = 0 := by omega
              simpa using hS2
            clear hV hS2
            go_wp2_with fail
            go_roundw
            case rel => exact ⟨i + 1, by omega, by go_num, hI3⟩
            case measure => simp [intOf]; omega
    · obtain rfl : i = la := by omega
      obtain ⟨zs, hO, hB, hV⟩ := hI
      have hcut := trim_own _ _ _ _ _ _ hO
      have ht : val zs = val xs * val ys := by
        rw [take_all xs i ha.len] at hV
        simpa using hV
      rw [ht] at hcut
      have HCUT := Lib.hid hcut
      clear ht hV hcut
      go_wp2_with fail
      refine HCUT.out.mono fun e w' h => ?_
      obtain ⟨ao2, kk, cap2, rfl, h3, rfl⟩ := h
      go_wp2_with fail
      go_ret
      exact ⟨_, _, _, rfl, h3, hB⟩
end Go.Proofs.Ytkopkmbijmofjaa.Dg

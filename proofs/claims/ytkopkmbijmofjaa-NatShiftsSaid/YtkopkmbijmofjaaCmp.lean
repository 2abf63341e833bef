/-
  The contracts of nat.sign, nat.mayShift, nat.Cmp.
-/
import Derived.Test.YtkopkmbijmofjaaTrim
import Derived.Deep.QuietTactic
import Derived.BigQuiet
namespace Go.Proofs.Ytkopkmbijmofjaa
open Go.RowKit

set_option maxHeartbeats 400000 in
theorem sign_yes (w : World) : Calls Try.prog 39 #[.bool true] w fun e w' => e = .returned (.int .i64 1) ∧ w = w' := by
  go_enter Try.func39, Try.ntmps39
  go_wp2
  go_ret
  exact ⟨rfl, rfl⟩

set_option maxHeartbeats 400000 in
theorem sign_no (w : World) : Calls Try.prog 39 #[.bool false] w fun e w' => e = .returned (.int .i64 (-1)) ∧ w = w' := by
  go_enter Try.func39, Try.ntmps39
  go_wp2
  go_ret
  exact ⟨rfl, rfl⟩

def sgnB (b : Bool) : Int := if b then 1 else -1

/-- A call that answers v, and changes nothing but the count of draws. -/
def RetDrew (v : Value) (w : World) (e : Ending) (w' : World) : Prop := e = .returned v ∧ ∃ k, w' = w.drewN k

theorem sign_any (b : Bool) (w : World) : Calls Try.prog 39 #[.bool b] w fun e w' => e = .returned (.int .i64 (sgnB b)) ∧ w = w' := by
  cases b
  · exact sign_no w
  · exact sign_yes w

set_option maxHeartbeats 400000 in
theorem may_yes (n : Int) (w : World) (h0 : 0 ≤ n) (h1 : n ≤ 1048576) : Calls Try.prog 40 #[.int .i64 n] w fun e w' => e = .returned (.bool true) ∧ w = w' := by
  go_enter Try.func40, Try.ntmps40
  go_wp2
  go_ret
  exact ⟨rfl, rfl⟩

set_option maxHeartbeats 400000 in
theorem may_no (n : Int) (w : World) (h : n < 0 ∨ 1048576 < n) : Calls Try.prog 40 #[.int .i64 n] w fun e w' => e = .returned (.bool false) ∧ w = w' := by
  rcases h with h | h
  · have hd : decide (0 ≤ n) = false := by simp; omega
    go_enter Try.func40, Try.ntmps40
    go_wp2
    go_ret
    exact ⟨rfl, rfl⟩
  · have hd : decide (n ≤ 1048576) = false := by simp; omega
    go_enter Try.func40, Try.ntmps40
    go_wp2
    go_ret
    exact ⟨rfl, rfl⟩

/-- Two numbers of unlike lengths. -/
theorem cmp_lens_any (a0 b0 : Option Addr) (la ca lb cb : Nat) (xs ys : List Nat) (w : World) (ha : Sl w a0 la ca xs) (hb : Sl w b0 lb cb ys) (hne : nl xs ≠ nl ys) :
    Calls Try.prog 16 #[.slice a0 la ca, .slice b0 lb cb] w (RetDrew (.int .i64 (cmpN (val xs) (val ys))) w) := by
  have H : Hid (cmpN (val xs) (val ys) = if nl ys < nl xs then 1 else -1) := cmp_lens ha.wf hb.wf hne
  have n1 := nl_le xs
  have n2 := nl_le ys
  rw [ha.len] at n1
  rw [hb.len] at n2
  have b1 := ha.big
  have b2 := hb.big
  have l1 := ha.le
  have l2 := hb.le
  obtain ⟨n, hn⟩ : ∃ n, n = nl xs := ⟨_, rfl⟩
  obtain ⟨m, hm⟩ : ∃ m, m = nl ys := ⟨_, rfl⟩
  rw [← hn, ← hm] at H hne
  rw [← hn] at n1
  rw [← hm] at n2
  have HN : Hid (nl xs = n) := hn.symm
  have HM : Hid (nl ys = m) := hm.symm
  clear hn hm
  have hne1 : (((n : Nat) : Int) != ((m : Nat) : Int)) = true := by simp; omega
  have hne2 : (n != m) = true := by simp; omega
  go_enter Try.func16, Try.ntmps16
  go_wp2_with fail
  refine (length_is n _ _ _ _ _ ha HN).mono ?_
  rintro e w' ⟨rfl, rfl⟩
  go_wp2_with fail
  refine (length_is m _ _ _ _ _ hb HM).mono ?_
  rintro e w' ⟨rfl, rfl⟩
  go_wp2_with fail
  refine (sign_any _ _).mono ?_
  rintro e w' ⟨rfl, rfl⟩
  go_wp2_with fail
  go_ret
  refine ⟨ret_int ?_, 0, rfl⟩
  rw [H.out]
  simp [sgnB]

set_option maxHeartbeats 1000000 in
theorem cmp_any (a0 b0 : Option Addr) (la ca lb cb : Nat) (xs ys : List Nat) (w : World) (ha : Sl w a0 la ca xs) (hb : Sl w b0 lb cb ys) :
    Calls Try.prog 16 #[.slice a0 la ca, .slice b0 lb cb] w (RetDrew (.int .i64 (cmpN (val xs) (val ys))) w) := by
  by_cases hne : nl xs ≠ nl ys
  · exact cmp_lens_any _ _ _ _ _ _ _ _ _ ha hb hne
  have n1 := nl_le xs
  have n2 := nl_le ys
  rw [ha.len] at n1
  rw [hb.len] at n2
  have b1 := ha.big
  have b2 := hb.big
  have l1 := ha.le
  have l2 := hb.le
  obtain ⟨n, hn⟩ : ∃ n, n = nl xs := ⟨_, rfl⟩
  have hn2 : nl ys = n := by rw [hn]; exact (Classical.not_not.1 hne).symm
  rw [← hn] at n1
  rw [hn2] at n2
  have HN : Hid (nl xs = n) := hn.symm
  have HM : Hid (nl ys = n) := hn2
  clear hn hn2 hne
  go_enter Try.func16, Try.ntmps16
  go_wp2_with fail
  refine (length_is n _ _ _ _ _ ha HN).mono ?_
  rintro e w' ⟨rfl, rfl⟩
  go_wp2_with fail
  refine (length_is n _ _ _ _ _ hb HM).mono ?_
  rintro e w' ⟨rfl, rfl⟩
  go_wp2_with fail
  go_loopw [7, 8, 9, 22] (fun _ _ _ i wr => ∃ k : Nat, k ≤ n ∧ i = .int .i64 k ∧ Hid (∀ t, n ≤ t + k → t < n → xs.getD t 0 = ys.getD t 0) ∧ ∃ q, wr = w.drewN q) (fun _ _ _ i _ => n - (intOf i).toNat)
  case atStart => exact ⟨0, Nat.zero_le _, rfl, fun t h1 h2 => by omega, 0, rfl⟩
  case round =>
    obtain ⟨k, hk, rfl, heq, q, rfl⟩ := hrel
    by_cases hkn : k < n
    · obtain ⟨b, off, rfl, _, hca⟩ := ha.at (by omega)
      obtain ⟨b', off', rfl, _, hcb⟩ := hb.at (by omega)
      have ha1 := hca (n - 1 - k) (by omega)
      have hb1 := hcb (n - 1 - k) (by omega)
      have HJ : Hid (n - 1 - k < n ∧ ∀ t, n - 1 - k < t ↔ n ≤ t + k) := ⟨by omega, fun t => by omega⟩
      obtain ⟨x, hx⟩ : ∃ x, x = xs.getD (n - 1 - k) 0 := ⟨_, rfl⟩
      obtain ⟨y, hy⟩ : ∃ y, y = ys.getD (n - 1 - k) 0 := ⟨_, rfl⟩
      rw [← hx] at ha1
      rw [← hy] at hb1
      have HX := Lib.hid hx
      have HY := Lib.hid hy
      clear hx hy hca hcb
      by_cases hxy : x = y
      · subst hxy
        have e1 : (((x : Nat) : Int) != ((x : Nat) : Int)) = false := by simp
        go_wp2
        go_quiet (fail)
        go_wp2
        go_roundw
        case rel =>
          refine ⟨k + 1, by omega, by go_num, fun t h1 h2 => ?_, _, rfl⟩
          by_cases h3 : n ≤ t + k
          · exact heq.out t h3 h2
          · obtain rfl : t = n - 1 - k := by omega
            rw [← HX.out, ← HY.out]
        case measure => simp [intOf]; omega
      · have e1 : (((x : Nat) : Int) != ((y : Nat) : Int)) = true := by simp; omega
        have e2 : (x != y) = true := by simp; omega
        have H : Hid (cmpN (val xs) (val ys) = if y < x then 1 else -1) := by
          show _ = _
          rw [HX.out, HY.out]
          exact cmp_at ha.wf hb.wf n _ HN.out HM.out HJ.out.1 (fun i h1 h2 => heq.out i ((HJ.out.2 i).1 h1) h2) (by rw [← HX.out, ← HY.out]; exact hxy)
        go_wp2
        go_quiet (fail)
        go_wp2_with fail
        refine (sign_any _ _).mono ?_
        rintro e w' ⟨rfl, rfl⟩
        go_wp2_with fail
        go_ret
        refine ⟨ret_int ?_, _, rfl⟩
        rw [H.out]
        simp [sgnB]
    · go_wp2
      go_ret
      refine ⟨ret_int ?_, _, rfl⟩
      exact (cmp_same n HN.out HM.out (fun t ht => heq.out t (by omega) ht)).symm

end Go.Proofs.Ytkopkmbijmofjaa

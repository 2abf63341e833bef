/-
  The contract of porismref01.Cmp.
-/
import Derived.Test.YtkopkmbijmofjaaROf
import Derived.Test.YtkopkmbijmofjaaSame
namespace Go.Proofs.Ytkopkmbijmofjaa.Dg
open Go.RowKit

theorem nl_lim {a n : Nat} (h : (limbs a).length = n) : nl (limbs a) = n := by rw [nl_limbs, h]

set_option maxHeartbeats 400000 in
theorem cmp_lens_any (a0 b0 : Option Addr) (la ca lb cb a b : Nat) (w : World) (ha : Sl w a0 la ca (limbs a)) (hb : Sl w b0 lb cb (limbs b)) (hne : la ≠ lb) :
    Calls Try.prog 17 #[.slice a0 la ca, .slice b0 lb cb] w (Go.Proofs.Ytkopkmbijmofjaa.RetB (.int .i64 (cmpN a b)) w) := by
  have hcl := cmp_lens ha.wf hb.wf (by rw [nl_lim ha.len, nl_lim hb.len]; exact hne)
  rw [nl_lim ha.len, nl_lim hb.len, val_limbs, val_limbs] at hcl
  have b1 := ha.big
  have b2 := hb.big
  have hne1 : (((la : Nat) : Int) != ((lb : Nat) : Int)) = true := by simp; omega
  have hne2 : (la != lb) = true := by simp; omega
  by_cases hlt : la < lb
  · have H : Hid (cmpN a b = -1) := by rw [Hid, hcl, if_neg (by omega)]
    clear hcl
    go_enter Try.func17, Try.ntmps17
    go_wp2
    go_ret
    exact ⟨by rw [H.out]; rfl, Below.refl _ _⟩
  · have H : Hid (cmpN a b = 1) := by rw [Hid, hcl, if_pos (by omega)]
    have hd : decide (la < lb) = false := by simp; omega
    clear hcl
    go_enter Try.func17, Try.ntmps17
    go_wp2
    go_ret
    exact ⟨by rw [H.out]; rfl, Below.refl _ _⟩

set_option maxHeartbeats 1000000 in
theorem cmp_any (a0 b0 : Option Addr) (la ca lb cb a b : Nat) (w : World) (ha : Sl w a0 la ca (limbs a)) (hb : Sl w b0 lb cb (limbs b)) :
    Calls Try.prog 17 #[.slice a0 la ca, .slice b0 lb cb] w (Go.Proofs.Ytkopkmbijmofjaa.RetB (.int .i64 (cmpN a b)) w) := by
  by_cases hne : la ≠ lb
  · exact cmp_lens_any _ _ _ _ _ _ _ _ _ ha hb hne
  obtain rfl : la = lb := by omega
  clear hne
  have b1 := ha.big
  have HN1 := Lib.hid (nl_lim ha.len)
  have HN2 := Lib.hid (nl_lim hb.len)
  have hne : (((la : Nat) : Int) != ((la : Nat) : Int)) = false := by simp
  go_enter Try.func17, Try.ntmps17
  go_wp2
  go_loopw [5] (fun i wr => ∃ j : Nat, j ≤ la ∧ i = .int .i64 ((j : Int) - 1) ∧ Hid (∀ t, j ≤ t → t < la → (limbs a).getD t 0 = (limbs b).getD t 0) ∧ ∃ q, wr = w.drewN q) (fun i _ => (intOf i + 1).toNat)
  case atStart => exact ⟨la, Nat.le_refl _, rfl, fun t h1 h2 => by omega, 0, rfl⟩
  case round =>
    obtain ⟨j, hj, rfl, heq, q, rfl⟩ := hrel
    by_cases hj0 : j = 0
    · subst hj0
      have H : Hid (cmpN a b = 0) := by
        have := cmp_same la HN1.out HN2.out (fun i hi => heq.out i (Nat.zero_le _) hi)
        rw [val_limbs, val_limbs] at this
        exact this
      go_wp2
      go_ret
      exact ⟨by rw [H.out]; rfl, below_drewN _ _ _⟩
    · obtain ⟨i, rfl⟩ : ∃ i, j = i + 1 := ⟨j - 1, by omega⟩
      have ei : ((i + 1 : Nat) : Int) - 1 = (i : Int) := by omega
      rw [ei]
      clear ei
      obtain ⟨p, off, rfl, _, hca⟩ := ha.at (by omega)
      obtain ⟨p', off', rfl, _, hcb⟩ := hb.at (by omega)
      have ha1 := hca i (by omega)
      have hb1 := hcb i (by omega)
      have HW := Lib.hid ha.wf
      have HW2 := Lib.hid hb.wf
      obtain ⟨x, hx⟩ : ∃ x, x = (limbs a).getD i 0 := ⟨_, rfl⟩
      obtain ⟨y, hy⟩ : ∃ y, y = (limbs b).getD i 0 := ⟨_, rfl⟩
      rw [← hx] at ha1
      rw [← hy] at hb1
      have HX := Lib.hid hx
      have HY := Lib.hid hy
      have hin : ((i : Nat) : Int) < ((la : Nat) : Int) := by omega
      clear hx hy hca hcb hj0
      have HAT : Hid (x ≠ y → cmpN a b = if y < x then 1 else -1) := by
        intro hxy
        have := cmp_at HW.out HW2.out la i HN1.out HN2.out (by omega) (fun t h1 h2 => heq.out t (by omega) h2) (by rw [← HX.out, ← HY.out]; exact hxy)
        rw [val_limbs, val_limbs, ← HX.out, ← HY.out] at this
        exact this
      by_cases hxy : x < y
      · have H : Hid (cmpN a b = -1) := by rw [Hid, HAT.out (by omega), if_neg (by omega)]
        have e1 : decide (x < y) = true := by simp; omega
        go_wp2
        go_quiet (fail)
        go_wp2
        go_ret
        exact ⟨by rw [H.out]; rfl, (below_drewN _ _ _).trans (below_drewN _ _ _)⟩
      · have e1 : decide (x < y) = false := by simp; omega
        by_cases hyx : y < x
        · have H : Hid (cmpN a b = 1) := by rw [Hid, HAT.out (by omega), if_pos (by omega)]
          have e2 : decide (y < x) = true := by simp; omega
          go_wp2
          go_quiet (fail)
          go_wp2
          go_quiet (fail)
          go_wp2
          go_ret
          exact ⟨by rw [H.out]; rfl, by first | exact below_drewN _ _ _ | exact (below_drewN _ _ _).trans (below_drewN _ _ _) | exact ((below_drewN _ _ _).trans (below_drewN _ _ _)).trans (below_drewN _ _ _)⟩
        · have e2 : decide (y < x) = false := by simp; omega
          have hE : Hid (∀ t, i ≤ t → t < la → (limbs a).getD t 0 = (limbs b).getD t 0) := by
            intro t h1 h2
            by_cases h3 : t = i
            · subst h3; rw [← HX.out, ← HY.out]; omega
            · exact heq.out t (by omega) h2
          clear heq
          go_wp2
          go_quiet (fail)
          go_wp2
          go_quiet (fail)
          go_wp2
          go_roundw
          case rel => exact ⟨i, by omega, by go_num, hE, _, by first | rfl | (rw [World.drewN_drewN]) | (rw [World.drewN_drewN, World.drewN_drewN])⟩
          case measure => simp [intOf]
end Go.Proofs.Ytkopkmbijmofjaa.Dg

/-
  The contract of porismref07.Same.
-/
import Derived.Test.YtgalcdfleljliaaMMay
set_option maxRecDepth 8192
namespace Go.Proofs.Ytgalcdfleljliaa
open Go.RowKit

theorem ext_getD {xs ys : List (Int × Int)} (hl : xs.length = ys.length) (h : ∀ t, t < xs.length → xs.getD t (0, 0) = ys.getD t (0, 0)) : xs = ys := by
  refine List.ext_getElem hl fun t h1 h2 => ?_
  have := h t h1
  simpa [List.getD, List.getElem?_eq_getElem h1, List.getElem?_eq_getElem h2] using this

set_option maxHeartbeats 1000000 in
theorem same7_yes {a0 b0 : Option Addr} {la ca lb cb : Nat} {xs ys : List (Int × Int)} {w : World} (ha : Ml w a0 la ca xs) (hb : Ml w b0 lb cb ys) (h : xs = ys) :
    Calls Try.prog 15 #[.slice a0 la ca, .slice b0 lb cb] w (RetB (.bool true) w) := by
  subst h
  obtain rfl : la = lb := by rw [← ha.len, hb.len]
  have hle := ha.le
  have hle2 := hb.le
  have hbig := ha.big
  have HA := Lib.hid ha
  have HB := Lib.hid hb
  clear ha hb
  go_enter Try.func15, Try.ntmps15
  go_wp2
  go_loopw [5] (fun i wr => ∃ k : Nat, k ≤ la ∧ i = .int .i64 k ∧ Hid (Ml wr a0 la ca xs ∧ Ml wr b0 la cb xs ∧ Below w.heap.size w wr)) (fun i _ => la - (intOf i).toNat)
  case atStart => exact ⟨0, Nat.zero_le _, rfl, HA.out, HB.out, Below.refl _ _⟩
  case round =>
    clear HA HB
    obtain ⟨k, hk, rfl, HS⟩ := hrel
    by_cases hkn : k < la
    · obtain ⟨b, off, rfl, hlt, hc⟩ := HS.out.1.at (by omega)
      obtain ⟨c1, c2⟩ := hc k hkn
      clear hc
      obtain ⟨b2, off2, rfl, hlt2, hc⟩ := HS.out.2.1.at (by omega)
      obtain ⟨c3, c4⟩ := hc k hkn
      clear hc
      obtain ⟨v, hv⟩ : ∃ v, v = (xs.getD k (0, 0)).1 := ⟨_, rfl⟩
      obtain ⟨e, he⟩ : ∃ v, v = (xs.getD k (0, 0)).2 := ⟨_, rfl⟩
      rw [← hv] at c1 c3
      rw [← he] at c2 c4
      clear hv he
      go_wp2
      go_quiet (fail)
      go_wp2
      go_roundw
      case rel => exact ⟨k + 1, by omega, by go_num, HS.out.1.below (_root_.Go.below_drewN (Below.refl _ _) _), HS.out.2.1.below (_root_.Go.below_drewN (Below.refl _ _) _), HS.out.2.2.trans (_root_.Go.below_drewN (Below.refl _ _) _)⟩
      case measure => simp [intOf]; omega
    · obtain rfl : k = la := by omega
      go_wp2
      go_ret
      exact ⟨rfl, HS.out.2.2⟩

theorem drop_ne {xs ys : List (Int × Int)} {k : Nat} (h1 : k < xs.length) (h2 : k < ys.length) (h : xs.drop k ≠ ys.drop k) (he : xs.getD k (0, 0) = ys.getD k (0, 0)) : xs.drop (k + 1) ≠ ys.drop (k + 1) := by
  intro hd
  refine h ?_
  rw [List.drop_eq_getElem_cons h1, List.drop_eq_getElem_cons h2, hd]
  congr 1
  simpa [List.getD, List.getElem?_eq_getElem h1, List.getElem?_eq_getElem h2] using he

set_option maxHeartbeats 1000000 in
theorem same7_no {a0 b0 : Option Addr} {la ca lb cb : Nat} {xs ys : List (Int × Int)} {w : World} (ha : Ml w a0 la ca xs) (hb : Ml w b0 lb cb ys) (h : xs ≠ ys) :
    Calls Try.prog 15 #[.slice a0 la ca, .slice b0 lb cb] w (RetB (.bool false) w) := by
  by_cases hl : la = lb
  · subst hl
    have hle := ha.le
    have hle2 := hb.le
    have hbig := ha.big
    have HN := Lib.hid h
    have HA := Lib.hid ha
    have HB := Lib.hid hb
    clear ha hb h
    go_enter Try.func15, Try.ntmps15
    go_wp2
    go_loopw [5] (fun i wr => ∃ k : Nat, k ≤ la ∧ i = .int .i64 k ∧ Hid (xs.drop k ≠ ys.drop k) ∧ Hid (Ml wr a0 la ca xs ∧ Ml wr b0 la cb ys ∧ Below w.heap.size w wr)) (fun i _ => la - (intOf i).toNat)
    case atStart => exact ⟨0, Nat.zero_le _, rfl, by rw [Hid]; simpa using HN.out, HA.out, HB.out, Below.refl _ _⟩
    case round =>
      clear HA HB HN
      obtain ⟨k, hk, rfl, HD, HS⟩ := hrel
      have hkn : k < la := by
        rcases Nat.lt_or_ge k la with h | h
        · exact h
        · exact absurd (by rw [List.drop_eq_nil_of_le (by rw [HS.out.1.len]; exact h), List.drop_eq_nil_of_le (by rw [HS.out.2.1.len]; exact h)]) HD.out
      obtain ⟨b, off, rfl, hlt, hc⟩ := HS.out.1.at (by omega)
      obtain ⟨c1, c2⟩ := hc k hkn
      clear hc
      obtain ⟨b2, off2, rfl, hlt2, hc⟩ := HS.out.2.1.at (by omega)
      obtain ⟨c3, c4⟩ := hc k hkn
      clear hc
      have HD2 := Lib.hid (drop_ne (by rw [HS.out.1.len]; exact hkn) (by rw [HS.out.2.1.len]; exact hkn) HD.out)
      obtain ⟨v, hv⟩ : ∃ v, v = (xs.getD k (0, 0)).1 := ⟨_, rfl⟩
      obtain ⟨e, he⟩ : ∃ v, v = (xs.getD k (0, 0)).2 := ⟨_, rfl⟩
      obtain ⟨v2, hv2⟩ : ∃ v, v = (ys.getD k (0, 0)).1 := ⟨_, rfl⟩
      obtain ⟨e2, he2⟩ : ∃ v, v = (ys.getD k (0, 0)).2 := ⟨_, rfl⟩
      rw [← hv] at c1
      rw [← he] at c2
      rw [← hv2] at c3
      rw [← he2] at c4
      have HQ : Hid (v = v2 → e = e2 → xs.getD k (0, 0) = ys.getD k (0, 0)) := fun h1 h2 => Prod.ext (by rw [← hv, ← hv2, h1]) (by rw [← he, ← he2, h2])
      clear hv he hv2 he2
      by_cases g1 : v = v2
      · subst g1
        by_cases g2 : e = e2
        · subst g2
          go_wp2
          go_quiet (fail)
          go_wp2
          go_roundw
          case rel => exact ⟨k + 1, by omega, by go_num, HD2.out (HQ.out (by simp) (by simp)), HS.out.1.below (_root_.Go.below_drewN (Below.refl _ _) _), HS.out.2.1.below (_root_.Go.below_drewN (Below.refl _ _) _), HS.out.2.2.trans (_root_.Go.below_drewN (Below.refl _ _) _)⟩
          case measure => simp [intOf]; omega
        · clear HD2 HQ
          have f1 : (e == e2) = false := by simpa using g2
          clear g2
          go_wp2
          go_quiet (fail)
          go_wp2
          go_ret
          exact ⟨rfl, HS.out.2.2.trans (_root_.Go.below_drewN (Below.refl _ _) _)⟩
      · clear HD2 HQ
        have f1 : (v == v2) = false := by simpa using g1
        clear g1
        go_wp2
        go_quiet (fail)
        go_wp2
        go_ret
        exact ⟨rfl, HS.out.2.2.trans (_root_.Go.below_drewN (Below.refl _ _) _)⟩
  · have f1 : ((la : Int) == (lb : Int)) = false := by simp; omega
    have f2 : ((la : Int) != (lb : Int)) = true := by simp; omega
    go_enter Try.func15, Try.ntmps15
    go_wp2
    go_ret
    exact ⟨rfl, Below.refl _ _⟩

theorem same7_any (r : Bool) {a0 b0 : Option Addr} {la ca lb cb : Nat} {xs ys : List (Int × Int)} {w : World} (ha : Ml w a0 la ca xs) (hb : Ml w b0 lb cb ys) (h : decide (xs = ys) = r) :
    Calls Try.prog 15 #[.slice a0 la ca, .slice b0 lb cb] w (RetB (.bool r) w) := by
  subst h
  by_cases h : xs = ys
  · rw [decide_eq_true h]; exact same7_yes ha hb h
  · rw [decide_eq_false h]; exact same7_no ha hb h

end Go.Proofs.Ytgalcdfleljliaa

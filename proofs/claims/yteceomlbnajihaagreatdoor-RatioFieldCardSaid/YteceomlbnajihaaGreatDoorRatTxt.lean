/-
  Which texts are a quotient's, and of which: plain facts.
-/
import Derived.Test.YteceomlbnajihaaGreatDoorQTxt
import Derived.Test.YteceomlbnajihaaGreatDoorRx
set_option maxRecDepth 8192
namespace Go.Proofs.YteceomlbnajihaaGreatDoor
open Lib

/-- what stands ahead of the first stroke, and behind it -/
def rtA (l : List UInt8) : List UInt8 := l.take (slashAt l)
def rtB (l : List UInt8) : List UInt8 := if slashAt l < l.length then l.drop (slashAt l + 1) else [49]
def rtOk (l : List UInt8) : Bool := numB (rtA l) && numB (rtB l) && (decide (0 < numZ (rtB l)) && decide (Int.gcd (numZ (rtA l)) (numZ (rtB l)) = 1)) && (decide (slashAt l < l.length) != decide (numZ (rtB l) = 1))
def rtQ (l : List UInt8) : Rat := Rat.divInt (numZ (rtA l)) (numZ (rtB l))

theorem slash_le (l : List UInt8) : slashAt l ≤ l.length := List.findIdx_le_length

theorem rtA_miss {l : List UInt8} (h : ¬ slashAt l < l.length) : rtA l = l := by
  unfold rtA
  exact List.take_of_length_le (by omega)
theorem rtB_miss {l : List UInt8} (h : ¬ slashAt l < l.length) : rtB l = [49] := by unfold rtB; rw [if_neg h]
theorem rtB_hit {l : List UInt8} (h : slashAt l < l.length) : rtB l = l.drop (slashAt l + 1) := by unfold rtB; rw [if_pos h]
theorem num_one : numB [49] = true ∧ numZ [49] = 1 := ⟨by decide +kernel, by decide +kernel⟩

theorem numZ_bd {l : List UInt8} (h : numB l = true) : Bd (numZ l) l.length := by
  unfold Bd
  rw [numZ_abs]
  have h1 := digVal_lt (numB_iff.1 h).2.1
  have h2 : (unsign l).length ≤ l.length := by
    unfold unsign trimPrefix
    split
    · simp
    · exact Nat.le_refl _
  refine Nat.lt_of_lt_of_le h1 (Nat.le_trans (Nat.pow_le_pow_right (by omega) h2) (Nat.pow_le_pow_left (by omega) _))

theorem rt_miss {l : List UInt8} (h : ¬ slashAt l < l.length) : rtOk l = numB l := by
  unfold rtOk
  rw [rtA_miss h, rtB_miss h, num_one.1, num_one.2]
  simp [h]

theorem rt_low {l : List UInt8} (h0 : 0 < numZ (rtB l)) (h1 : Int.gcd (numZ (rtA l)) (numZ (rtB l)) = 1) : (rtQ l).num = numZ (rtA l) ∧ ((rtQ l).den : Int) = numZ (rtB l) := by
  obtain ⟨d, hd⟩ : ∃ d : Nat, numZ (rtB l) = d := ⟨(numZ (rtB l)).toNat, by omega⟩
  unfold rtQ
  rw [hd] at h0 h1 ⊢
  have := q_low (n := numZ (rtA l)) (d := d) (by omega) h1
  exact ⟨this.1, by rw [this.2]⟩

theorem rt_parts {l : List UInt8} (h : rtOk l = true) : numB (rtA l) = true ∧ numB (rtB l) = true ∧ 0 < numZ (rtB l) ∧ Int.gcd (numZ (rtA l)) (numZ (rtB l)) = 1 ∧ (decide (slashAt l < l.length) != decide (numZ (rtB l) = 1)) = true := by
  unfold rtOk at h
  rw [Bool.and_eq_true, Bool.and_eq_true, Bool.and_eq_true, Bool.and_eq_true] at h
  exact ⟨h.1.1.1, h.1.1.2, of_decide_eq_true h.1.2.1, of_decide_eq_true h.1.2.2, h.2⟩

/-- a text with parts that are numbers' is its number's text just if it may be read -/
theorem rt_text {l : List UInt8} (ha : numB (rtA l) = true) (hb : numB (rtB l) = true) (hp : 0 < numZ (rtB l)) : (ratTxt (rtQ l).num (rtQ l).den = l) ↔ rtOk l = true := by
  by_cases h : slashAt l < l.length
  · have e := slash_split h
    have h1 := ratTxt_of ha hb hp
    rw [show rtA l ++ 47 :: rtB l = l by rw [rtB_hit h]; exact e.symm] at h1
    rw [show (Rat.divInt (numZ (rtA l)) (numZ (rtB l))) = rtQ l from rfl] at h1
    rw [h1]
    unfold rtOk
    rw [ha, hb]
    simp [h, hp]
  · rw [rt_miss h]
    rw [rtA_miss h] at ha
    constructor
    · intro _; exact ha
    · intro _
      unfold rtQ
      rw [rtA_miss h, rtB_miss h, num_one.2]
      have h1 : (Rat.divInt (numZ l) 1).num = numZ l ∧ (Rat.divInt (numZ l) 1).den = 1 := by
        have := q_low (n := numZ l) (d := 1) (by omega) (by simp)
        exact this
      rw [h1.1, h1.2, ratTxt_whole]
      exact itoa_numZ ha

/-- a quotient's text is read as it -/
theorem rt_own (q : Rat) : rtOk (ratTxt q.num q.den) = true ∧ rtQ (ratTxt q.num q.den) = q := by
  have hA : rtA (ratTxt q.num q.den) = itoa q.num := ratTxt_take _ _
  have hB : rtB (ratTxt q.num q.den) = itoa (q.den : Int) := by
    unfold rtB
    rw [ratTxt_at]
    unfold ratTxt
    by_cases h : q.den = 1
    · rw [if_pos h, h]
      simp
      decide +kernel
    · rw [if_neg h]
      simp
  have hz : 0 < q.den := Nat.pos_of_ne_zero q.den_nz
  have hq : rtQ (ratTxt q.num q.den) = q := by
    unfold rtQ
    rw [hA, hB, numZ_itoa, numZ_itoa]
    exact Rat.num_divInt_den q
  refine ⟨(rt_text (by rw [hA]; exact numB_itoa _) (by rw [hB]; exact numB_itoa _) (by rw [hB, numZ_itoa]; omega)).1 (by rw [hq]), hq⟩

end Go.Proofs.YteceomlbnajihaaGreatDoor

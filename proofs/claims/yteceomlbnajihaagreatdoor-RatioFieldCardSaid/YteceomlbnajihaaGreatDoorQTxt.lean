/-
  Quotients' texts, in plain lists: where the stroke stands, that texts of unlike quotients are unlike, and which texts with a stroke are a quotient's.
-/
import Derived.Test.YteceomlbnajihaaGreatDoorGTxtA
import Derived.Test.YteceomlbnajihaaGreatDoorQPlain
set_option maxRecDepth 8192
namespace Go.Proofs.YteceomlbnajihaaGreatDoor
open Lib

theorem itoa_slash (z : Int) : ∀ b ∈ itoa z, b ≠ 47 := by
  intro b hb e
  subst e
  have hd : ∀ n, (47 : UInt8) ∉ decDigits n := fun n h => absurd (allDig_mem (dec_all n) 47 h) (by decide)
  by_cases hz : z < 0
  · rw [itoa_neg' hz] at hb
    rcases List.mem_cons.1 hb with h | h
    · exact absurd h (by decide)
    · exact hd _ h
  · rw [itoa_pos' (by omega)] at hb
    exact hd _ hb

/-- the text of n over d: the stroke only where d is not 1 -/
def ratTxt (n : Int) (d : Nat) : List UInt8 := itoa n ++ (if d = 1 then [] else 47 :: itoa (d : Int))

/-- where the first stroke stands, or the text's length -/
def slashAt (l : List UInt8) : Nat := l.findIdx (· == 47)

theorem slash_none {l : List UInt8} (h : ∀ b ∈ l, b ≠ 47) : slashAt l = l.length := by
  unfold slashAt
  rw [List.findIdx_eq_length]
  intro b hb
  simpa using h b hb

theorem slash_some {l r : List UInt8} (h : ∀ b ∈ l, b ≠ 47) : slashAt (l ++ 47 :: r) = l.length := by
  unfold slashAt
  rw [List.findIdx_append, if_neg, List.findIdx_cons]
  · simp
  · intro hc
    have h1 := slash_none h
    unfold slashAt at h1
    omega

/-- a text with a stroke is what stands ahead of it, the stroke, and what stands behind -/
theorem slash_split {l : List UInt8} (h : slashAt l < l.length) : l = l.take (slashAt l) ++ 47 :: l.drop (slashAt l + 1) := by
  have h1 : (l[slashAt l] == 47) = true := List.findIdx_getElem (p := (· == 47)) (w := h)
  have h2 : l[slashAt l] = 47 := by simpa using h1
  have h3 := List.take_append_drop (slashAt l) l
  rw [List.drop_eq_getElem_cons h, h2] at h3
  exact h3.symm

theorem ratTxt_at (n : Int) (d : Nat) : slashAt (ratTxt n d) = (itoa n).length := by
  unfold ratTxt
  by_cases h : d = 1
  · rw [if_pos h, List.append_nil]; exact slash_none (itoa_slash n)
  · rw [if_neg h]; exact slash_some (itoa_slash n)

theorem ratTxt_take (n : Int) (d : Nat) : (ratTxt n d).take (slashAt (ratTxt n d)) = itoa n := by
  rw [ratTxt_at]
  unfold ratTxt
  exact List.take_left

theorem ratTxt_inj {n m : Int} {d e : Nat} (h : ratTxt n d = ratTxt m e) : n = m ∧ d = e := by
  have h1 := ratTxt_take n d
  rw [h, ratTxt_take] at h1
  have hn := itoa_inj h1
  subst hn
  refine ⟨rfl, ?_⟩
  unfold ratTxt at h
  have h2 := List.append_cancel_left h
  by_cases hd : d = 1
  · by_cases he : e = 1
    · omega
    · rw [if_pos hd, if_neg he] at h2; cases h2
  · by_cases he : e = 1
    · rw [if_neg hd, if_pos he] at h2; cases h2
    · rw [if_neg hd, if_neg he] at h2
      have h3 := itoa_inj (List.cons.inj h2).2
      omega

/-- numbers are one just if their texts are -/
theorem ratTxt_iff (a b : Rat) : ratTxt a.num a.den = ratTxt b.num b.den ↔ a = b :=
  ⟨fun h => by have := ratTxt_inj h; exact Rat.ext this.1 this.2, fun h => by rw [h]⟩

theorem ratTxt_len {n : Int} {d : Nat} {k : Nat} (h : Bd n k) (hd : Bd (d : Int) k) : (ratTxt n d).length ≤ 20 * k + 5 := by
  have h1 := itoa_len h
  have h2 := itoa_len hd
  unfold ratTxt
  rw [List.length_append]
  by_cases h3 : d = 1
  · rw [if_pos h3]; simp; omega
  · rw [if_neg h3]; simp; omega

/-- without a stroke: the text of a whole number -/
theorem ratTxt_whole (n : Int) : ratTxt n 1 = itoa n := by unfold ratTxt; simp

/-- with a stroke between two numbers' texts, the lower one above 0: it is its number's text just if the parts are in lowest terms and the lower one is not 1 -/
theorem ratTxt_of {a b : List UInt8} (ha : numB a = true) (hb : numB b = true) (hp : 0 < numZ b) :
    (ratTxt (Rat.divInt (numZ a) (numZ b)).num (Rat.divInt (numZ a) (numZ b)).den = a ++ 47 :: b) ↔ ((numZ a).gcd (numZ b) = 1 ∧ numZ b ≠ 1) := by
  have ea := itoa_numZ ha
  have eb := itoa_numZ hb
  obtain ⟨n, hn⟩ : ∃ n, n = numZ a := ⟨_, rfl⟩
  obtain ⟨d, hd⟩ : ∃ d, d = numZ b := ⟨_, rfl⟩
  rw [← hn, ← hd]
  rw [← hn] at ea
  rw [← hd] at eb hp
  obtain ⟨k, rfl⟩ : ∃ k : Nat, d = k := ⟨d.toNat, by omega⟩
  rw [← ea, ← eb]
  constructor
  · intro h
    by_cases h1 : (Rat.divInt n k).den = 1
    · have h2 := congrArg slashAt h
      rw [ratTxt_at, slash_some (itoa_slash n)] at h2
      have h3 := congrArg List.length h
      unfold ratTxt at h3
      rw [if_pos h1] at h3
      simp at h3
      simp at h2
      omega
    · have h2 : ratTxt (Rat.divInt n k).num (Rat.divInt n k).den = ratTxt n k ∨ k = 1 := by
        by_cases hk : k = 1
        · exact Or.inr hk
        · left; rw [h]; unfold ratTxt; rw [if_neg hk]
      rcases h2 with h2 | h2
      · have h3 := ratTxt_inj h2
        have h4 := q_parts (Rat.divInt n k)
        rw [h3.1, h3.2] at h4
        refine ⟨h4, fun e => ?_⟩
        have : k = 1 := by omega
        rw [h3.2] at h1
        exact h1 this
      · subst h2
        exact absurd (by rw [Rat.den_divInt, if_neg (by omega)]; simp) h1
  · rintro ⟨h1, h2⟩
    have h3 := q_low (n := n) (d := k) (by omega) h1
    rw [h3.1, h3.2]
    unfold ratTxt
    rw [if_neg (by omega)]

end Go.Proofs.YteceomlbnajihaaGreatDoor

/-
  In one: TPlain, Bare.
-/
import Derived.Test.YtocdlaakcecieaaDoorGBase
import Derived.Test.YtocdlaakcecieaaDoorGNatB
import Derived.Test.YtocdlaakcecieaaDoorGNatA
set_option maxRecDepth 8192
/- Plain lemmas for layer 2: rows, parts, sums of parts. -/
namespace Go.Proofs.YtocdlaakcecieaaDoor

theorem mulrow_step {zs : List Nat} {p c S m : Nat} (hp : p < zs.length) (h : val zs + 4294967296 ^ p * c = S) :
    val (zs.set p ((m + zs.getD p 0 + c) % 4294967296)) + 4294967296 ^ (p + 1) * ((m + zs.getD p 0 + c) / 4294967296) = S + 4294967296 ^ p * m := by
  have h1 := val_set zs p ((m + zs.getD p 0 + c) % 4294967296) hp
  generalize zs.getD p 0 = u at *
  have h2 : 4294967296 ^ p * ((m + u + c) % 4294967296) + 4294967296 ^ (p + 1) * ((m + u + c) / 4294967296) = 4294967296 ^ p * m + 4294967296 ^ p * u + 4294967296 ^ p * c := by
    rw [Nat.pow_succ, Nat.mul_assoc, ← Nat.mul_add, ← Nat.mul_add, ← Nat.mul_add]
    congr 1
    omega
  omega

theorem row_wide {x n z c : Nat} (hx : x < 4294967296) (hn : n < 4294967296) (hz : z < 4294967296) (hc : c < 4294967296) : x * n ≤ 18446744065119617025 ∧ x * n + z + c < 18446744073709551616 := by
  have h : x * n ≤ 4294967295 * 4294967295 := Nat.mul_le_mul (by omega) (by omega)
  omega

/-- the part of a sum that addRow holds -/
theorem addrow_next {S i k P x n : Nat} (T : Nat) (h : T = S + 4294967296 ^ i * (P * n)) : T + 4294967296 ^ (i + k) * (x * n) = S + 4294967296 ^ i * ((P + 4294967296 ^ k * x) * n) := by
  rw [h, Nat.pow_add, Nat.add_mul, Nat.mul_add]
  have : 4294967296 ^ i * 4294967296 ^ k * (x * n) = 4294967296 ^ i * (4294967296 ^ k * x * n) := by
    simp only [Nat.mul_assoc]
  omega

theorem limbs_len32 {n k : Nat} (h : n < 4294967296 ^ k) : (limbs n).length ≤ k := by
  rcases Nat.lt_or_ge k (limbs n).length with hl | hl
  · obtain ⟨j, hj⟩ : ∃ j, nl (limbs n) = j + 1 := ⟨(limbs n).length - 1, by rw [nl_limbs]; omega⟩
    have h1 := pow_le_of_nl j hj
    rw [val_limbs] at h1
    have h2 : 4294967296 ^ k ≤ 4294967296 ^ j := Nat.pow_le_pow_right (by omega) (by rw [nl_limbs] at hj; omega)
    omega
  · exact hl

theorem mul_lt_pow {a b m n : Nat} (ha : a < 4294967296 ^ m) (hb : b < 4294967296 ^ n) : a * b < 4294967296 ^ (m + n) := by
  rw [Nat.pow_add]
  exact Nat.mul_lt_mul'' ha hb

/-- Karatsuba's sum -/
theorem kara (a0 a1 b0 b1 B : Nat) : a0 * b0 + (a1 * b1) * (B * B) + ((a0 + a1) * (b0 + b1) - a0 * b0 - a1 * b1) * B = (a0 + B * a1) * (b0 + B * b1) := by
  have h : (a0 + a1) * (b0 + b1) - a0 * b0 - a1 * b1 = a0 * b1 + a1 * b0 := by
    rw [Nat.add_mul, Nat.mul_add, Nat.mul_add]; omega
  rw [h]
  simp only [Nat.add_mul, Nat.mul_add]
  have e1 : a1 * b1 * (B * B) = B * a1 * (B * b1) := by
    simp only [Nat.mul_left_comm, Nat.mul_comm]
  have e2 : a0 * b1 * B = a0 * (B * b1) := by
    simp only [Nat.mul_left_comm, Nat.mul_comm]
  have e3 : a1 * b0 * B = B * a1 * b0 := by
    simp only [Nat.mul_left_comm, Nat.mul_comm]
  omega

theorem val_split (xs : List Nat) (h : Nat) (hl : h ≤ xs.length) : val xs = val (xs.take h) + 4294967296 ^ h * val (xs.drop h) := by
  have := val_append (xs.take h) (xs.drop h)
  rw [List.take_append_drop, List.length_take, Nat.min_eq_left hl] at this
  exact this

theorem wf_drop {xs : List Nat} (h : Wf xs) (k : Nat) : Wf (xs.drop k) := fun y hy => h y (List.mem_of_mem_drop hy)

theorem getD_zero_of_take {zs : List Nat} {k V : Nat} (hz : ∀ t, k ≤ t → zs.getD t 0 = 0) (h : val zs = V) : val (zs.take k) = V := by
  by_cases hk : k ≤ zs.length
  · rw [val_split zs k hk] at h
    have : val (zs.drop k) = 0 := by
      have hd : ∀ (l : List Nat), (∀ t, l.getD t 0 = 0) → val l = 0 := by
        intro l
        induction l with
        | nil => intro _; rfl
        | cons x l ih =>
          intro hl
          have h0 := hl 0
          simp at h0
          rw [val_cons, h0, ih (fun t => by have := hl (t + 1); simpa using this)]
      refine hd _ fun t => ?_
      have := hz (k + t) (by omega)
      simpa [List.getD, List.getElem?_drop] using this
    rw [this] at h
    omega
  · rw [List.take_of_length_le (by omega)]; exact h

theorem lt_pow_of_mul {X p n : Nat} (h : X * 4294967296 ^ p < 4294967296 ^ n) (hp : p ≤ n) : X < 4294967296 ^ (n - p) := by
  have e : (4294967296 : Nat) ^ n = 4294967296 ^ (n - p) * 4294967296 ^ p := by rw [← Nat.pow_add]; congr 1; omega
  rw [e] at h
  exact Nat.lt_of_mul_lt_mul_right h

/-- What the parts of two numbers are, cut at half the longer one's length. -/
structure CutFacts (A C na nb h A0 A1 C0 C1 : Nat) : Prop where
  a : A = A0 + 4294967296 ^ h * A1
  c : C = C0 + 4294967296 ^ h * C1
  l0 : A0 + C0 < A + C
  l1 : A1 + C1 < A + C
  lm : A0 + A1 + (C0 + C1) < A + C
  sa : A0 + A1 ≤ A
  sc : C0 + C1 ≤ C
  la : A < 4294967296 ^ na
  lc : C < 4294967296 ^ nb
  low : A0 * C0 < 4294967296 ^ (2 * h)
  high : A1 * C1 < 4294967296 ^ (na + nb - 2 * h)
  mid : (A0 + A1) * (C0 + C1) - A0 * C0 - A1 * C1 < 4294967296 ^ (na + nb - h)
  s1 : A0 * C0 ≤ (A0 + A1) * (C0 + C1)
  s2 : A1 * C1 ≤ (A0 + A1) * (C0 + C1) - A0 * C0
  all : A0 * C0 + 4294967296 ^ (2 * h) * (A1 * C1) + 4294967296 ^ h * ((A0 + A1) * (C0 + C1) - A0 * C0 - A1 * C1) = A * C

theorem part_facts (xs : List Nat) (hw : Wf xs) (h : Nat) (h1 : 1 ≤ h) : val xs = val (xs.take h) + 4294967296 ^ h * val (xs.drop h) ∧ val (xs.take h) < 4294967296 ^ h ∧ (h < nl xs → 0 < val (xs.drop h)) ∧ val (xs.take h) + val (xs.drop h) ≤ val xs := by
  have e1 : val xs = val (xs.take h) + 4294967296 ^ h * val (xs.drop h) := by
    rcases Nat.le_total h xs.length with hl | hl
    · exact val_split xs h hl
    · rw [List.take_of_length_le hl, List.drop_of_length_le hl]; simp [val]
  have e2 : val (xs.take h) < 4294967296 ^ h := by
    have := val_lt _ (hw.take h)
    refine Nat.lt_of_lt_of_le this (Nat.pow_le_pow_right (by omega) ?_)
    rw [List.length_take]; omega
  refine ⟨e1, e2, fun hn => ?_, ?_⟩
  · rcases Nat.eq_zero_or_pos (val (xs.drop h)) with h0 | h0
    · rw [h0] at e1
      obtain ⟨j, hj⟩ : ∃ j, nl xs = j + 1 := ⟨nl xs - 1, by omega⟩
      have h3 := pow_le_of_nl j hj
      have h4 : 4294967296 ^ h ≤ 4294967296 ^ j := Nat.pow_le_pow_right (by omega) (by omega)
      omega
    · exact h0
  · have : 1 * val (xs.drop h) ≤ 4294967296 ^ h * val (xs.drop h) := Nat.mul_le_mul_right _ (Nat.pos_of_ne_zero (by simp))
    omega

theorem pow_two_le {h : Nat} (h1 : 1 ≤ h) : 2 ≤ 4294967296 ^ h := by
  have : (4294967296 : Nat) ^ 1 ≤ 4294967296 ^ h := Nat.pow_le_pow_right (by omega) h1
  omega

theorem cut_facts {A C na nb h : Nat} (hA : (limbs A).length = na) (hC : (limbs C).length = nb) (h2 : 1 ≤ h) (h3 : h < na ∨ h < nb) (h4 : 2 * h ≤ na + nb) :
    CutFacts A C na nb h (val ((limbs A).take h)) (val ((limbs A).drop h)) (val ((limbs C).take h)) (val ((limbs C).drop h)) := by
  obtain ⟨a1, a2, a3, a4⟩ := part_facts (limbs A) (wf_limbs A) h h2
  obtain ⟨c1, c2, c3, c4⟩ := part_facts (limbs C) (wf_limbs C) h h2
  rw [nl_limbs, hA] at a3
  rw [nl_limbs, hC] at c3
  have na' := val_lt (limbs A) (wf_limbs A)
  have nb' := val_lt (limbs C) (wf_limbs C)
  rw [val_limbs] at a1 a4 c1 c4 na' nb'
  rw [hA] at na'
  rw [hC] at nb'
  generalize val ((limbs A).take h) = A0 at *
  generalize val ((limbs A).drop h) = A1 at *
  generalize val ((limbs C).take h) = C0 at *
  generalize val ((limbs C).drop h) = C1 at *
  have hP := pow_two_le h2
  have hAC : A * C < 4294967296 ^ (na + nb) := mul_lt_pow na' nb'
  have e2h : (4294967296 : Nat) ^ (2 * h) = 4294967296 ^ h * 4294967296 ^ h := by rw [Nat.two_mul, Nat.pow_add]
  have hall : A0 * C0 + 4294967296 ^ (2 * h) * (A1 * C1) + 4294967296 ^ h * ((A0 + A1) * (C0 + C1) - A0 * C0 - A1 * C1) = A * C := by
    rw [a1, c1, ← kara, e2h, Nat.mul_comm (A1 * C1), Nat.mul_comm ((A0 + A1) * (C0 + C1) - A0 * C0 - A1 * C1)]
  have hx : (A0 + A1) * (C0 + C1) = A0 * C0 + A1 * C1 + (A0 * C1 + A1 * C0) := by rw [Nat.add_mul, Nat.mul_add, Nat.mul_add]; omega
  have hA1 : A0 + 2 * A1 ≤ A := by
    have := Nat.mul_le_mul_right A1 hP
    omega
  have hC1 : C0 + 2 * C1 ≤ C := by
    have := Nat.mul_le_mul_right C1 hP
    omega
  refine ⟨a1, c1, ?_, ?_, ?_, a4, c4, na', nb', ?_, ?_, ?_, ?_, ?_, hall⟩
  · rcases h3 with h3 | h3
    · have := a3 h3; omega
    · have := c3 h3; omega
  · rcases h3 with h3 | h3
    · have := a3 h3; omega
    · have := c3 h3; omega
  · rcases h3 with h3 | h3
    · have := a3 h3; omega
    · have := c3 h3; omega
  · rw [e2h]; exact Nat.mul_lt_mul'' a2 c2
  · refine lt_pow_of_mul ?_ h4
    rw [Nat.mul_comm]
    omega
  · refine lt_pow_of_mul ?_ (by omega)
    rw [Nat.mul_comm]
    omega
  · omega
  · omega

theorem val_drop_zero {zs : List Nat} {k : Nat} (hz : ∀ t, k ≤ t → zs.getD t 0 = 0) : val (zs.drop k) = 0 := by
  have hd : ∀ (l : List Nat), (∀ t, l.getD t 0 = 0) → val l = 0 := by
    intro l
    induction l with
    | nil => intro _; rfl
    | cons x l ih =>
      intro hl
      have h0 := hl 0
      simp at h0
      rw [val_cons, h0, ih (fun t => by have := hl (t + 1); simpa using this)]
  refine hd _ fun t => ?_
  have := hz (k + t) (by omega)
  simpa [List.getD, List.getElem?_drop] using this

/-- limbs laid over noughts -/
theorem val_lay {zs ys : List Nat} {k : Nat} (hz : ∀ t, k ≤ t → zs.getD t 0 = 0) (hl : k + ys.length ≤ zs.length) : val (zs.take k ++ (ys ++ zs.drop (k + ys.length))) = val zs + 4294967296 ^ k * val ys := by
  have h1 : val (zs.drop (k + ys.length)) = 0 := val_drop_zero fun t ht => hz t (by omega)
  have h2 : val (zs.take k) = val zs := by
    have := val_split zs k (by omega)
    rw [val_drop_zero hz] at this
    omega
  rw [val_append, val_append, h1, h2, List.length_take, Nat.min_eq_left (by omega), Nat.mul_zero, Nat.add_zero]

theorem lay_zero {zs ys : List Nat} {k t : Nat} (hz : ∀ t, k ≤ t → zs.getD t 0 = 0) (hl : k + ys.length ≤ zs.length) (ht : k + ys.length ≤ t) : (zs.take k ++ (ys ++ zs.drop (k + ys.length))).getD t 0 = 0 := by
  have h1 : (zs.take k).length = k := by rw [List.length_take]; omega
  have := hz t (by omega)
  simp only [List.getD] at this ⊢
  rw [List.getElem?_append_right (by omega), List.getElem?_append_right (by omega), h1, List.getElem?_drop, ← this]
  congr 2
  omega

theorem wf_lay {zs ys : List Nat} {k : Nat} (hz : Wf zs) (hy : Wf ys) : Wf (zs.take k ++ (ys ++ zs.drop (k + ys.length))) := by
  intro x hx
  rcases List.mem_append.1 hx with hx | hx
  · exact hz x (List.mem_of_mem_take hx)
  · rcases List.mem_append.1 hx with hx | hx
    · exact hy x hx
    · exact hz x (List.mem_of_mem_drop hx)

theorem len_lay {zs ys : List Nat} {k : Nat} (hl : k + ys.length ≤ zs.length) : (zs.take k ++ (ys ++ zs.drop (k + ys.length))).length = zs.length := by
  simp; omega

end Go.Proofs.YtocdlaakcecieaaDoor

/- The contract of times.bare: the limbs without the noughts at the end, not copied. -/
namespace Go.Proofs.YtocdlaakcecieaaDoor
open Go.RowKit

/-- A slice that reads ys, of at most k limbs; memory stays. -/
def BareOf (w : World) (ys : List Nat) (k : Nat) (e : Ending) (w' : World) : Prop :=
  ∃ ao n cap, e = .returned (.slice ao n cap) ∧ Sl w ao n cap ys ∧ n ≤ k ∧ w = w'

theorem Sl.take {w : World} {ao : Option Addr} {n cap : Nat} {xs : List Nat} (h : Sl w ao n cap xs) (k : Nat) (hk : k ≤ n) : Sl w ao k cap (xs.take k) :=
  ⟨by rw [List.length_take, h.len]; omega, by have := h.le; omega, by have := h.big; omega, h.wf |> fun hw x hx => hw x (List.mem_of_mem_take hx), h.nil, fun ad had t ht => by
    rw [h.cells ad had t (by omega)]
    congr 3
    simp [List.getD, ht]⟩

theorem nbits_up {xs : List Nat} (h : Wf xs) : (nbits (val xs) + 31) / 32 = nl xs := by
  by_cases h0 : nl xs = 0
  · have : val xs = 0 := trimL_nil.1 (trimL_nil_of h0)
    rw [this, h0]; rfl
  · obtain ⟨k, hk⟩ : ∃ k, nl xs = k + 1 := ⟨nl xs - 1, by omega⟩
    have h1 := nbits_val h k hk
    have hlt : xs.getD k 0 < 4294967296 := by
      by_cases ht : k < xs.length
      · simp only [List.getD, List.getElem?_eq_getElem ht, Option.getD_some]
        exact h _ (List.getElem_mem ht)
      · simp [List.getD, List.getElem?_eq_none (by omega : xs.length ≤ k)]
    have h2 : nbits (xs.getD k 0) ≤ 32 := nbits_le (by omega)
    have h3 : nbits (xs.getD k 0) ≠ 0 := by
      intro hz
      have hz' := nbits_eq_zero.1 hz
      have := nl_take_zero xs k (by have := nl_le xs; omega) hz'
      have h5 := nl_le (xs.take k)
      rw [List.length_take] at h5
      have h6 : nl (xs.take (k + 1)) = k + 1 := by
        have e : xs.take (k + 1) = trimL xs := by rw [trimL_take, hk]
        rw [e]
        unfold nl
        have := trimL_take (trimL xs)
        have h7 : trimL (trimL xs) = trimL xs := by rw [trim_limbs xs h, trim_of_limbs]
        rw [h7]; exact hk
      omega
    omega

end Go.Proofs.YtocdlaakcecieaaDoor


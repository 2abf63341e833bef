/-
  Quotients of whole numbers, in plain numbers: parts in lowest terms, signs, order (over the numbers Rat of Lean itself).
-/
set_option maxRecDepth 8192
namespace Go.Proofs.YteceomlbnajihaaGreatDoor

/-- the number of a fraction's data: a lower part of 0 counts as 1 -/
def qv (n d : Int) : Rat := Rat.divInt n (if d = 0 then 1 else d)

theorem tdiv_dvd {n g : Int} (h : g ∣ n) : n.tdiv g = n / g := by
  obtain ⟨k, rfl⟩ := h
  by_cases hg : g = 0
  · subst hg; simp
  · rw [Int.mul_tdiv_cancel_left _ hg, Int.mul_ediv_cancel_left _ hg]

theorem q_num_pos {n d : Int} (h : 0 < d) : (Rat.divInt n d).num = n.tdiv ((n.gcd d : Nat) : Int) := by
  rw [Rat.num_divInt, Int.sign_eq_one_of_pos h, Int.one_mul, tdiv_dvd (Int.gcd_dvd_left _ _), Int.gcd_comm]

theorem q_den_pos {n d : Int} (h : 0 < d) : ((Rat.divInt n d).den : Int) = d.tdiv ((n.gcd d : Nat) : Int) := by
  rw [Rat.den_divInt, if_neg (by omega), tdiv_dvd (Int.gcd_dvd_right _ _), Int.gcd_comm]
  have e : ((d.natAbs : Nat) : Int) = d := by omega
  rw [Int.natCast_ediv, e]

theorem divInt_neg_neg (n d : Int) : Rat.divInt (-n) (-d) = Rat.divInt n d := by
  by_cases h : d = 0
  · subst h; simp
  · have := @Rat.divInt_mul_right n d (-1) (by omega)
    simpa using this

theorem q_num_neg {n d : Int} (h : d < 0) : (Rat.divInt n d).num = (-n).tdiv (((-n).gcd (-d) : Nat) : Int) := by
  rw [← divInt_neg_neg, q_num_pos (by omega)]

theorem q_den_neg {n d : Int} (h : d < 0) : ((Rat.divInt n d).den : Int) = (-d).tdiv (((-n).gcd (-d) : Nat) : Int) := by
  rw [← divInt_neg_neg, q_den_pos (by omega)]

theorem q_gcd_pos {n d : Int} (h : d ≠ 0) : ((n.gcd d : Nat) : Int) ≠ 0 := by
  have := Int.gcd_pos_of_ne_zero_right n h
  omega

theorem q_sign {n d : Int} (h : d ≠ 0) : (Rat.divInt n d).num.sign = n.sign * d.sign := by
  have hp : ∀ {n d : Int}, 0 < d → (Rat.divInt n d).num.sign = n.sign := by
    intro n d hd
    rw [q_num_pos hd]
    have hg : 0 < ((n.gcd d : Nat) : Int) := by have := q_gcd_pos (n := n) (d := d) (by omega); omega
    obtain ⟨k, hk⟩ : ((n.gcd d : Nat) : Int) ∣ n := Int.gcd_dvd_left _ _
    obtain ⟨g, hgg⟩ : ∃ g, g = ((n.gcd d : Nat) : Int) := ⟨_, rfl⟩
    rw [← hgg] at hk hg ⊢
    rw [hk, Int.mul_tdiv_cancel_left _ (by omega), Int.sign_mul, Int.sign_eq_one_of_pos hg, Int.one_mul]
  by_cases hd : 0 < d
  · rw [hp hd, Int.sign_eq_one_of_pos hd, Int.mul_one]
  · rw [← divInt_neg_neg, hp (by omega), Int.sign_neg, Int.sign_eq_neg_one_of_neg (show d < 0 by omega)]
    omega

theorem q_num_le (n d : Int) (h : d ≠ 0) : (Rat.divInt n d).num.natAbs ≤ n.natAbs := by
  have hp : ∀ {n d : Int}, 0 < d → (Rat.divInt n d).num.natAbs ≤ n.natAbs := by
    intro n d hd
    rw [q_num_pos hd, Int.natAbs_tdiv]
    exact Nat.div_le_self _ _
  by_cases hd : 0 < d
  · exact hp hd
  · have := hp (n := -n) (d := -d) (by omega)
    rw [divInt_neg_neg, Int.natAbs_neg] at this
    exact this

theorem q_den_le (n d : Int) (h : d ≠ 0) : (Rat.divInt n d).den ≤ d.natAbs := by
  rw [Rat.den_divInt, if_neg h]
  exact Nat.div_le_self _ _

theorem q_zero {n d : Int} (h : d ≠ 0) : Rat.divInt n d = 0 ↔ n = 0 := by
  rw [← Rat.num_eq_zero]
  have := q_sign (n := n) h
  constructor
  · intro h0
    rw [h0] at this
    have h1 : n.sign * d.sign = 0 := by rw [← this]; rfl
    rcases Int.mul_eq_zero.1 h1 with h2 | h2
    · exact Int.sign_eq_zero_iff_zero.1 h2
    · exact absurd (Int.sign_eq_zero_iff_zero.1 h2) h
  · intro h0; subst h0; simp

theorem q_add (a b : Rat) : a + b = Rat.divInt (a.num * b.den + b.num * a.den) (a.den * b.den) := by
  have ha := a.den_nz; have hb := b.den_nz
  conv => lhs; rw [← Rat.num_divInt_den a, ← Rat.num_divInt_den b]
  rw [Rat.divInt_add_divInt _ _ (by omega) (by omega)]

theorem q_mul (a b : Rat) : a * b = Rat.divInt (a.num * b.num) (a.den * b.den) := by
  conv => lhs; rw [← Rat.num_divInt_den a, ← Rat.num_divInt_den b]
  rw [Rat.divInt_mul_divInt]

theorem q_div (a b : Rat) : a / b = Rat.divInt (a.num * b.den) (a.den * b.num) := by
  rw [Rat.div_def]
  conv => lhs; rw [← Rat.num_divInt_den a, ← Rat.num_divInt_den b, Rat.inv_divInt]
  rw [Rat.divInt_mul_divInt]

/-- how two numbers stand: the sign of the product across -/
theorem q_cmp (a b : Rat) : (a - b).num.sign = (a.num * b.den - b.num * a.den).sign := by
  have ha := a.den_nz; have hb := b.den_nz
  have e : a - b = a + -b := by grind
  rw [e, q_add, q_sign (by
    have h1 : (0 : Int) < (a.den : Int) := by omega
    have h2 : (0 : Int) < ((-b).den : Int) := by rw [Rat.neg_den]; omega
    have := Int.mul_pos h1 h2
    omega)]
  rw [Rat.neg_den, Rat.neg_num]
  have h3 : (0 : Int) < (a.den : Int) * (b.den : Int) := Int.mul_pos (by omega) (by omega)
  rw [Int.sign_eq_one_of_pos h3, Int.mul_one, Int.neg_mul]
  rfl

theorem q_sign_mul (a b : Rat) : (a * b).num.sign = a.num.sign * b.num.sign := by
  have ha := a.den_nz; have hb := b.den_nz
  have h3 : (0 : Int) < (a.den : Int) * (b.den : Int) := Int.mul_pos (by omega) (by omega)
  rw [q_mul, q_sign (by omega), Int.sign_eq_one_of_pos h3, Int.mul_one, Int.sign_mul]

theorem q_sign_pos (a : Rat) : a.num.sign = 1 ↔ 0 < a := by
  rw [Int.sign_eq_one_iff_pos]
  have h1 : 0 ≤ a.num ↔ 0 ≤ a := Rat.num_nonneg
  have h2 : a.num = 0 ↔ a = 0 := Rat.num_eq_zero
  constructor
  · intro h
    have h3 := h1.1 (by omega)
    have h4 : a ≠ 0 := fun e => by have := h2.2 e; omega
    grind
  · intro h
    have h3 := h1.2 (by grind)
    have h4 : a.num ≠ 0 := fun e => by have := h2.1 e; grind
    omega

theorem q_sign_zero (a : Rat) : a.num.sign = 0 ↔ a = 0 := by
  rw [Int.sign_eq_zero_iff_zero]; exact Rat.num_eq_zero

/-- data that is in lowest terms with a lower part above 0 is the number's own -/
theorem q_low {n : Int} {d : Nat} (hd : 0 < d) (hg : n.gcd d = 1) : (Rat.divInt n d).num = n ∧ (Rat.divInt n d).den = d := by
  have h1 := q_num_pos (n := n) (d := (d : Int)) (by omega)
  have h2 := q_den_pos (n := n) (d := (d : Int)) (by omega)
  rw [hg] at h1 h2
  simp at h1 h2
  have h3 : ((Rat.divInt n d).den : Int) = (d : Int) := by simpa using h2
  exact ⟨by simpa using h1, Int.ofNat.inj h3⟩

theorem q_parts (a : Rat) : a.num.gcd a.den = 1 := by
  have := a.reduced
  simpa [Nat.Coprime, Int.gcd] using this

/-- the sign of a number; how two stand is the sign of what is between them -/
def qs (a : Rat) : Int := a.num.sign

theorem qs_mul (a b : Rat) : qs (a * b) = qs a * qs b := q_sign_mul a b
theorem qs_neg (a : Rat) : qs (-a) = -qs a := by unfold qs; rw [Rat.neg_num, Int.sign_neg]
theorem qs_half : qs (1/2 : Rat) = 1 := (q_sign_pos _).2 (by decide +kernel)
theorem qs_zero (a : Rat) : qs a = 0 ↔ a = 0 := q_sign_zero a
theorem qs_low (x y : Rat) : qs (x - (x + y) * (1/2)) = qs (x - y) := by
  have e : x - (x + y) * (1/2) = (x - y) * (1/2) := by grind
  rw [e, qs_mul, qs_half, Int.mul_one]
theorem qs_high (x y : Rat) : qs ((x + y) * (1/2) - y) = qs (x - y) := by
  have e : (x + y) * (1/2) - y = (x - y) * (1/2) := by grind
  rw [e, qs_mul, qs_half, Int.mul_one]
theorem qs_times (x y z : Rat) : qs (x * z - y * z) = qs (x - y) * qs z := by
  rw [← qs_mul]
  congr 1
  grind
theorem qs_plus (x y z : Rat) : qs ((x + z) - (y + z)) = qs (x - y) := by
  congr 1
  grind
theorem qs_same (x : Rat) : qs (x - x) = 0 := by
  rw [qs_zero]
  grind
theorem qs_inv {x : Rat} (h : x ≠ 0) : qs (1 / x) = qs x := by
  have h1 : qs ((1 / x) * x) = 1 := by
    have e : (1 / x) * x = 1 := by grind
    rw [e]; decide +kernel
  rw [qs_mul] at h1
  unfold qs at *
  have ha := Int.sign_trichotomy (1 / x).num
  have hb := Int.sign_trichotomy x.num
  rcases ha with h2 | h2 | h2 <;> rcases hb with h3 | h3 | h3 <;> rw [h2, h3] at h1 ⊢ <;> omega

end Go.Proofs.YteceomlbnajihaaGreatDoor
